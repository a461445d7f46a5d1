/- Survey: the downtime both ways; entries converted. -/
import Derived.Test.YtlioomhcdlicmaaGreatDoorC13
set_option linter.all false
/- Survey: the downtime, both ways. -/
namespace Go.Proofs.YtlioomhcdlicmaaGreatDoor
open Go Go.Ab Go.Fl
attribute [local irreducible] SeqQ BlkQ LpQ RetQ Wc Wo WD WX Op1 Op1q Op1a Cf Cl From
attribute [local irreducible] Ieee.Format.order Ieee.Format.read Ieee.Format.nearest Ieee.Format.write Ieee.Format.mul Ieee.Format.div Ieee.Format.sqrt Ieee.Datum.order Ieee.Datum.integral K U rngE errN ptE firstNZ vesE watE sgE sgsE allE hitB sqD insB qsL lvl rn rl altB
set_option maxRecDepth 10000
variable {G : Base} {h : H}

attribute [local irreducible] spE numM cauW cnum cauN enE hrK
theorem six_bd {l : List En} (hv : ∀ e ∈ l, enE e = 0) {n : Nat} (hn : n ≤ 64) {z0 z1 z2 z3 z4 z5 : Int} (hz : hrK l n = [z0, z1, z2, z3, z4, z5]) : (0 ≤ z0 ∧ z0 ≤ 6400000) ∧ (0 ≤ z1 ∧ z1 ≤ 6400000) ∧ (0 ≤ z2 ∧ z2 ≤ 6400000) ∧ (0 ≤ z3 ∧ z3 ≤ 6400000) ∧ (0 ≤ z4 ∧ z4 ≤ 6400000) ∧ (0 ≤ z5 ∧ z5 ≤ 6400000) := by
  have b := hrK_bd hv n
  rw [hz] at b
  have b0 := b 0
  have b1 := b 1
  have b2 := b 2
  have b3 := b 3
  have b4 := b 4
  have b5 := b 5
  simp only [List.getD, List.getElem?_cons_zero, List.getElem?_cons_succ, Option.getD_some] at b0 b1 b2 b3 b4 b5
  omega
attribute [local irreducible] lowN lowD
end Go.Proofs.YtlioomhcdlicmaaGreatDoor

/- Survey: the downtime by the reference; entries converted. -/
namespace Go.Proofs.YtlioomhcdlicmaaGreatDoor
open Go Go.Ab Go.Fl
attribute [local irreducible] SeqQ BlkQ LpQ RetQ Wc Wo WD WX Op1 Op1q Op1a Cf Cl From
attribute [local irreducible] Ieee.Format.order Ieee.Format.read Ieee.Format.nearest Ieee.Format.write Ieee.Format.mul Ieee.Format.div Ieee.Format.sqrt Ieee.Datum.order Ieee.Datum.integral K U rngE errN ptE firstNZ vesE watE sgE sgsE allE hitB sqD insB qsL lvl rn rl altB
set_option maxRecDepth 10000
variable {G : Base} {h : H}

attribute [local irreducible] spE numM cauW cnum cauN enE hrK lowN lowD
set_option maxHeartbeats 4000000 in
theorem c40 {v : Value} {n : Nat} {l : List En} (s : Sl G h 3 v n (l.flatMap En.cells)) (hl : l.length = n) (hn : n < 1000000) (hw : Wf h) : Cf (mz G) (.func (.func 40) #[] #[]) [v] h fun r h' => Sl G h' 3 r n (l.flatMap En.cells) ∧ Grow h h' := by
  obtain ⟨a, c, rfl⟩ := s.form
  refine cf_enter0 18 [.tmp 2] Tryz.func40 rfl rfl rfl rfl ?_
  repeat' (first | with_reducible refine wo_nil ?_ | ((with_reducible refine wo_any ?_); first | ((with_reducible refine ik_move ?_); refine wo_op rfl (op_move rfl) rfl rfl ?_) | ((with_reducible refine ik_assign ?_); refine wo_op rfl (op_assign rfl) rfl rfl ?_) | ((with_reducible refine ik_callb ?_); refine wo_op rfl (op_lenSl rfl Tryz.underlying83) rfl rfl ?_)) | with_reducible refine sq_norm ?_ | with_reducible refine wc_seq ?_ | with_reducible refine wc_region ?_ | with_reducible refine wc_block ?_)
  refine wc_loop (fun p : Nat × Value => n - p.1) (fun p => [(3, p.2), (6, .slice a n c), (7, .int .i64 n), (8, .int .i64 (p.1 : Nat))]) (fun p h' => (Wf h' ∧ Grow h h') ∧ p.1 ≤ n ∧ ((p.2 = .slice none 0 0 ∧ p.1 = 0) ∨ ∃ e, h.nx ≤ e ∧ p.2 = .slice (some ⟨e, 0, some 0⟩) p.1 p.1 ∧ At h' e (.cells ((l.take p.1).flatMap En.cells) 133 3 true))) (0, .slice none 0 0) (within_lk ⟨rfl, rfl, rfl, rfl, trivial⟩) ⟨⟨wf_A, gr_A⟩, Nat.zero_le _, .inl ⟨rfl, rfl⟩⟩ ?_
  rintro ⟨k, v⟩ h1 ⟨⟨w1, g1⟩, hk, hv⟩
  simp only at hk hv ⊢
  have n1 := g1.nx
  by_cases hlt : k < n
  · obtain ⟨id, i1, i3⟩ := rl_at En.len ⟨0, 0, .empty⟩ (s.grow g1) hl Tryz.underlying83 zs184 (i := (k : Int)) hlt rfl
    obtain ⟨p, hp⟩ : ∃ p, l.getD k ⟨0, 0, .empty⟩ = p := ⟨_, rfl⟩
    have e1 : (l.take (k + 1)).flatMap En.cells = (l.take k).flatMap En.cells ++ p.cells := by
      rw [take_next ⟨0, 0, .empty⟩ (by omega), hp, List.flatMap_append]; simp
    rw [hp] at i3
    obtain ⟨f, t, cz⟩ := p
    dsimp only [En.cells] at i3
    rcases hv with ⟨rfl, rfl⟩ | ⟨e, hb, rfl, hat⟩
    · repeat' (first | with_reducible refine wo_nil ?_ | ((with_reducible refine wo_any ?_); first | ((with_reducible refine ik_move ?_); refine wo_op rfl (op_move rfl) rfl rfl ?_) | ((with_reducible refine ik_assign ?_); refine wo_op rfl (op_assign rfl) rfl rfl ?_) | ((with_reducible refine ik_indexAddr ?_); refine wo_op rfl (op_indexAddr rfl rfl i1) rfl rfl ?_) | ((with_reducible refine ik_load ?_); first | refine wo_op rfl (op_ldLn rfl Tryz.underlying184 rfl zs184 (i3 _ gr_A).all) rfl rfl ?_ | refine wo_op rfl (op_ldAgg rfl at_A Tryz.underlying184 rfl zs184 rfl rfl) rfl rfl ?_) | ((with_reducible refine ik_callb ?_); refine wo_op rfl (op_append rfl rfl (append_nil_eq (M := mz G) (st := 85) (xt := 85) (m := 1) Tryz.underlying85 Tryz.underlying85 rfl zs133 zb133 zz133 rfl (Sl.ofAt at_A rfl (Nat.le_refl _)) rfl (by omega) (by omega))) rfl rfl ?_) | ((with_reducible refine ik_bin ?_); first | refine wo_op rfl (op_lss rfl rfl) rfl rfl ?_ | refine wo_op rfl (op_add' rfl rfl (w64 (by omega) (by omega))) rfl rfl ?_) | ((with_reducible refine ik_alloc ?_); refine wo_op rfl (op_alloc zz184 zs184 rfl rfl rfl) rfl rfl ?_) | ((with_reducible refine ik_store ?_); refine wo_op0 rfl (op_stAgg rfl rfl at_A zs184 rfl rfl rfl rfl) rfl ?_) | ((with_reducible refine ik_buildSlice ?_); refine wo_op rfl (op_buildSl rfl Tryz.underlying85 zs133 zz133 rfl rfl) rfl rfl ?_)) | with_reducible refine sq_norm ?_ | with_reducible refine wc_seq ?_ | with_reducible refine wc_region ?_ | with_reducible refine wc_skip ?_ | with_reducible refine wc_block ?_ | with_reducible refine bq_norm ?_ | (refine wc_if rfl (fun hb => ?_) (fun hb => dead_A hb); (try simp only [decide_eq_true_eq, decide_eq_false_iff_not, Bool.not_eq_true', Bool.not_eq_false', Int.not_lt, Int.not_le, Decidable.not_not, not_true_eq_false, not_false_eq_true, beq_self_eq_true, reduceCtorEq] at hb)))
      exact lq_norm (0 + 1, .slice (some ⟨_, 0, some 0⟩) (0 + 1) (0 + 1)) (by simp only; omega) (within_lk ⟨rfl, rfl, rfl, rfl, trivial⟩) ⟨⟨wf_A, gr_A⟩, by simp only; omega, .inr ⟨_, by simp only [H.nx_push, H.nx_set, H.nx_bump, H.nx_kill]; omega, rfl, by simp only; rw [e1]; exact at_A⟩⟩
    · have l1 := hat.lt
      repeat' (first | with_reducible refine wo_nil ?_ | ((with_reducible refine wo_any ?_); first | ((with_reducible refine ik_move ?_); refine wo_op rfl (op_move rfl) rfl rfl ?_) | ((with_reducible refine ik_assign ?_); refine wo_op rfl (op_assign rfl) rfl rfl ?_) | ((with_reducible refine ik_indexAddr ?_); refine wo_op rfl (op_indexAddr rfl rfl i1) rfl rfl ?_) | ((with_reducible refine ik_load ?_); first | refine wo_op rfl (op_ldLn rfl Tryz.underlying184 rfl zs184 (i3 _ gr_A).all) rfl rfl ?_ | refine wo_op rfl (op_ldAgg rfl at_A Tryz.underlying184 rfl zs184 rfl rfl) rfl rfl ?_) | ((with_reducible refine ik_callb ?_); refine wo_op rfl (op_append rfl rfl (append_own_eq (M := mz G) (st := 85) (xt := 85) (m := 1) Tryz.underlying85 Tryz.underlying85 rfl zs133 zb133 zz133 rfl (Sl.ofAt at_A rfl (Nat.le_refl _)) rfl (b := e) (c := (l.take k).flatMap En.cells) at_A (by rw [En.flat, List.length_take]; omega) (by omega) (by omega))) rfl rfl ?_) | ((with_reducible refine ik_bin ?_); first | refine wo_op rfl (op_lss rfl rfl) rfl rfl ?_ | refine wo_op rfl (op_add' rfl rfl (w64 (by omega) (by omega))) rfl rfl ?_) | ((with_reducible refine ik_alloc ?_); refine wo_op rfl (op_alloc zz184 zs184 rfl rfl rfl) rfl rfl ?_) | ((with_reducible refine ik_store ?_); refine wo_op0 rfl (op_stAgg rfl rfl at_A zs184 rfl rfl rfl rfl) rfl ?_) | ((with_reducible refine ik_buildSlice ?_); refine wo_op rfl (op_buildSl rfl Tryz.underlying85 zs133 zz133 rfl rfl) rfl rfl ?_)) | with_reducible refine sq_norm ?_ | with_reducible refine wc_seq ?_ | with_reducible refine wc_region ?_ | with_reducible refine wc_skip ?_ | with_reducible refine wc_block ?_ | with_reducible refine bq_norm ?_ | (refine wc_if rfl (fun hb => ?_) (fun hb => dead_A hb); (try simp only [decide_eq_true_eq, decide_eq_false_iff_not, Bool.not_eq_true', Bool.not_eq_false', Int.not_lt, Int.not_le, Decidable.not_not, not_true_eq_false, not_false_eq_true, beq_self_eq_true, reduceCtorEq] at hb)))
      exact lq_norm (k + 1, .slice (some ⟨_, 0, some 0⟩) (k + 1) (k + 1)) (by simp only; omega) (within_lk ⟨rfl, rfl, rfl, rfl, trivial⟩) ⟨⟨wf_A, gr_A⟩, by simp only; omega, .inr ⟨_, by simp only [H.nx_push, H.nx_set, H.nx_bump, H.nx_kill]; omega, rfl, by simp only; rw [e1]; exact at_A⟩⟩
  · have hkn : k = n := by omega
    subst hkn
    rw [show l.take k = l by rw [List.take_of_length_le (by omega)]] at hv
    repeat' (first | with_reducible refine wo_nil ?_ | ((with_reducible refine wo_any ?_); first | ((with_reducible refine ik_move ?_); refine wo_op rfl (op_move rfl) rfl rfl ?_) | ((with_reducible refine ik_assign ?_); refine wo_op rfl (op_assign rfl) rfl rfl ?_) | ((with_reducible refine ik_bin ?_); refine wo_op rfl (op_lss rfl rfl) rfl rfl ?_)) | with_reducible refine sq_norm ?_ | with_reducible refine wc_seq ?_ | with_reducible refine wc_region ?_ | with_reducible refine wc_ret ?_ | with_reducible refine wc_exit ?_ | with_reducible refine sq_exit ?_ | with_reducible refine lq_exit ?_ | refine bq_eq rfl ?_ | (refine wc_if rfl (fun hb => ?_) (fun hb => ?_) <;> (try simp only [decide_eq_true_eq, decide_eq_false_iff_not, Bool.not_eq_true', Bool.not_eq_false', Int.not_lt, Int.not_le, Decidable.not_not, not_true_eq_false, not_false_eq_true, beq_self_eq_true, reduceCtorEq] at hb) <;> (try (exfalso; omega))))
    refine rq1 rfl ⟨?_, gr_A⟩
    rcases hv with ⟨rfl, rfl⟩ | ⟨e, hb, rfl, hat⟩
    · have htn : l = [] := by simpa using hl
      subst htn
      exact .nil
    · exact Sl.ofAt hat (by rw [En.flat, hl]) (Nat.le_refl _)

def shoE (l : List En) : Bool := l.all (fun e => decide (e.c.size ≤ 40)) && decide (l.length ≤ 10 ∨ l.length = 65)
set_option maxHeartbeats 4000000 in
theorem c38 {v : Value} {n : Nat} {l : List En} (s : Sl G h 3 v n (l.flatMap En.cells)) (hl : l.length = n) (hn : n ≤ maxLen) (hw : Wf h) : Cf (mz G) (.func (.func 38) #[] #[]) [v] h fun r h' => r = .bool (shoE l) ∧ Grow h h' := by
  obtain ⟨a, c, rfl⟩ := s.form
  have hml : maxLen = 9223372036854775807 := rfl
  refine cf_enter0 25 [.tmp 2] Tryz.func38 rfl rfl rfl rfl ?_
  repeat' (first | with_reducible refine wo_nil ?_ | ((with_reducible refine wo_any ?_); ((with_reducible refine ik_assign ?_); refine wo_op rfl (op_assign rfl) rfl rfl ?_)) | with_reducible refine sq_norm ?_ | with_reducible refine wc_seq ?_ | with_reducible refine wc_region ?_ | with_reducible refine wc_block ?_)
  refine wc_loop (fun i => n - i) (fun i : Nat => [(0, .slice a n c), (3, .int .i64 (i : Nat))]) (fun i h' => (Wf h' ∧ Grow h h') ∧ i ≤ n ∧ (l.take i).all (fun e => decide (e.c.size ≤ 40)) = true) 0 (within_lk ⟨rfl, rfl, trivial⟩) ⟨⟨wf_A, gr_A⟩, Nat.zero_le _, rfl⟩ ?_
  rintro i h1 ⟨⟨w1, g1⟩, hi, hp⟩
  have n1 := g1.nx
  by_cases hlt : i < n
  · obtain ⟨id, i1, i3⟩ := rl_at En.len ⟨0, 0, .empty⟩ (s.grow g1) hl Tryz.underlying83 zs184 (i := (i : Int)) hlt rfl
    have nx : (l.take (i + 1)).all (fun e => decide (e.c.size ≤ 40)) = ((l.take i).all (fun e => decide (e.c.size ≤ 40)) && decide ((l.getD i ⟨0, 0, .empty⟩).c.size ≤ 40)) := by
      rw [take_next ⟨0, 0, .empty⟩ (by omega), List.all_append]; simp
    have hm : l.getD i ⟨0, 0, .empty⟩ ∈ l := by simp [List.getD, List.getElem?_eq_getElem (show i < l.length by omega)]
    rw [hp, Bool.true_and] at nx
    obtain ⟨x0, hx⟩ : ∃ x, l.getD i ⟨0, 0, .empty⟩ = x := ⟨_, rfl⟩
    rw [hx] at i3 nx hm
    obtain ⟨f, t, cz⟩ := x0
    have ic := fun (h' : H) (g' : Grow h1 h') => (show acell G h' (aadd id 2) = some (.string cz) from (i3 h' g').get 2 _ rfl)
    dsimp only at nx
    by_cases h40 : cz.size ≤ 40
    · rw [decide_eq_true h40] at nx
      repeat' (first | with_reducible refine wo_nil ?_ | ((with_reducible refine wo_any ?_); first | ((with_reducible refine ik_move ?_); refine wo_op rfl (op_move rfl) rfl rfl ?_) | ((with_reducible refine ik_assign ?_); refine wo_op rfl (op_assign rfl) rfl rfl ?_) | ((with_reducible refine ik_indexAddr ?_); refine wo_op rfl (op_indexAddr rfl rfl i1) rfl rfl ?_) | ((with_reducible refine ik_load ?_); refine wo_op rfl (op_ldCell rfl Tryz.underlying9 rfl (ic _ gr_A)) rfl rfl ?_) | ((with_reducible refine ik_callb ?_); first | refine wo_op rfl (op_lenSl rfl Tryz.underlying83) rfl rfl ?_ | refine wo_op rfl (op_lenStr rfl Tryz.underlying9) rfl rfl ?_) | ((with_reducible refine ik_bin ?_); first | refine wo_op rfl (op_lss rfl rfl) rfl rfl ?_ | refine wo_op rfl (op_gtr rfl rfl) rfl rfl ?_ | refine wo_op rfl (op_add' rfl rfl (w64 (by omega) (by omega))) rfl rfl ?_) | ((with_reducible refine ik_fieldAddr ?_); refine wo_op rfl (op_fieldAddr (o := 2) rfl Tryz.underlying184 rfl zs9 rfl) rfl rfl ?_)) | with_reducible refine sq_norm ?_ | with_reducible refine wc_seq ?_ | with_reducible refine wc_region ?_ | with_reducible refine wc_skip ?_ | with_reducible refine wc_block ?_ | with_reducible refine bq_norm ?_ | (refine wc_if rfl (fun hb => dead_A hb) (fun hb => ?_); (try simp only [decide_eq_true_eq, decide_eq_false_iff_not, Bool.not_eq_true', Bool.not_eq_false', Int.not_lt, Int.not_le, Decidable.not_not, not_true_eq_false, not_false_eq_true, beq_self_eq_true, reduceCtorEq] at hb)) | (refine wc_if rfl (fun hb => ?_) (fun hb => dead_A hb); (try simp only [decide_eq_true_eq, decide_eq_false_iff_not, Bool.not_eq_true', Bool.not_eq_false', Int.not_lt, Int.not_le, Decidable.not_not, not_true_eq_false, not_false_eq_true, beq_self_eq_true, reduceCtorEq] at hb)))
      exact lq_norm (i + 1) (by omega) (within_lk ⟨rfl, rfl, trivial⟩) ⟨⟨wf_A, gr_A⟩, by omega, nx⟩
    · have hf : shoE l = false := by
        unfold shoE
        have : l.all (fun e => decide (e.c.size ≤ 40)) = false := by
          rw [← Bool.not_eq_true, List.all_eq_true]
          exact fun q => h40 (of_decide_eq_true (q _ hm))
        rw [this, Bool.false_and]
      rw [hf]
      repeat' (first | with_reducible refine wo_nil ?_ | ((with_reducible refine wo_any ?_); first | ((with_reducible refine ik_move ?_); refine wo_op rfl (op_move rfl) rfl rfl ?_) | ((with_reducible refine ik_assign ?_); refine wo_op rfl (op_assign rfl) rfl rfl ?_) | ((with_reducible refine ik_indexAddr ?_); refine wo_op rfl (op_indexAddr rfl rfl i1) rfl rfl ?_) | ((with_reducible refine ik_load ?_); refine wo_op rfl (op_ldCell rfl Tryz.underlying9 rfl (ic _ gr_A)) rfl rfl ?_) | ((with_reducible refine ik_callb ?_); first | refine wo_op rfl (op_lenSl rfl Tryz.underlying83) rfl rfl ?_ | refine wo_op rfl (op_lenStr rfl Tryz.underlying9) rfl rfl ?_) | ((with_reducible refine ik_bin ?_); first | refine wo_op rfl (op_lss rfl rfl) rfl rfl ?_ | refine wo_op rfl (op_gtr rfl rfl) rfl rfl ?_) | ((with_reducible refine ik_fieldAddr ?_); refine wo_op rfl (op_fieldAddr (o := 2) rfl Tryz.underlying184 rfl zs9 rfl) rfl rfl ?_)) | with_reducible refine sq_norm ?_ | with_reducible refine wc_seq ?_ | with_reducible refine wc_region ?_ | with_reducible refine wc_skip ?_ | with_reducible refine wc_ret ?_ | with_reducible refine wc_block ?_ | with_reducible refine bq_ret ?_ | with_reducible refine sq_ret ?_ | with_reducible refine lq_ret ?_ | (refine wc_if rfl (fun hb => ?_) (fun hb => dead_A hb); (try simp only [decide_eq_true_eq, decide_eq_false_iff_not, Bool.not_eq_true', Bool.not_eq_false', Int.not_lt, Int.not_le, Decidable.not_not, not_true_eq_false, not_false_eq_true, beq_self_eq_true, reduceCtorEq] at hb)))
      exact rq1 rfl ⟨rfl, gr_A⟩
  · rw [List.take_of_length_le (by omega)] at hp
    have hf : shoE l = decide (n ≤ 10 ∨ n = 65) := by unfold shoE; rw [hp, Bool.true_and, hl]
    rw [hf]
    repeat' (first | with_reducible refine wo_nil ?_ | ((with_reducible refine wo_any ?_); first | ((with_reducible refine ik_move ?_); refine wo_op rfl (op_move rfl) rfl rfl ?_) | ((with_reducible refine ik_assign ?_); refine wo_op rfl (op_assign rfl) rfl rfl ?_) | ((with_reducible refine ik_callb ?_); refine wo_op rfl (op_lenSl rfl Tryz.underlying83) rfl rfl ?_) | ((with_reducible refine ik_bin ?_); first | refine wo_op rfl (op_lss rfl rfl) rfl rfl ?_ | refine wo_op rfl (op_leq rfl rfl) rfl rfl ?_) | ((with_reducible refine ik_pick ?_); first | refine wo_op rfl (op_pickt rfl rfl) rfl rfl ?_ | refine wo_op rfl (op_pickf rfl rfl) rfl rfl ?_) | ((with_reducible refine ik_g ?_); first | refine wo_gskip rfl rfl rfl rfl rfl rfl ?_ | ((with_reducible refine ig_move ?_); refine wo_grun rfl rfl rfl (op_move rfl) rfl rfl ?_) | ((with_reducible refine ig_callb ?_); refine wo_grun rfl rfl rfl (op_lenSl rfl Tryz.underlying83) rfl rfl ?_) | ((with_reducible refine ig_bin ?_); refine wo_grun rfl rfl rfl (op_eql rfl rfl) rfl rfl ?_) | (refine wo_gsplit rfl rfl rfl (fun hb => ?_) (fun hb => ?_) <;> (try simp only [decide_eq_true_eq, decide_eq_false_iff_not, Bool.not_eq_true', Bool.not_eq_false', Int.not_lt, Int.not_le, Decidable.not_not, not_true_eq_false, not_false_eq_true, beq_self_eq_true, reduceCtorEq] at hb) <;> (try (exfalso; omega))))) | with_reducible refine sq_norm ?_ | with_reducible refine wc_seq ?_ | with_reducible refine wc_region ?_ | with_reducible refine wc_ret ?_ | with_reducible refine wc_exit ?_ | with_reducible refine sq_exit ?_ | with_reducible refine lq_exit ?_ | refine bq_eq rfl ?_ | (refine wc_if rfl (fun hb => ?_) (fun hb => ?_) <;> (try simp only [decide_eq_true_eq, decide_eq_false_iff_not, Bool.not_eq_true', Bool.not_eq_false', Int.not_lt, Int.not_le, Decidable.not_not, not_true_eq_false, not_false_eq_true, beq_self_eq_true, reduceCtorEq] at hb) <;> (try (exfalso; omega))))
    all_goals refine rq1 rfl ⟨?_, gr_A⟩
    all_goals first
      | (congr 1; exact (decide_eq_true (by omega)).symm)
      | (congr 1; exact (decide_eq_false (by omega)).symm)
      | (congr 1; rw [decide_eq_decide]; omega)
end Go.Proofs.YtlioomhcdlicmaaGreatDoor
