/- Survey: the diary by the program; what entries are. -/
import Derived.Test.YtlioomhcdlicmaaGreatDoorC9
set_option linter.all false
/- Survey: the diary by the program. -/
namespace Go.Proofs.YtlioomhcdlicmaaGreatDoor
open Go Go.Ab Go.Fl
attribute [local irreducible] SeqQ BlkQ LpQ RetQ Wc Wo WD WX Op1 Op1q Op1a Cf Cl From
attribute [local irreducible] Ieee.Format.order Ieee.Format.read Ieee.Format.nearest Ieee.Format.write Ieee.Format.mul Ieee.Format.div Ieee.Format.sqrt Ieee.Datum.order Ieee.Datum.integral K U rngE errN ptE firstNZ vesE watE sgE sgsE allE hitB sqD insB qsL lvl rn rl altB cauS
set_option maxRecDepth 10000
variable {G : Base} {h : H}

attribute [local irreducible] fl silN insN levN inL leL
structure En where
  f : Int
  t : Int
  c : ByteArray
@[reducible] def En.cells (p : En) : List Value := [.int .i64 p.f, .int .i64 p.t, .string p.c]
theorem En.len (p : En) : p.cells.length = 3 := rfl
theorem En.flat {l : List En} : (l.flatMap En.cells).length = l.length * 3 := flat_len En.len l
end Go.Proofs.YtlioomhcdlicmaaGreatDoor

/- Survey: entries by the reference. -/
namespace Go.Proofs.YtlioomhcdlicmaaGreatDoor
open Go Go.Ab Go.Fl
attribute [local irreducible] SeqQ BlkQ LpQ RetQ Wc Wo WD WX Op1 Op1q Op1a Cf Cl From
attribute [local irreducible] Ieee.Format.order Ieee.Format.read Ieee.Format.nearest Ieee.Format.write Ieee.Format.mul Ieee.Format.div Ieee.Format.sqrt Ieee.Datum.order Ieee.Datum.integral K U rngE errN ptE firstNZ vesE watE sgE sgsE allE hitB sqD insB qsL lvl
set_option maxRecDepth 10000
variable {G : Base} {h : H}

attribute [local irreducible] fl silN insN levN inL leL cauS
theorem eg184 : Tryz.prog.eqGuardType Tryz.prog.depth 184 = false := by kernel_rfl
theorem eqv184 (a b p q : Int) (c r : ByteArray) : eqV Tryz.prog 5 184 [.int .i64 a, .int .i64 b, .string c] [.int .i64 p, .int .i64 q, .string r] = some ((decide (a = p) && (decide (b = q) && true)) && (decide (c = r) && true)) := by kernel_rfl
theorem eqv184_same (a b : Int) (c : ByteArray) : eqV Tryz.prog 5 184 [.int .i64 a, .int .i64 b, .string c] [.int .i64 a, .int .i64 b, .string c] = some true := by rw [eqv184]; simp
theorem op_seqE {M : Mc} {l : KL} {h : H} {t ty : TypeId} {x y : Operand} {a b : ByteArray} (hx : val l x = some (.string a)) (hy : val l y = some (.string b)) (hab : a = b) : Op1 M (.binOp .eql t x y ty) l h (.bool true) h := by
  have := op_seq (M := M) (h := h) (t := t) (ty := ty) hx hy
  rwa [decide_eq_true hab] at this
theorem op_seqN {M : Mc} {l : KL} {h : H} {t ty : TypeId} {x y : Operand} {a b : ByteArray} (hx : val l x = some (.string a)) (hy : val l y = some (.string b)) (hab : ¬a = b) : Op1 M (.binOp .eql t x y ty) l h (.bool false) h := by
  have := op_seq (M := M) (h := h) (t := t) (ty := ty) hx hy
  rwa [decide_eq_false hab] at this
set_option maxHeartbeats 4000000 in
theorem c51 {v : Value} {n : Nat} {l : List En} (s : Sl G h 3 v n (l.flatMap En.cells)) (hl : l.length = n) (hn : n < 1000000) (hw : Wf h) : Cf (mz G) (.func (.func 51) #[] #[]) [v] h fun r h' => Sl G h' 3 r n (l.flatMap En.cells) ∧ Grow h h' := by
  obtain ⟨a, c, rfl⟩ := s.form
  refine cf_enter0 18 [.tmp 2] Tryz.func51 rfl rfl rfl rfl ?_
  repeat' (first | with_reducible refine wo_nil ?_ | ((with_reducible refine wo_any ?_); first | ((with_reducible refine ik_move ?_); refine wo_op rfl (op_move rfl) rfl rfl ?_) | ((with_reducible refine ik_assign ?_); refine wo_op rfl (op_assign rfl) rfl rfl ?_) | ((with_reducible refine ik_callb ?_); refine wo_op rfl (op_lenSl rfl Tryz.underlying85) rfl rfl ?_)) | with_reducible refine sq_norm ?_ | with_reducible refine wc_seq ?_ | with_reducible refine wc_region ?_ | with_reducible refine wc_block ?_)
  refine wc_loop (fun p : Nat × Value => n - p.1) (fun p => [(3, p.2), (6, .slice a n c), (7, .int .i64 n), (8, .int .i64 (p.1 : Nat))]) (fun p h' => (Wf h' ∧ Grow h h') ∧ p.1 ≤ n ∧ ((p.2 = .slice none 0 0 ∧ p.1 = 0) ∨ ∃ e, h.nx ≤ e ∧ p.2 = .slice (some ⟨e, 0, some 0⟩) p.1 p.1 ∧ At h' e (.cells ((l.take p.1).flatMap En.cells) 184 3 true))) (0, .slice none 0 0) (within_lk ⟨rfl, rfl, rfl, rfl, trivial⟩) ⟨⟨wf_A, gr_A⟩, Nat.zero_le _, .inl ⟨rfl, rfl⟩⟩ ?_
  rintro ⟨k, v⟩ h1 ⟨⟨w1, g1⟩, hk, hv⟩
  simp only at hk hv ⊢
  have n1 := g1.nx
  by_cases hlt : k < n
  · obtain ⟨id, i1, i3⟩ := rl_at En.len ⟨0, 0, .empty⟩ (s.grow g1) hl Tryz.underlying85 zs133 (i := (k : Int)) hlt rfl
    obtain ⟨p, hp⟩ : ∃ p, l.getD k ⟨0, 0, .empty⟩ = p := ⟨_, rfl⟩
    have e1 : (l.take (k + 1)).flatMap En.cells = (l.take k).flatMap En.cells ++ p.cells := by
      rw [take_next ⟨0, 0, .empty⟩ (by omega), hp, List.flatMap_append]; simp
    rw [hp] at i3
    obtain ⟨f, t, cz⟩ := p
    dsimp only [En.cells] at i3
    rcases hv with ⟨rfl, rfl⟩ | ⟨e, hb, rfl, hat⟩
    · repeat' (first | with_reducible refine wo_nil ?_ | ((with_reducible refine wo_any ?_); first | ((with_reducible refine ik_move ?_); refine wo_op rfl (op_move rfl) rfl rfl ?_) | ((with_reducible refine ik_assign ?_); refine wo_op rfl (op_assign rfl) rfl rfl ?_) | ((with_reducible refine ik_indexAddr ?_); refine wo_op rfl (op_indexAddr rfl rfl i1) rfl rfl ?_) | ((with_reducible refine ik_load ?_); first | refine wo_op rfl (op_ldLn rfl Tryz.underlying133 rfl zs133 (i3 _ gr_A).all) rfl rfl ?_ | refine wo_op rfl (op_ldAgg rfl at_A Tryz.underlying133 rfl zs133 rfl rfl) rfl rfl ?_) | ((with_reducible refine ik_callb ?_); refine wo_op rfl (op_append rfl rfl (append_nil_eq (M := mz G) (st := 83) (xt := 83) (m := 1) Tryz.underlying83 Tryz.underlying83 rfl zs184 zb184 zz184 rfl (Sl.ofAt at_A rfl (Nat.le_refl _)) rfl (by omega) (by omega))) rfl rfl ?_) | ((with_reducible refine ik_bin ?_); first | refine wo_op rfl (op_lss rfl rfl) rfl rfl ?_ | refine wo_op rfl (op_add' rfl rfl (w64 (by omega) (by omega))) rfl rfl ?_) | ((with_reducible refine ik_alloc ?_); refine wo_op rfl (op_alloc zz133 zs133 rfl rfl rfl) rfl rfl ?_) | ((with_reducible refine ik_store ?_); refine wo_op0 rfl (op_stAgg rfl rfl at_A zs133 rfl rfl rfl rfl) rfl ?_) | ((with_reducible refine ik_buildSlice ?_); refine wo_op rfl (op_buildSl rfl Tryz.underlying83 zs184 zz184 rfl rfl) rfl rfl ?_)) | with_reducible refine sq_norm ?_ | with_reducible refine wc_seq ?_ | with_reducible refine wc_region ?_ | with_reducible refine wc_skip ?_ | with_reducible refine wc_block ?_ | with_reducible refine bq_norm ?_ | (refine wc_if rfl (fun hb => ?_) (fun hb => dead_A hb); (try simp only [decide_eq_true_eq, decide_eq_false_iff_not, Bool.not_eq_true', Bool.not_eq_false', Int.not_lt, Int.not_le, Decidable.not_not, not_true_eq_false, not_false_eq_true, beq_self_eq_true, reduceCtorEq] at hb)))
      exact lq_norm (0 + 1, .slice (some ⟨_, 0, some 0⟩) (0 + 1) (0 + 1)) (by simp only; omega) (within_lk ⟨rfl, rfl, rfl, rfl, trivial⟩) ⟨⟨wf_A, gr_A⟩, by simp only; omega, .inr ⟨_, by simp only [H.nx_push, H.nx_set, H.nx_bump, H.nx_kill]; omega, rfl, by simp only; rw [e1]; exact at_A⟩⟩
    · have l1 := hat.lt
      repeat' (first | with_reducible refine wo_nil ?_ | ((with_reducible refine wo_any ?_); first | ((with_reducible refine ik_move ?_); refine wo_op rfl (op_move rfl) rfl rfl ?_) | ((with_reducible refine ik_assign ?_); refine wo_op rfl (op_assign rfl) rfl rfl ?_) | ((with_reducible refine ik_indexAddr ?_); refine wo_op rfl (op_indexAddr rfl rfl i1) rfl rfl ?_) | ((with_reducible refine ik_load ?_); first | refine wo_op rfl (op_ldLn rfl Tryz.underlying133 rfl zs133 (i3 _ gr_A).all) rfl rfl ?_ | refine wo_op rfl (op_ldAgg rfl at_A Tryz.underlying133 rfl zs133 rfl rfl) rfl rfl ?_) | ((with_reducible refine ik_callb ?_); refine wo_op rfl (op_append rfl rfl (append_own_eq (M := mz G) (st := 83) (xt := 83) (m := 1) Tryz.underlying83 Tryz.underlying83 rfl zs184 zb184 zz184 rfl (Sl.ofAt at_A rfl (Nat.le_refl _)) rfl (b := e) (c := (l.take k).flatMap En.cells) at_A (by rw [En.flat, List.length_take]; omega) (by omega) (by omega))) rfl rfl ?_) | ((with_reducible refine ik_bin ?_); first | refine wo_op rfl (op_lss rfl rfl) rfl rfl ?_ | refine wo_op rfl (op_add' rfl rfl (w64 (by omega) (by omega))) rfl rfl ?_) | ((with_reducible refine ik_alloc ?_); refine wo_op rfl (op_alloc zz133 zs133 rfl rfl rfl) rfl rfl ?_) | ((with_reducible refine ik_store ?_); refine wo_op0 rfl (op_stAgg rfl rfl at_A zs133 rfl rfl rfl rfl) rfl ?_) | ((with_reducible refine ik_buildSlice ?_); refine wo_op rfl (op_buildSl rfl Tryz.underlying83 zs184 zz184 rfl rfl) rfl rfl ?_)) | with_reducible refine sq_norm ?_ | with_reducible refine wc_seq ?_ | with_reducible refine wc_region ?_ | with_reducible refine wc_skip ?_ | with_reducible refine wc_block ?_ | with_reducible refine bq_norm ?_ | (refine wc_if rfl (fun hb => ?_) (fun hb => dead_A hb); (try simp only [decide_eq_true_eq, decide_eq_false_iff_not, Bool.not_eq_true', Bool.not_eq_false', Int.not_lt, Int.not_le, Decidable.not_not, not_true_eq_false, not_false_eq_true, beq_self_eq_true, reduceCtorEq] at hb)))
      exact lq_norm (k + 1, .slice (some ⟨_, 0, some 0⟩) (k + 1) (k + 1)) (by simp only; omega) (within_lk ⟨rfl, rfl, rfl, rfl, trivial⟩) ⟨⟨wf_A, gr_A⟩, by simp only; omega, .inr ⟨_, by simp only [H.nx_push, H.nx_set, H.nx_bump, H.nx_kill]; omega, rfl, by simp only; rw [e1]; exact at_A⟩⟩
  · have hkn : k = n := by omega
    subst hkn
    rw [show l.take k = l by rw [List.take_of_length_le (by omega)]] at hv
    repeat' (first | with_reducible refine wo_nil ?_ | ((with_reducible refine wo_any ?_); first | ((with_reducible refine ik_move ?_); refine wo_op rfl (op_move rfl) rfl rfl ?_) | ((with_reducible refine ik_assign ?_); refine wo_op rfl (op_assign rfl) rfl rfl ?_) | ((with_reducible refine ik_bin ?_); refine wo_op rfl (op_lss rfl rfl) rfl rfl ?_)) | with_reducible refine sq_norm ?_ | with_reducible refine wc_seq ?_ | with_reducible refine wc_region ?_ | with_reducible refine wc_ret ?_ | with_reducible refine wc_exit ?_ | with_reducible refine sq_exit ?_ | with_reducible refine lq_exit ?_ | refine bq_eq rfl ?_ | (refine wc_if rfl (fun hb => ?_) (fun hb => ?_) <;> (try simp only [decide_eq_true_eq, decide_eq_false_iff_not, Bool.not_eq_true', Bool.not_eq_false', Int.not_lt, Int.not_le, Decidable.not_not, not_true_eq_false, not_false_eq_true, beq_self_eq_true, reduceCtorEq] at hb) <;> (try (exfalso; omega))))
    refine rq1 rfl ⟨?_, gr_A⟩
    rcases hv with ⟨rfl, rfl⟩ | ⟨e, hb, rfl, hat⟩
    · have htn : l = [] := by simpa using hl
      subst htn
      exact .nil
    · exact Sl.ofAt hat (by rw [En.flat, hl]) (Nat.le_refl _)

set_option maxHeartbeats 4000000 in
theorem c50 {v w : Value} {n : Nat} {l : List En} (s : Sl G h 3 v n (l.flatMap En.cells)) (u : Sl G h 3 w n (l.flatMap En.cells)) (hl : l.length = n) (hn : n < 1000000) (hw : Wf h) : Cf (mz G) (.func (.func 50) #[] #[]) [v, w] h fun r h' => r = .bool true ∧ Grow h h' := by
  obtain ⟨a, c, rfl⟩ := s.form
  obtain ⟨b, d, rfl⟩ := u.form
  refine cf_enter0 26 [.tmp 4] Tryz.func50 rfl rfl rfl rfl ?_
  repeat' (first | with_reducible refine wo_nil ?_ | ((with_reducible refine wo_any ?_); first | ((with_reducible refine ik_move ?_); refine wo_op rfl (op_move rfl) rfl rfl ?_) | ((with_reducible refine ik_assign ?_); refine wo_op rfl (op_assign rfl) rfl rfl ?_) | ((with_reducible refine ik_callb ?_); refine wo_op rfl (op_lenSl rfl Tryz.underlying83) rfl rfl ?_) | ((with_reducible refine ik_bin ?_); refine wo_op rfl (op_neq rfl rfl) rfl rfl ?_)) | with_reducible refine sq_norm ?_ | with_reducible refine wc_seq ?_ | with_reducible refine wc_region ?_ | with_reducible refine wc_skip ?_ | with_reducible refine wc_block ?_ | (refine wc_if rfl (fun hb => (of_decide_eq_true hb rfl).elim) (fun hb => ?_); (try simp only [decide_eq_true_eq, decide_eq_false_iff_not, Bool.not_eq_true', Bool.not_eq_false', Int.not_lt, Int.not_le, Decidable.not_not, not_true_eq_false, not_false_eq_true, beq_self_eq_true, reduceCtorEq] at hb)))
  refine wc_loop (fun i => n - i) (fun i : Nat => [(0, .slice a n c), (1, .slice b n d), (5, .int .i64 i)]) (fun i h' => (Wf h' ∧ Grow h h') ∧ i ≤ n) 0 (within_lk ⟨rfl, rfl, rfl, trivial⟩) ⟨⟨wf_A, gr_A⟩, Nat.zero_le _⟩ ?_
  rintro i h1 ⟨⟨w1, g1⟩, hi⟩
  have n1 := g1.nx
  by_cases hlt : i < n
  · obtain ⟨id, i1, i3⟩ := rl_at En.len ⟨0, 0, .empty⟩ (s.grow g1) hl Tryz.underlying83 zs184 (i := (i : Int)) hlt rfl
    obtain ⟨jd, j1, j3⟩ := rl_at En.len ⟨0, 0, .empty⟩ (u.grow g1) hl Tryz.underlying83 zs184 (i := (i : Int)) hlt rfl
    generalize l.getD i ⟨0, 0, .empty⟩ = x0 at i3 j3
    obtain ⟨f, t, z⟩ := x0
    dsimp only [En.cells] at i3 j3
    repeat' (first | with_reducible refine wo_nil ?_ | ((with_reducible refine wo_any ?_); first | ((with_reducible refine ik_move ?_); refine wo_op rfl (op_move rfl) rfl rfl ?_) | ((with_reducible refine ik_assign ?_); refine wo_op rfl (op_assign rfl) rfl rfl ?_) | ((with_reducible refine ik_bin ?_); first | refine wo_op rfl (op_lss rfl rfl) rfl rfl ?_ | refine wo_op rfl (op_add' rfl rfl (w64 (by omega) (by omega))) rfl rfl ?_) | ((with_reducible refine ik_callb ?_); refine wo_op rfl (op_lenSl rfl Tryz.underlying83) rfl rfl ?_)) | ((with_reducible refine xk_any ?_); ((with_reducible refine xk_as0 ?_); first | ((with_reducible refine xk_move ?_); refine wx_q (wt_none rfl) rfl rfl (op_q rfl (op_move rfl)) rfl rfl rfl ?_) | ((with_reducible refine xk_indexAddr ?_); first | refine wx_q (wt_none rfl) rfl rfl (op_q rfl (op_indexAddr rfl rfl i1)) rfl rfl rfl ?_ | refine wx_q (wt_none rfl) rfl rfl (op_q rfl (op_indexAddr rfl rfl j1)) rfl rfl rfl ?_) | ((with_reducible refine xk_load ?_); first | refine wx_h0 (wt_none rfl) rfl (op_q rfl (op_ldLn rfl Tryz.underlying184 rfl zs184 (i3 _ gr_A).all)) rfl rfl rfl ?_ | refine wx_h0 (wt_none rfl) rfl (op_q rfl (op_ldLn rfl Tryz.underlying184 rfl zs184 (j3 _ gr_A).all)) rfl rfl rfl ?_) | ((with_reducible refine xk_bin ?_); refine wx_q (wt_none rfl) rfl rfl (op_q rfl (op_neT 5 rfl rfl rfl Tryz.underlying184 rfl eg184 (eqv184_same _ _ _))) rfl rfl rfl ?_) | with_reducible refine wx_nil0 ?_ ?_)) | with_reducible exact obl_nil | with_reducible refine obl_cons ?_ ?_ | ((with_reducible refine ik_obs ?_); first | exact obs_nil | refine obs_chkn rfl rfl (op_q rfl (op_ldLn rfl Tryz.underlying184 rfl zs184 (i3 _ gr_A).all)) ?_ | refine obs_chkn rfl rfl (op_q rfl (op_ldLn rfl Tryz.underlying184 rfl zs184 (j3 _ gr_A).all)) ?_) | with_reducible refine sq_norm ?_ | with_reducible refine wc_seq ?_ | with_reducible refine wc_region ?_ | with_reducible refine wc_skip ?_ | with_reducible refine wc_block ?_ | with_reducible refine bq_norm ?_ | refine wc_iff rfl ?_ | (refine wc_if rfl (fun hb => ?_) (fun hb => dead_A hb); (try simp only [decide_eq_true_eq, decide_eq_false_iff_not, Bool.not_eq_true', Bool.not_eq_false', Int.not_lt, Int.not_le, Decidable.not_not, not_true_eq_false, not_false_eq_true, beq_self_eq_true, reduceCtorEq] at hb)) | refine wc_drawB (id := 6) 9 [0, 0, 3, 7, 0, 0, 48, 112, 255] [0, 1, 2, 3, 4, 5, 6, 7, 8] (by kernel_rfl) (by kernel_rfl) rfl rfl ?_)
    exact lq_norm (i + 1) (by omega) (within_lk ⟨rfl, rfl, rfl, trivial⟩) ⟨⟨wf_A, gr_A⟩, by omega⟩
  · repeat' (first | with_reducible refine wo_nil ?_ | ((with_reducible refine wo_any ?_); first | ((with_reducible refine ik_move ?_); refine wo_op rfl (op_move rfl) rfl rfl ?_) | ((with_reducible refine ik_assign ?_); refine wo_op rfl (op_assign rfl) rfl rfl ?_) | ((with_reducible refine ik_callb ?_); refine wo_op rfl (op_lenSl rfl Tryz.underlying83) rfl rfl ?_) | ((with_reducible refine ik_bin ?_); refine wo_op rfl (op_lss rfl rfl) rfl rfl ?_)) | with_reducible refine sq_norm ?_ | with_reducible refine wc_seq ?_ | with_reducible refine wc_region ?_ | with_reducible refine wc_ret ?_ | with_reducible refine wc_exit ?_ | with_reducible refine sq_exit ?_ | with_reducible refine lq_exit ?_ | refine bq_eq rfl ?_ | (refine wc_if rfl (fun hb => dead_A hb) (fun hb => ?_); (try simp only [decide_eq_true_eq, decide_eq_false_iff_not, Bool.not_eq_true', Bool.not_eq_false', Int.not_lt, Int.not_le, Decidable.not_not, not_true_eq_false, not_false_eq_true, beq_self_eq_true, reduceCtorEq] at hb)))
    exact rq1 rfl ⟨rfl, gr_A⟩
theorem en_last {D : List En} {a z : Int} {x : ByteArray} : (D ++ [⟨a, z, x⟩] : List En).flatMap En.cells = D.flatMap En.cells ++ [Value.int .i64 a, Value.int .i64 z, Value.string x] := by
  rw [List.flatMap_append]; simp
theorem en_set {D : List En} {a z y : Int} {x : ByteArray} : (D.flatMap En.cells ++ [Value.int .i64 a, Value.int .i64 z, Value.string x]).set (D.length * 3 + 1) (Value.int .i64 y) = D.flatMap En.cells ++ [Value.int .i64 a, Value.int .i64 y, Value.string x] := by
  rw [List.set_append_right _ _ (by rw [En.flat]; omega), En.flat, Nat.add_sub_cancel_left]; rfl
theorem en_get {D : List En} {a z : Int} {x : ByteArray} : (D.flatMap En.cells ++ [Value.int .i64 a, Value.int .i64 z, Value.string x])[D.length * 3 + 1]? = some (.int .i64 z) ∧ (D.flatMap En.cells ++ [Value.int .i64 a, Value.int .i64 z, Value.string x])[D.length * 3 + 2]? = some (.string x) := by
  constructor <;> rw [List.getElem?_append_right (by rw [En.flat]; omega), En.flat, Nat.add_sub_cancel_left] <;> rfl
end Go.Proofs.YtlioomhcdlicmaaGreatDoor
