/- Survey: entries and the diary by the reference. -/
import Derived.Test.YtlioomhcdlicmaaGreatDoorC10
import Derived.Test.YtlioomhcdlicmaaGreatDoorC9
set_option linter.all false
/- Survey: entries by the reference. -/
namespace Go.Proofs.YtlioomhcdlicmaaGreatDoor
open Go Go.Ab Go.Fl
attribute [local irreducible] SeqQ BlkQ LpQ RetQ Wc Wo WD WX Op1 Op1q Op1a Cf Cl From
attribute [local irreducible] Ieee.Format.order Ieee.Format.read Ieee.Format.nearest Ieee.Format.write Ieee.Format.mul Ieee.Format.div Ieee.Format.sqrt Ieee.Datum.order Ieee.Datum.integral K U rngE errN ptE firstNZ vesE watE sgE sgsE allE hitB sqD insB qsL lvl
set_option maxRecDepth 10000
variable {G : Base} {h : H}

attribute [local irreducible] fl silN insN levN inL leL cauS
theorem eg184 : Tryz.prog.eqGuardType Tryz.prog.depth 184 = false := by kernel_rfl
theorem eqv184 (a b p q : Int) (c r : ByteArray) : eqV Tryz.prog 5 184 [.int .i64 a, .int .i64 b, .string c] [.int .i64 p, .int .i64 q, .string r] = some ((decide (a = p) && (decide (b = q) && true)) && (decide (c = r) && true)) := by kernel_rfl
theorem eqv184_same (a b : Int) (c : ByteArray) : eqV Tryz.prog 5 184 [.int .i64 a, .int .i64 b, .string c] [.int .i64 a, .int .i64 b, .string c] = some true := by rw [eqv184]; simp
theorem op_seqE {M : Mc} {l : KL} {h : H} {t ty : TypeId} {x y : Operand} {a b : ByteArray} (hx : val l x = some (.string a)) (hy : val l y = some (.string b)) (hab : a = b) : Op1 M (.binOp .eql t x y ty) l h (.bool true) h := by
  have := op_seq (M := M) (h := h) (t := t) (ty := ty) hx hy
  rwa [decide_eq_true hab] at this
theorem op_seqN {M : Mc} {l : KL} {h : H} {t ty : TypeId} {x y : Operand} {a b : ByteArray} (hx : val l x = some (.string a)) (hy : val l y = some (.string b)) (hab : ¬a = b) : Op1 M (.binOp .eql t x y ty) l h (.bool false) h := by
  have := op_seq (M := M) (h := h) (t := t) (ty := ty) hx hy
  rwa [decide_eq_false hab] at this
set_option maxHeartbeats 4000000 in
theorem c51 {v : Value} {n : Nat} {l : List En} (s : Sl G h 3 v n (l.flatMap En.cells)) (hl : l.length = n) (hn : n < 1000000) (hw : Wf h) : Cf (mz G) (.func (.func 51) #[] #[]) [v] h fun r h' => Sl G h' 3 r n (l.flatMap En.cells) ∧ Grow h h' := by
  obtain ⟨a, c, rfl⟩ := s.form
  refine cf_enter0 18 [.tmp 2] Tryz.func51 rfl rfl rfl rfl ?_
  repeat' (first | with_reducible refine wo_nil ?_ | ((with_reducible refine wo_any ?_); first | ((with_reducible refine ik_move ?_); refine wo_op rfl (op_move rfl) rfl rfl ?_) | ((with_reducible refine ik_assign ?_); refine wo_op rfl (op_assign rfl) rfl rfl ?_) | ((with_reducible refine ik_callb ?_); refine wo_op rfl (op_lenSl rfl Tryz.underlying85) rfl rfl ?_)) | with_reducible refine sq_norm ?_ | with_reducible refine wc_seq ?_ | with_reducible refine wc_region ?_ | with_reducible refine wc_block ?_)
  refine wc_loop (fun p : Nat × Value => n - p.1) (fun p => [(3, p.2), (6, .slice a n c), (7, .int .i64 n), (8, .int .i64 (p.1 : Nat))]) (fun p h' => (Wf h' ∧ Grow h h') ∧ p.1 ≤ n ∧ ((p.2 = .slice none 0 0 ∧ p.1 = 0) ∨ ∃ e, h.nx ≤ e ∧ p.2 = .slice (some ⟨e, 0, some 0⟩) p.1 p.1 ∧ At h' e (.cells ((l.take p.1).flatMap En.cells) 184 3 true))) (0, .slice none 0 0) (within_lk ⟨rfl, rfl, rfl, rfl, trivial⟩) ⟨⟨wf_A, gr_A⟩, Nat.zero_le _, .inl ⟨rfl, rfl⟩⟩ ?_
  rintro ⟨k, v⟩ h1 ⟨⟨w1, g1⟩, hk, hv⟩
  simp only at hk hv ⊢
  have n1 := g1.nx
  by_cases hlt : k < n
  · obtain ⟨id, i1, i3⟩ := rl_at En.len ⟨0, 0, .empty⟩ (s.grow g1) hl Tryz.underlying85 zs133 (i := (k : Int)) hlt rfl
    obtain ⟨p, hp⟩ : ∃ p, l.getD k ⟨0, 0, .empty⟩ = p := ⟨_, rfl⟩
    have e1 : (l.take (k + 1)).flatMap En.cells = (l.take k).flatMap En.cells ++ p.cells := by
      rw [take_next ⟨0, 0, .empty⟩ (by omega), hp, List.flatMap_append]; simp
    rw [hp] at i3
    obtain ⟨f, t, cz⟩ := p
    dsimp only [En.cells] at i3
    rcases hv with ⟨rfl, rfl⟩ | ⟨e, hb, rfl, hat⟩
    · repeat' (first | with_reducible refine wo_nil ?_ | ((with_reducible refine wo_any ?_); first | ((with_reducible refine ik_move ?_); refine wo_op rfl (op_move rfl) rfl rfl ?_) | ((with_reducible refine ik_assign ?_); refine wo_op rfl (op_assign rfl) rfl rfl ?_) | ((with_reducible refine ik_indexAddr ?_); refine wo_op rfl (op_indexAddr rfl rfl i1) rfl rfl ?_) | ((with_reducible refine ik_load ?_); first | refine wo_op rfl (op_ldLn rfl Tryz.underlying133 rfl zs133 (i3 _ gr_A).all) rfl rfl ?_ | refine wo_op rfl (op_ldAgg rfl at_A Tryz.underlying133 rfl zs133 rfl rfl) rfl rfl ?_) | ((with_reducible refine ik_callb ?_); refine wo_op rfl (op_append rfl rfl (append_nil_eq (M := mz G) (st := 83) (xt := 83) (m := 1) Tryz.underlying83 Tryz.underlying83 rfl zs184 zb184 zz184 rfl (Sl.ofAt at_A rfl (Nat.le_refl _)) rfl (by omega) (by omega))) rfl rfl ?_) | ((with_reducible refine ik_bin ?_); first | refine wo_op rfl (op_lss rfl rfl) rfl rfl ?_ | refine wo_op rfl (op_add' rfl rfl (w64 (by omega) (by omega))) rfl rfl ?_) | ((with_reducible refine ik_alloc ?_); refine wo_op rfl (op_alloc zz133 zs133 rfl rfl rfl) rfl rfl ?_) | ((with_reducible refine ik_store ?_); refine wo_op0 rfl (op_stAgg rfl rfl at_A zs133 rfl rfl rfl rfl) rfl ?_) | ((with_reducible refine ik_buildSlice ?_); refine wo_op rfl (op_buildSl rfl Tryz.underlying83 zs184 zz184 rfl rfl) rfl rfl ?_)) | with_reducible refine sq_norm ?_ | with_reducible refine wc_seq ?_ | with_reducible refine wc_region ?_ | with_reducible refine wc_skip ?_ | with_reducible refine wc_block ?_ | with_reducible refine bq_norm ?_ | (refine wc_if rfl (fun hb => ?_) (fun hb => dead_A hb); (try simp only [decide_eq_true_eq, decide_eq_false_iff_not, Bool.not_eq_true', Bool.not_eq_false', Int.not_lt, Int.not_le, Decidable.not_not, not_true_eq_false, not_false_eq_true, beq_self_eq_true, reduceCtorEq] at hb)))
      exact lq_norm (0 + 1, .slice (some ⟨_, 0, some 0⟩) (0 + 1) (0 + 1)) (by simp only; omega) (within_lk ⟨rfl, rfl, rfl, rfl, trivial⟩) ⟨⟨wf_A, gr_A⟩, by simp only; omega, .inr ⟨_, by simp only [H.nx_push, H.nx_set, H.nx_bump, H.nx_kill]; omega, rfl, by simp only; rw [e1]; exact at_A⟩⟩
    · have l1 := hat.lt
      repeat' (first | with_reducible refine wo_nil ?_ | ((with_reducible refine wo_any ?_); first | ((with_reducible refine ik_move ?_); refine wo_op rfl (op_move rfl) rfl rfl ?_) | ((with_reducible refine ik_assign ?_); refine wo_op rfl (op_assign rfl) rfl rfl ?_) | ((with_reducible refine ik_indexAddr ?_); refine wo_op rfl (op_indexAddr rfl rfl i1) rfl rfl ?_) | ((with_reducible refine ik_load ?_); first | refine wo_op rfl (op_ldLn rfl Tryz.underlying133 rfl zs133 (i3 _ gr_A).all) rfl rfl ?_ | refine wo_op rfl (op_ldAgg rfl at_A Tryz.underlying133 rfl zs133 rfl rfl) rfl rfl ?_) | ((with_reducible refine ik_callb ?_); refine wo_op rfl (op_append rfl rfl (append_own_eq (M := mz G) (st := 83) (xt := 83) (m := 1) Tryz.underlying83 Tryz.underlying83 rfl zs184 zb184 zz184 rfl (Sl.ofAt at_A rfl (Nat.le_refl _)) rfl (b := e) (c := (l.take k).flatMap En.cells) at_A (by rw [En.flat, List.length_take]; omega) (by omega) (by omega))) rfl rfl ?_) | ((with_reducible refine ik_bin ?_); first | refine wo_op rfl (op_lss rfl rfl) rfl rfl ?_ | refine wo_op rfl (op_add' rfl rfl (w64 (by omega) (by omega))) rfl rfl ?_) | ((with_reducible refine ik_alloc ?_); refine wo_op rfl (op_alloc zz133 zs133 rfl rfl rfl) rfl rfl ?_) | ((with_reducible refine ik_store ?_); refine wo_op0 rfl (op_stAgg rfl rfl at_A zs133 rfl rfl rfl rfl) rfl ?_) | ((with_reducible refine ik_buildSlice ?_); refine wo_op rfl (op_buildSl rfl Tryz.underlying83 zs184 zz184 rfl rfl) rfl rfl ?_)) | with_reducible refine sq_norm ?_ | with_reducible refine wc_seq ?_ | with_reducible refine wc_region ?_ | with_reducible refine wc_skip ?_ | with_reducible refine wc_block ?_ | with_reducible refine bq_norm ?_ | (refine wc_if rfl (fun hb => ?_) (fun hb => dead_A hb); (try simp only [decide_eq_true_eq, decide_eq_false_iff_not, Bool.not_eq_true', Bool.not_eq_false', Int.not_lt, Int.not_le, Decidable.not_not, not_true_eq_false, not_false_eq_true, beq_self_eq_true, reduceCtorEq] at hb)))
      exact lq_norm (k + 1, .slice (some ⟨_, 0, some 0⟩) (k + 1) (k + 1)) (by simp only; omega) (within_lk ⟨rfl, rfl, rfl, rfl, trivial⟩) ⟨⟨wf_A, gr_A⟩, by simp only; omega, .inr ⟨_, by simp only [H.nx_push, H.nx_set, H.nx_bump, H.nx_kill]; omega, rfl, by simp only; rw [e1]; exact at_A⟩⟩
  · have hkn : k = n := by omega
    subst hkn
    rw [show l.take k = l by rw [List.take_of_length_le (by omega)]] at hv
    repeat' (first | with_reducible refine wo_nil ?_ | ((with_reducible refine wo_any ?_); first | ((with_reducible refine ik_move ?_); refine wo_op rfl (op_move rfl) rfl rfl ?_) | ((with_reducible refine ik_assign ?_); refine wo_op rfl (op_assign rfl) rfl rfl ?_) | ((with_reducible refine ik_bin ?_); refine wo_op rfl (op_lss rfl rfl) rfl rfl ?_)) | with_reducible refine sq_norm ?_ | with_reducible refine wc_seq ?_ | with_reducible refine wc_region ?_ | with_reducible refine wc_ret ?_ | with_reducible refine wc_exit ?_ | with_reducible refine sq_exit ?_ | with_reducible refine lq_exit ?_ | refine bq_eq rfl ?_ | (refine wc_if rfl (fun hb => ?_) (fun hb => ?_) <;> (try simp only [decide_eq_true_eq, decide_eq_false_iff_not, Bool.not_eq_true', Bool.not_eq_false', Int.not_lt, Int.not_le, Decidable.not_not, not_true_eq_false, not_false_eq_true, beq_self_eq_true, reduceCtorEq] at hb) <;> (try (exfalso; omega))))
    refine rq1 rfl ⟨?_, gr_A⟩
    rcases hv with ⟨rfl, rfl⟩ | ⟨e, hb, rfl, hat⟩
    · have htn : l = [] := by simpa using hl
      subst htn
      exact .nil
    · exact Sl.ofAt hat (by rw [En.flat, hl]) (Nat.le_refl _)

set_option maxHeartbeats 4000000 in
theorem c50 {v w : Value} {n : Nat} {l : List En} (s : Sl G h 3 v n (l.flatMap En.cells)) (u : Sl G h 3 w n (l.flatMap En.cells)) (hl : l.length = n) (hn : n < 1000000) (hw : Wf h) : Cf (mz G) (.func (.func 50) #[] #[]) [v, w] h fun r h' => r = .bool true ∧ Grow h h' := by
  obtain ⟨a, c, rfl⟩ := s.form
  obtain ⟨b, d, rfl⟩ := u.form
  refine cf_enter0 26 [.tmp 4] Tryz.func50 rfl rfl rfl rfl ?_
  repeat' (first | with_reducible refine wo_nil ?_ | ((with_reducible refine wo_any ?_); first | ((with_reducible refine ik_move ?_); refine wo_op rfl (op_move rfl) rfl rfl ?_) | ((with_reducible refine ik_assign ?_); refine wo_op rfl (op_assign rfl) rfl rfl ?_) | ((with_reducible refine ik_callb ?_); refine wo_op rfl (op_lenSl rfl Tryz.underlying83) rfl rfl ?_) | ((with_reducible refine ik_bin ?_); refine wo_op rfl (op_neq rfl rfl) rfl rfl ?_)) | with_reducible refine sq_norm ?_ | with_reducible refine wc_seq ?_ | with_reducible refine wc_region ?_ | with_reducible refine wc_skip ?_ | with_reducible refine wc_block ?_ | (refine wc_if rfl (fun hb => (of_decide_eq_true hb rfl).elim) (fun hb => ?_); (try simp only [decide_eq_true_eq, decide_eq_false_iff_not, Bool.not_eq_true', Bool.not_eq_false', Int.not_lt, Int.not_le, Decidable.not_not, not_true_eq_false, not_false_eq_true, beq_self_eq_true, reduceCtorEq] at hb)))
  refine wc_loop (fun i => n - i) (fun i : Nat => [(0, .slice a n c), (1, .slice b n d), (5, .int .i64 i)]) (fun i h' => (Wf h' ∧ Grow h h') ∧ i ≤ n) 0 (within_lk ⟨rfl, rfl, rfl, trivial⟩) ⟨⟨wf_A, gr_A⟩, Nat.zero_le _⟩ ?_
  rintro i h1 ⟨⟨w1, g1⟩, hi⟩
  have n1 := g1.nx
  by_cases hlt : i < n
  · obtain ⟨id, i1, i3⟩ := rl_at En.len ⟨0, 0, .empty⟩ (s.grow g1) hl Tryz.underlying83 zs184 (i := (i : Int)) hlt rfl
    obtain ⟨jd, j1, j3⟩ := rl_at En.len ⟨0, 0, .empty⟩ (u.grow g1) hl Tryz.underlying83 zs184 (i := (i : Int)) hlt rfl
    generalize l.getD i ⟨0, 0, .empty⟩ = x0 at i3 j3
    obtain ⟨f, t, z⟩ := x0
    dsimp only [En.cells] at i3 j3
    repeat' (first | with_reducible refine wo_nil ?_ | ((with_reducible refine wo_any ?_); first | ((with_reducible refine ik_move ?_); refine wo_op rfl (op_move rfl) rfl rfl ?_) | ((with_reducible refine ik_assign ?_); refine wo_op rfl (op_assign rfl) rfl rfl ?_) | ((with_reducible refine ik_bin ?_); first | refine wo_op rfl (op_lss rfl rfl) rfl rfl ?_ | refine wo_op rfl (op_add' rfl rfl (w64 (by omega) (by omega))) rfl rfl ?_) | ((with_reducible refine ik_callb ?_); refine wo_op rfl (op_lenSl rfl Tryz.underlying83) rfl rfl ?_)) | ((with_reducible refine xk_any ?_); ((with_reducible refine xk_as0 ?_); first | ((with_reducible refine xk_move ?_); refine wx_q (wt_none rfl) rfl rfl (op_q rfl (op_move rfl)) rfl rfl rfl ?_) | ((with_reducible refine xk_indexAddr ?_); first | refine wx_q (wt_none rfl) rfl rfl (op_q rfl (op_indexAddr rfl rfl i1)) rfl rfl rfl ?_ | refine wx_q (wt_none rfl) rfl rfl (op_q rfl (op_indexAddr rfl rfl j1)) rfl rfl rfl ?_) | ((with_reducible refine xk_load ?_); first | refine wx_h0 (wt_none rfl) rfl (op_q rfl (op_ldLn rfl Tryz.underlying184 rfl zs184 (i3 _ gr_A).all)) rfl rfl rfl ?_ | refine wx_h0 (wt_none rfl) rfl (op_q rfl (op_ldLn rfl Tryz.underlying184 rfl zs184 (j3 _ gr_A).all)) rfl rfl rfl ?_) | ((with_reducible refine xk_bin ?_); refine wx_q (wt_none rfl) rfl rfl (op_q rfl (op_neT 5 rfl rfl rfl Tryz.underlying184 rfl eg184 (eqv184_same _ _ _))) rfl rfl rfl ?_) | with_reducible refine wx_nil0 ?_ ?_)) | with_reducible exact obl_nil | with_reducible refine obl_cons ?_ ?_ | ((with_reducible refine ik_obs ?_); first | exact obs_nil | refine obs_chkn rfl rfl (op_q rfl (op_ldLn rfl Tryz.underlying184 rfl zs184 (i3 _ gr_A).all)) ?_ | refine obs_chkn rfl rfl (op_q rfl (op_ldLn rfl Tryz.underlying184 rfl zs184 (j3 _ gr_A).all)) ?_) | with_reducible refine sq_norm ?_ | with_reducible refine wc_seq ?_ | with_reducible refine wc_region ?_ | with_reducible refine wc_skip ?_ | with_reducible refine wc_block ?_ | with_reducible refine bq_norm ?_ | refine wc_iff rfl ?_ | (refine wc_if rfl (fun hb => ?_) (fun hb => dead_A hb); (try simp only [decide_eq_true_eq, decide_eq_false_iff_not, Bool.not_eq_true', Bool.not_eq_false', Int.not_lt, Int.not_le, Decidable.not_not, not_true_eq_false, not_false_eq_true, beq_self_eq_true, reduceCtorEq] at hb)) | refine wc_drawB (id := 6) 9 [0, 0, 3, 7, 0, 0, 48, 112, 255] [0, 1, 2, 3, 4, 5, 6, 7, 8] (by kernel_rfl) (by kernel_rfl) rfl rfl ?_)
    exact lq_norm (i + 1) (by omega) (within_lk ⟨rfl, rfl, rfl, trivial⟩) ⟨⟨wf_A, gr_A⟩, by omega⟩
  · repeat' (first | with_reducible refine wo_nil ?_ | ((with_reducible refine wo_any ?_); first | ((with_reducible refine ik_move ?_); refine wo_op rfl (op_move rfl) rfl rfl ?_) | ((with_reducible refine ik_assign ?_); refine wo_op rfl (op_assign rfl) rfl rfl ?_) | ((with_reducible refine ik_callb ?_); refine wo_op rfl (op_lenSl rfl Tryz.underlying83) rfl rfl ?_) | ((with_reducible refine ik_bin ?_); refine wo_op rfl (op_lss rfl rfl) rfl rfl ?_)) | with_reducible refine sq_norm ?_ | with_reducible refine wc_seq ?_ | with_reducible refine wc_region ?_ | with_reducible refine wc_ret ?_ | with_reducible refine wc_exit ?_ | with_reducible refine sq_exit ?_ | with_reducible refine lq_exit ?_ | refine bq_eq rfl ?_ | (refine wc_if rfl (fun hb => dead_A hb) (fun hb => ?_); (try simp only [decide_eq_true_eq, decide_eq_false_iff_not, Bool.not_eq_true', Bool.not_eq_false', Int.not_lt, Int.not_le, Decidable.not_not, not_true_eq_false, not_false_eq_true, beq_self_eq_true, reduceCtorEq] at hb)))
    exact rq1 rfl ⟨rfl, gr_A⟩
/-- Each tick's own entry. -/
def alL (W : Nat → ByteArray) (T : Nat) : List En := (List.range T).map fun k => ⟨(k : Nat), ((k + 1 : Nat) : Int), W k⟩
theorem alL_len {W : Nat → ByteArray} {T : Nat} : (alL W T).length = T := by simp [alL]
theorem alL_get {W : Nat → ByteArray} {T k : Nat} (hk : k < T) : (alL W T).getD k ⟨0, 0, .empty⟩ = ⟨(k : Nat), ((k + 1 : Nat) : Int), W k⟩ := by
  simp [alL, List.getD, List.getElem?_map, List.getElem?_range hk]
theorem run_word {W : Nat → ByteArray} : ∀ k, 0 < k → W (rn (altB W) k).2 = W (k - 1)
  | 0, hk => by omega
  | k + 1, _ => by
    rw [Nat.add_sub_cancel, rn]
    by_cases h0 : k = 0
    · subst h0; simp
    · rw [if_neg h0]
      by_cases q : altB W k = altB W (k - 1)
      · rw [if_pos q]
        show W (rn (altB W) k).2 = W k
        rw [run_word (W := W) k (by omega)]
        exact ((altB_iff (by omega)).1 q).symm
      · rw [if_neg q]
theorem diL_old {W : Nat → ByteArray} {k : Nat} (hk : 0 < k) : ∃ (D : List En) (f : Nat), diL W k = D ++ [⟨(f : Nat), (k : Nat), W (k - 1)⟩] ∧ f < k ∧ (W k = W (k - 1) → diL W (k + 1) = D ++ [⟨(f : Nat), ((k + 1 : Nat) : Int), W (k - 1)⟩]) := by
  have hw := run_word (W := W) k hk
  have h1 : rl (altB W) k = (rn (altB W) k).1 ++ [⟨((rn (altB W) k).2 : Nat), (k : Nat)⟩] := by unfold rl; rw [if_neg (by omega)]
  have hf := (rn_inv (b := altB W) k hk).2.1
  refine ⟨((rn (altB W) k).1).map (enW W), (rn (altB W) k).2, ?_, hf, fun q => ?_⟩
  · unfold diL
    rw [h1, List.map_append, List.map_singleton]
    unfold enW
    simp only [Int.toNat_natCast, hw]
  · have h2 : rl (altB W) (k + 1) = (rn (altB W) k).1 ++ [⟨((rn (altB W) k).2 : Nat), ((k + 1 : Nat) : Int)⟩] := by
      unfold rl
      rw [if_neg (by omega), rn, if_neg (by omega), if_pos ((altB_iff hk).2 q)]
    unfold diL
    rw [h2, List.map_append, List.map_singleton]
    unfold enW
    simp only [Int.toNat_natCast, hw]
theorem diL_new {W : Nat → ByteArray} {k : Nat} (hk : k = 0 ∨ ¬W k = W (k - 1)) : diL W (k + 1) = diL W k ++ [⟨(k : Nat), ((k + 1 : Nat) : Int), W k⟩] := by
  have h := rl_new (b := altB W) (k := k) (by
    rcases hk with rfl | q
    · exact .inl rfl
    · by_cases h0 : k = 0
      · exact .inl h0
      · exact .inr fun z => q ((altB_iff (by omega)).1 z))
  unfold diL
  rw [h, List.map_append, List.map_singleton]
  unfold enW
  simp only [Int.toNat_natCast]
theorem diL_le {W : Nat → ByteArray} {k : Nat} : (diL W k).length ≤ k := by unfold diL; rw [List.length_map]; exact rl_len k
theorem en_last {D : List En} {a z : Int} {x : ByteArray} : (D ++ [⟨a, z, x⟩] : List En).flatMap En.cells = D.flatMap En.cells ++ [Value.int .i64 a, Value.int .i64 z, Value.string x] := by
  rw [List.flatMap_append]; simp
theorem en_set {D : List En} {a z y : Int} {x : ByteArray} : (D.flatMap En.cells ++ [Value.int .i64 a, Value.int .i64 z, Value.string x]).set (D.length * 3 + 1) (Value.int .i64 y) = D.flatMap En.cells ++ [Value.int .i64 a, Value.int .i64 y, Value.string x] := by
  rw [List.set_append_right _ _ (by rw [En.flat]; omega), En.flat, Nat.add_sub_cancel_left]; rfl
theorem en_get {D : List En} {a z : Int} {x : ByteArray} : (D.flatMap En.cells ++ [Value.int .i64 a, Value.int .i64 z, Value.string x])[D.length * 3 + 1]? = some (.int .i64 z) ∧ (D.flatMap En.cells ++ [Value.int .i64 a, Value.int .i64 z, Value.string x])[D.length * 3 + 2]? = some (.string x) := by
  constructor <;> rw [List.getElem?_append_right (by rw [En.flat]; omega), En.flat, Nat.add_sub_cancel_left] <;> rfl
set_option maxHeartbeats 16000000 in
theorem c44 {v : Value} {T : Nat} {W : Nat → ByteArray} (s : Sl G h 3 v T ((alL W T).flatMap En.cells)) (hT : T < 1000000) (hw : Wf h) : Cf (mz G) (.func (.func 44) #[] #[]) [v] h fun r h' => OutG h.nx h' r (diL W T).length ((diL W T).flatMap En.cells) 184 3 ∧ Grow h h' := by
  obtain ⟨a, c, rfl⟩ := s.form
  refine cf_enter0 66 [.tmp 2] Tryz.func44 rfl rfl rfl rfl ?_
  repeat' (first | with_reducible refine wo_nil ?_ | ((with_reducible refine wo_any ?_); ((with_reducible refine ik_assign ?_); refine wo_op rfl (op_assign rfl) rfl rfl ?_)) | with_reducible refine sq_norm ?_ | with_reducible refine wc_seq ?_ | with_reducible refine wc_region ?_ | with_reducible refine wc_block ?_)
  refine wc_loop (fun p : Nat × Value => T - p.1) (fun p => [(0, .slice a T c), (3, p.2), (4, .int .i64 (p.1 : Nat))]) (fun p h' => (Wf h' ∧ Grow h h') ∧ p.1 ≤ T ∧ ((p.1 = 0 ∧ p.2 = .slice none 0 0) ∨ 0 < p.1 ∧ ∃ e, h.nx ≤ e ∧ p.2 = .slice (some ⟨e, 0, some 0⟩) (diL W p.1).length (diL W p.1).length ∧ At h' e (.cells ((diL W p.1).flatMap En.cells) 184 3 true))) (0, .slice none 0 0) (within_lk ⟨rfl, rfl, rfl, trivial⟩) ⟨⟨wf_A, gr_A⟩, Nat.zero_le _, .inl ⟨rfl, rfl⟩⟩ ?_
  rintro ⟨k, v⟩ h1 ⟨⟨w1, g1⟩, hk, hv⟩
  simp only at hk hv ⊢
  have n1 := g1.nx
  by_cases hlt : k < T
  · obtain ⟨id, i1, i3⟩ := rl_at En.len ⟨0, 0, .empty⟩ (s.grow g1) alL_len Tryz.underlying83 zs184 (i := (k : Int)) hlt rfl
    rw [alL_get hlt] at i3
    dsimp only [En.cells] at i3
    by_cases hk0 : k = 0
    · subst hk0
      obtain ⟨_, rfl⟩ | ⟨q, _⟩ := hv
      · have e1 := diL_new (W := W) (k := 0) (.inl rfl)
        have e2 : diL W 0 = [] := rfl
        rw [e2, List.nil_append] at e1
        generalize W 0 = x0 at i3 e1
        repeat' (first | with_reducible refine wo_nil ?_ | ((with_reducible refine wo_any ?_); first | ((with_reducible refine ik_move ?_); refine wo_op rfl (op_move rfl) rfl rfl ?_) | ((with_reducible refine ik_assign ?_); refine wo_op rfl (op_assign rfl) rfl rfl ?_) | ((with_reducible refine ik_indexAddr ?_); refine wo_op rfl (op_indexAddr rfl rfl i1) rfl rfl ?_) | ((with_reducible refine ik_load ?_); refine wo_op rfl (op_ldLn rfl Tryz.underlying184 rfl zs184 (i3 _ gr_A).all) rfl rfl ?_) | ((with_reducible refine ik_callb ?_); first | refine wo_op rfl (op_append rfl rfl (append_nil_eq (M := mz G) (st := 83) (xt := 83) (m := 1) Tryz.underlying83 Tryz.underlying83 rfl zs184 zb184 zz184 rfl (Sl.ofAt at_A rfl (Nat.le_refl _)) rfl (by omega) (by omega))) rfl rfl ?_ | refine wo_op rfl (op_lenSl rfl Tryz.underlying83) rfl rfl ?_) | ((with_reducible refine ik_bin ?_); first | refine wo_op rfl (op_lss rfl rfl) rfl rfl ?_ | refine wo_op rfl (op_add' rfl rfl (w64 (by omega) (by omega))) rfl rfl ?_) | ((with_reducible refine ik_buildSlice ?_); refine wo_op rfl (op_buildSl rfl Tryz.underlying83 zs184 zz184 rfl rfl) rfl rfl ?_)) | ((with_reducible refine xk_any ?_); ((with_reducible refine xk_as0 ?_); first | ((with_reducible refine xk_move ?_); refine wx_q (wt_none rfl) rfl rfl (op_q rfl (op_move rfl)) rfl rfl rfl ?_) | ((with_reducible refine xk_bin ?_); refine wx_q (wt_none rfl) rfl rfl (op_q rfl (op_gtr rfl rfl)) rfl rfl rfl ?_) | ((with_reducible refine xk_pick ?_); refine wx_q (wt_none rfl) rfl rfl (op_q rfl (op_pickf rfl rfl)) rfl rfl rfl ?_) | ((with_reducible refine xk_g ?_); refine wx_s (wt_skip rfl rfl rfl rfl) rfl rfl ?_) | with_reducible refine wx_nil0 ?_ ?_)) | with_reducible exact obl_nil | with_reducible refine sq_norm ?_ | with_reducible refine wc_seq ?_ | with_reducible refine wc_region ?_ | with_reducible refine wc_skip ?_ | with_reducible refine wc_block ?_ | with_reducible refine bq_norm ?_ | refine wc_iff rfl ?_ | (refine wc_if rfl (fun hb => ?_) (fun hb => dead_A hb); (try simp only [decide_eq_true_eq, decide_eq_false_iff_not, Bool.not_eq_true', Bool.not_eq_false', Int.not_lt, Int.not_le, Decidable.not_not, not_true_eq_false, not_false_eq_true, beq_self_eq_true, reduceCtorEq] at hb)) | refine wc_drawB (id := 6) 32 [0, 1, 3, 7, 7, 23, 63, 127, 255, 7, 7, 1543, 3591, 7687, 16383, 32767, 65535, 131071, 131071, 393215, 1048575, 2097151, 4194303, 8388607, 131071, 131071, 50462719, 117571583, 251789311, 520224767, 1073741823, 2147483647] [0, 1, 2, 3, 4, 5, 6, 7, 8, 9, 10, 11, 12, 13, 14, 15, 16, 17, 18, 19, 20, 21, 22, 23, 24, 25, 26, 27, 28, 29, 30, 31] (by kernel_rfl) (by kernel_rfl) rfl rfl ?_)
        refine lq_norm (0 + 1, .slice (some ⟨_, 0, some 0⟩) (0 + 1) (0 + 1)) (by simp only; omega) (within_lk ⟨rfl, rfl, rfl, trivial⟩) ⟨⟨wf_A, gr_A⟩, by simp only; omega, .inr ⟨by simp only; omega, _, ?_, by simp only; rw [e1]; rfl, by simp only; rw [e1]; exact (show At _ _ (.cells [Value.int .i64 ((0 : Nat) : Int), Value.int .i64 ((0 + 1 : Nat) : Int), .string x0] 184 3 true) from at_A)⟩⟩
        simp only [H.nx_push, H.nx_set, H.nx_bump, H.nx_kill]; omega
      · omega
    · obtain ⟨D, f, e1, hf, e2⟩ := diL_old (W := W) (k := k) (by omega)
      have e3 := fun q => diL_new (W := W) (k := k) (.inr q)
      obtain ⟨e, he, hve, hat⟩ : ∃ e, h.nx ≤ e ∧ v = .slice (some ⟨e, 0, some 0⟩) (diL W k).length (diL W k).length ∧ At h1 e (.cells ((diL W k).flatMap En.cells) 184 3 true) := by
        rcases hv with ⟨q, _⟩ | ⟨_, q⟩
        · exact absurd q hk0
        · exact q
      subst hve
      have l1 := hat.lt
      have hDl : D.length + 1 ≤ k := by have := diL_le (W := W) (k := k); rw [e1] at this; simpa using this
      have ic := fun (h' : H) (g' : Grow h1 h') => (show acell G h' (aadd id 2) = some (.string (W k)) from (i3 h' g').get 2 _ rfl)
      have it := fun (h' : H) (g' : Grow h1 h') => (show acell G h' (aadd (aadd id 0) 1) = some (.int .i64 ((k + 1 : Nat) : Int)) from (i3 h' g').get 1 _ rfl)
      have if_ := fun (h' : H) (g' : Grow h1 h') => (show acell G h' (aadd (aadd id 0) 0) = some (.int .i64 (k : Nat)) from (i3 h' g').get 0 _ rfl)
      have e6 : (D ++ [⟨(f : Nat), (k : Nat), W (k - 1)⟩] : List En).length = D.length + 1 := by simp
      rw [e1, en_last] at hat
      rw [e1] at e3
      rw [e1, e6]
      obtain ⟨hc1, hc2⟩ := en_get (D := D) (a := (f : Nat)) (z := (k : Nat)) (x := W (k - 1))
      have hll : (D.flatMap En.cells ++ [Value.int .i64 (f : Nat), Value.int .i64 (k : Nat), Value.string (W (k - 1))]).length = (D.length + 1) * 3 := by rw [List.length_append, En.flat]; simp only [List.length_cons, List.length_nil]; omega
      clear hv e1
      obtain ⟨x0, hx⟩ : ∃ x, W k = x := ⟨_, rfl⟩
      obtain ⟨y0, hy⟩ : ∃ x, W (k - 1) = x := ⟨_, rfl⟩
      rw [hx] at ic i3 e2 e3
      rw [hy] at hat hc1 hc2 e2 e3 hll
      clear hx hy
      by_cases hxy : x0 = y0
      · have e5 := e2 hxy
        have e7 : (diL W (k + 1)).length = D.length + 1 := by rw [e5]; simp
        have e8 : (diL W (k + 1)).flatMap En.cells = D.flatMap En.cells ++ [Value.int .i64 (f : Nat), Value.int .i64 ((k + 1 : Nat) : Int), .string y0] := by rw [e5, en_last]
        clear e2 e3 e5
        repeat' (first | with_reducible refine wo_nil ?_ | ((with_reducible refine wo_any ?_); first | ((with_reducible refine ik_move ?_); refine wo_op rfl (op_move rfl) rfl rfl ?_) | ((with_reducible refine ik_assign ?_); refine wo_op rfl (op_assign rfl) rfl rfl ?_) | ((with_reducible refine ik_indexAddr ?_); first | refine wo_op rfl (op_indexAddr rfl rfl i1) rfl rfl ?_ | refine wo_op rfl (op_idxSl (o := D.length * 3) rfl rfl Tryz.underlying83 zs184 (by omega) (by omega) (by omega)) rfl rfl ?_) | ((with_reducible refine ik_load ?_); refine wo_op rfl (op_ldCell rfl Tryz.underlying3 rfl (it _ gr_A)) rfl rfl ?_) | ((with_reducible refine ik_bin ?_); first | refine wo_op rfl (op_lss rfl rfl) rfl rfl ?_ | refine wo_op rfl (op_sub' rfl rfl (w64 (by omega) (by omega))) rfl rfl ?_ | refine wo_op rfl (op_add' rfl rfl (w64 (by omega) (by omega))) rfl rfl ?_) | ((with_reducible refine ik_store ?_); refine wo_op0 rfl (op_stIdx (b := e) (o := D.length * 3 + 1) rfl rfl at_A rfl zs3 (by rw [hll]; omega) rfl en_set) rfl ?_) | ((with_reducible refine ik_callb ?_); refine wo_op rfl (op_lenSl rfl Tryz.underlying83) rfl rfl ?_) | ((with_reducible refine ik_fieldAddr ?_); first | refine wo_op rfl (op_fieldAddr (o := 0) rfl Tryz.underlying184 rfl zs79 rfl) rfl rfl ?_ | refine wo_op rfl (op_fieldAddr (o := 1) rfl Tryz.underlying79 rfl zs3 rfl) rfl rfl ?_)) | ((with_reducible refine xk_any ?_); ((with_reducible refine xk_as0 ?_); first | ((with_reducible refine xk_move ?_); refine wx_q (wt_none rfl) rfl rfl (op_q rfl (op_move rfl)) rfl rfl rfl ?_) | ((with_reducible refine xk_bin ?_); refine wx_q (wt_none rfl) rfl rfl (op_q rfl (op_gtr rfl rfl)) rfl rfl rfl ?_) | ((with_reducible refine xk_pick ?_); refine wx_q (wt_none rfl) rfl rfl (op_q rfl (op_pickt rfl rfl)) rfl rfl rfl ?_) | ((with_reducible refine xk_g ?_); first | ((with_reducible refine xg_move ?_); refine wx_q (wt_run rfl rfl rfl) rfl rfl (op_q rfl (op_move rfl)) rfl rfl rfl ?_) | ((with_reducible refine xg_indexAddr ?_); first | refine wx_q (wt_run rfl rfl rfl) rfl rfl (op_q rfl (op_indexAddr rfl rfl i1)) rfl rfl rfl ?_ | refine wx_q (wt_run rfl rfl rfl) rfl rfl (op_q rfl (op_idxSl (o := D.length * 3) rfl rfl Tryz.underlying83 zs184 (by omega) (by omega) (by omega))) rfl rfl rfl ?_) | ((with_reducible refine xg_load ?_); first | refine wx_h0 (wt_run rfl rfl rfl) rfl (op_q rfl (op_ldCell rfl Tryz.underlying9 rfl (ic _ gr_A))) rfl rfl rfl ?_ | refine wx_h0 (wt_run rfl rfl rfl) rfl (op_q rfl (op_ldCell rfl Tryz.underlying3 rfl (if_ _ gr_A))) rfl rfl rfl ?_ | refine wx_h0 (wt_run rfl rfl rfl) rfl (op_q rfl (op_ldIdx (b := e) (o := D.length * 3 + 2) rfl at_A Tryz.underlying9 rfl hc2)) rfl rfl rfl ?_ | refine wx_h0 (wt_run rfl rfl rfl) rfl (op_q rfl (op_ldIdx (b := e) (o := D.length * 3 + 1) rfl at_A Tryz.underlying3 rfl hc1)) rfl rfl rfl ?_) | ((with_reducible refine xg_bin ?_); first | refine wx_q (wt_run rfl rfl rfl) rfl rfl (op_q rfl (op_seqE rfl rfl hxy.symm)) rfl rfl rfl ?_ | refine wx_q (wt_run rfl rfl rfl) rfl rfl (op_q rfl (op_sub' rfl rfl (w64 (by omega) (by omega)))) rfl rfl rfl ?_ | refine wx_q (wt_run rfl rfl rfl) rfl rfl (op_q rfl (op_eql rfl rfl)) rfl rfl rfl ?_) | ((with_reducible refine xg_fieldAddr ?_); first | refine wx_q (wt_run rfl rfl rfl) rfl rfl (op_q rfl (op_fieldAddr (o := 2) rfl Tryz.underlying184 rfl zs9 rfl)) rfl rfl rfl ?_ | refine wx_q (wt_run rfl rfl rfl) rfl rfl (op_q rfl (op_fieldAddr (o := 0) rfl Tryz.underlying184 rfl zs79 rfl)) rfl rfl rfl ?_ | refine wx_q (wt_run rfl rfl rfl) rfl rfl (op_q rfl (op_fieldAddr (o := 1) rfl Tryz.underlying79 rfl zs3 rfl)) rfl rfl rfl ?_ | refine wx_q (wt_run rfl rfl rfl) rfl rfl (op_q rfl (op_fieldAddr (o := 0) rfl Tryz.underlying79 rfl zs3 rfl)) rfl rfl rfl ?_) | (refine wx_split rfl rfl rfl (fun hb => ?_) (fun hb => dead_A hb); (try simp only [decide_eq_true_eq, decide_eq_false_iff_not, Bool.not_eq_true', Bool.not_eq_false', Int.not_lt, Int.not_le, Decidable.not_not, not_true_eq_false, not_false_eq_true, beq_self_eq_true, reduceCtorEq] at hb))) | with_reducible refine wx_nil0 ?_ ?_)) | with_reducible exact obl_nil | with_reducible refine obl_cons ?_ ?_ | ((with_reducible refine ik_obs ?_); first | exact obs_nil | refine obs_chkn rfl rfl (op_q rfl (op_ldCell rfl Tryz.underlying9 rfl (ic _ gr_A))) ?_ | refine obs_chkn rfl rfl (op_q rfl (op_ldCell rfl Tryz.underlying3 rfl (if_ _ gr_A))) ?_ | refine obs_chkn rfl rfl (op_q rfl (op_ldIdx (b := e) (o := D.length * 3 + 2) rfl at_A Tryz.underlying9 rfl hc2)) ?_ | refine obs_chkn rfl rfl (op_q rfl (op_ldIdx (b := e) (o := D.length * 3 + 1) rfl at_A Tryz.underlying3 rfl hc1)) ?_) | with_reducible refine sq_norm ?_ | with_reducible refine wc_seq ?_ | with_reducible refine wc_region ?_ | with_reducible refine wc_skip ?_ | with_reducible refine wc_block ?_ | with_reducible refine bq_norm ?_ | (refine wc_if rfl (fun hb => ?_) (fun hb => dead_A hb); (try simp only [decide_eq_true_eq, decide_eq_false_iff_not, Bool.not_eq_true', Bool.not_eq_false', Int.not_lt, Int.not_le, Decidable.not_not, not_true_eq_false, not_false_eq_true, beq_self_eq_true, reduceCtorEq] at hb)) | (refine wc_if rfl (fun hb => ?_) (fun hb => (of_decide_eq_false hb rfl).elim); (try simp only [decide_eq_true_eq, decide_eq_false_iff_not, Bool.not_eq_true', Bool.not_eq_false', Int.not_lt, Int.not_le, Decidable.not_not, not_true_eq_false, not_false_eq_true, beq_self_eq_true, reduceCtorEq] at hb)) | refine wc_drawB (id := 6) 32 [0, 1, 3, 7, 7, 23, 63, 127, 255, 7, 7, 1543, 3591, 7687, 16383, 32767, 65535, 131071, 131071, 393215, 1048575, 2097151, 4194303, 8388607, 131071, 131071, 50462719, 117571583, 251789311, 520224767, 1073741823, 2147483647] [0, 1, 2, 3, 4, 5, 6, 7, 8, 9, 10, 11, 12, 13, 14, 15, 16, 17, 18, 19, 20, 21, 22, 23, 24, 25, 26, 27, 28, 29, 30, 31] (by kernel_rfl) (by kernel_rfl) rfl rfl ?_)
        exact lq_norm (k + 1, .slice (some ⟨_, 0, some 0⟩) (D.length + 1) (D.length + 1)) (by simp only; omega) (within_lk ⟨rfl, rfl, rfl, trivial⟩) ⟨⟨wf_A, gr_A⟩, by simp only; omega, .inr ⟨by simp only; omega, e, he, by simp only; rw [e7], by simp only; rw [e8]; exact at_A⟩⟩
      · have e5 := e3 hxy
        have hs1 : (diL W (k + 1)).length = D.length + 1 + 1 := by rw [e5]; simp
        have hs2 : (diL W (k + 1)).flatMap En.cells = (D.flatMap En.cells ++ [Value.int .i64 (f : Nat), Value.int .i64 (k : Nat), .string y0]) ++ [Value.int .i64 (k : Nat), Value.int .i64 ((k + 1 : Nat) : Int), .string x0] := by rw [e5, en_last, en_last]
        clear e2 e3 e5
        obtain ⟨L, hL⟩ : ∃ L, (D.flatMap En.cells ++ [Value.int .i64 (f : Nat), Value.int .i64 (k : Nat), Value.string y0]) = L := ⟨_, rfl⟩
        rw [hL] at hat hc1 hc2 hs2 hll
        clear hL
        repeat' (first | with_reducible refine wo_nil ?_ | ((with_reducible refine wo_any ?_); first | ((with_reducible refine ik_move ?_); refine wo_op rfl (op_move rfl) rfl rfl ?_) | ((with_reducible refine ik_assign ?_); refine wo_op rfl (op_assign rfl) rfl rfl ?_) | ((with_reducible refine ik_indexAddr ?_); refine wo_op rfl (op_indexAddr rfl rfl i1) rfl rfl ?_) | ((with_reducible refine ik_load ?_); refine wo_op rfl (op_ldLn rfl Tryz.underlying184 rfl zs184 (i3 _ gr_A).all) rfl rfl ?_) | ((with_reducible refine ik_bin ?_); first | refine wo_op rfl (op_lss rfl rfl) rfl rfl ?_ | refine wo_op rfl (op_add' rfl rfl (w64 (by omega) (by omega))) rfl rfl ?_) | ((with_reducible refine ik_callb ?_); first | refine wo_op rfl (op_append rfl rfl (append_own_eq (M := mz G) (st := 83) (xt := 83) (m := 1) Tryz.underlying83 Tryz.underlying83 rfl zs184 zb184 zz184 rfl (Sl.ofAt at_A rfl (Nat.le_refl _)) rfl (b := e) (c := L) at_A hll (by omega) (by omega))) rfl rfl ?_ | refine wo_op rfl (op_lenSl rfl Tryz.underlying83) rfl rfl ?_) | ((with_reducible refine ik_buildSlice ?_); refine wo_op rfl (op_buildSl rfl Tryz.underlying83 zs184 zz184 rfl rfl) rfl rfl ?_)) | ((with_reducible refine xk_any ?_); ((with_reducible refine xk_as0 ?_); first | ((with_reducible refine xk_move ?_); refine wx_q (wt_none rfl) rfl rfl (op_q rfl (op_move rfl)) rfl rfl rfl ?_) | ((with_reducible refine xk_bin ?_); refine wx_q (wt_none rfl) rfl rfl (op_q rfl (op_gtr rfl rfl)) rfl rfl rfl ?_) | ((with_reducible refine xk_pick ?_); first | refine wx_q (wt_none rfl) rfl rfl (op_q rfl (op_pickt rfl rfl)) rfl rfl rfl ?_ | refine wx_q (wt_none rfl) rfl rfl (op_q rfl (op_pickf rfl rfl)) rfl rfl rfl ?_) | ((with_reducible refine xk_g ?_); first | refine wx_s (wt_skip rfl rfl rfl rfl) rfl rfl ?_ | ((with_reducible refine xg_move ?_); refine wx_q (wt_run rfl rfl rfl) rfl rfl (op_q rfl (op_move rfl)) rfl rfl rfl ?_) | ((with_reducible refine xg_indexAddr ?_); first | refine wx_q (wt_run rfl rfl rfl) rfl rfl (op_q rfl (op_indexAddr rfl rfl i1)) rfl rfl rfl ?_ | refine wx_q (wt_run rfl rfl rfl) rfl rfl (op_q rfl (op_idxSl (o := D.length * 3) rfl rfl Tryz.underlying83 zs184 (by omega) (by omega) (by omega))) rfl rfl rfl ?_) | ((with_reducible refine xg_load ?_); first | refine wx_h0 (wt_run rfl rfl rfl) rfl (op_q rfl (op_ldCell rfl Tryz.underlying9 rfl (ic _ gr_A))) rfl rfl rfl ?_ | refine wx_h0 (wt_run rfl rfl rfl) rfl (op_q rfl (op_ldIdx (b := e) (o := D.length * 3 + 2) rfl at_A Tryz.underlying9 rfl hc2)) rfl rfl rfl ?_) | ((with_reducible refine xg_bin ?_); first | refine wx_q (wt_run rfl rfl rfl) rfl rfl (op_q rfl (op_seqN rfl rfl (fun q => hxy q.symm))) rfl rfl rfl ?_ | refine wx_q (wt_run rfl rfl rfl) rfl rfl (op_q rfl (op_sub' rfl rfl (w64 (by omega) (by omega)))) rfl rfl rfl ?_) | ((with_reducible refine xg_fieldAddr ?_); refine wx_q (wt_run rfl rfl rfl) rfl rfl (op_q rfl (op_fieldAddr (o := 2) rfl Tryz.underlying184 rfl zs9 rfl)) rfl rfl rfl ?_) | (refine wx_split rfl rfl rfl (fun hb => ?_) (fun hb => dead_A hb); (try simp only [decide_eq_true_eq, decide_eq_false_iff_not, Bool.not_eq_true', Bool.not_eq_false', Int.not_lt, Int.not_le, Decidable.not_not, not_true_eq_false, not_false_eq_true, beq_self_eq_true, reduceCtorEq] at hb))) | with_reducible refine wx_nil0 ?_ ?_)) | with_reducible exact obl_nil | with_reducible refine obl_cons ?_ ?_ | ((with_reducible refine ik_obs ?_); first | exact obs_nil | refine obs_chkn rfl rfl (op_q rfl (op_ldCell rfl Tryz.underlying9 rfl (ic _ gr_A))) ?_ | refine obs_chkn rfl rfl (op_q rfl (op_ldIdx (b := e) (o := D.length * 3 + 2) rfl at_A Tryz.underlying9 rfl hc2)) ?_) | with_reducible refine sq_norm ?_ | with_reducible refine wc_seq ?_ | with_reducible refine wc_region ?_ | with_reducible refine wc_skip ?_ | with_reducible refine wc_block ?_ | with_reducible refine bq_norm ?_ | refine wc_iff rfl ?_ | (refine wc_if rfl (fun hb => ?_) (fun hb => dead_A hb); (try simp only [decide_eq_true_eq, decide_eq_false_iff_not, Bool.not_eq_true', Bool.not_eq_false', Int.not_lt, Int.not_le, Decidable.not_not, not_true_eq_false, not_false_eq_true, beq_self_eq_true, reduceCtorEq] at hb)) | refine wc_drawB (id := 6) 32 [0, 1, 3, 7, 7, 23, 63, 127, 255, 7, 7, 1543, 3591, 7687, 16383, 32767, 65535, 131071, 131071, 393215, 1048575, 2097151, 4194303, 8388607, 131071, 131071, 50462719, 117571583, 251789311, 520224767, 1073741823, 2147483647] [0, 1, 2, 3, 4, 5, 6, 7, 8, 9, 10, 11, 12, 13, 14, 15, 16, 17, 18, 19, 20, 21, 22, 23, 24, 25, 26, 27, 28, 29, 30, 31] (by kernel_rfl) (by kernel_rfl) rfl rfl ?_)
        refine lq_norm (k + 1, .slice (some ⟨_, 0, some 0⟩) (D.length + 1 + 1) (D.length + 1 + 1)) (by simp only; omega) (within_lk ⟨rfl, rfl, rfl, trivial⟩) ⟨⟨wf_A, gr_A⟩, by simp only; omega, .inr ⟨by simp only; omega, _, ?_, by simp only; rw [hs1], by simp only; rw [hs2]; exact at_A⟩⟩
        simp only [H.nx_push, H.nx_set, H.nx_bump, H.nx_kill]; omega
  · have hkn : k = T := by omega
    subst hkn
    repeat' (first | with_reducible refine wo_nil ?_ | ((with_reducible refine wo_any ?_); first | ((with_reducible refine ik_move ?_); refine wo_op rfl (op_move rfl) rfl rfl ?_) | ((with_reducible refine ik_assign ?_); refine wo_op rfl (op_assign rfl) rfl rfl ?_) | ((with_reducible refine ik_callb ?_); refine wo_op rfl (op_lenSl rfl Tryz.underlying83) rfl rfl ?_) | ((with_reducible refine ik_bin ?_); refine wo_op rfl (op_lss rfl rfl) rfl rfl ?_)) | with_reducible refine sq_norm ?_ | with_reducible refine wc_seq ?_ | with_reducible refine wc_region ?_ | with_reducible refine wc_ret ?_ | with_reducible refine wc_exit ?_ | with_reducible refine sq_exit ?_ | with_reducible refine lq_exit ?_ | refine bq_eq rfl ?_ | (refine wc_if rfl (fun hb => dead_A hb) (fun hb => ?_); (try simp only [decide_eq_true_eq, decide_eq_false_iff_not, Bool.not_eq_true', Bool.not_eq_false', Int.not_lt, Int.not_le, Decidable.not_not, not_true_eq_false, not_false_eq_true, beq_self_eq_true, reduceCtorEq] at hb)))
    refine rq1 rfl ⟨?_, gr_A⟩
    rcases hv with ⟨rfl, rfl⟩ | ⟨_, q⟩
    · exact .inl ⟨rfl, rfl, rfl⟩
    · exact .inr q
end Go.Proofs.YtlioomhcdlicmaaGreatDoor

/- The law SurveyDiaries. -/
namespace Go.Proofs.YtlioomhcdlicmaaGreatDoor
open Go Go.Ab Go.Fl
attribute [local irreducible] SeqQ BlkQ LpQ RetQ Wc Wo WD WX Op1 Op1q Op1a Cf Cl From
attribute [local irreducible] Ieee.Format.order Ieee.Format.read Ieee.Format.nearest Ieee.Format.write Ieee.Format.mul Ieee.Format.div Ieee.Format.sqrt Ieee.Datum.order Ieee.Datum.integral K U rngE errN ptE firstNZ vesE watE sgE sgsE allE hitB sqD insB qsL lvl rn rl altB
set_option maxRecDepth 10000
variable {G : Base} {h : H}

attribute [local irreducible] fl silN insN levN inL leL diL
set_option maxHeartbeats 16000000 in
theorem c71 {x y u v t r sp lo cl so : Int} {w vs vw : Value} {n m q : Nat} {l : List Sg} {L M : List Spn} (s : Sl G h 3 w n (l.flatMap Sg.cells)) (hl : l.length = n) (hn : n < 1000000) (p : Sl G h 2 vs m (L.flatMap Spn.cells)) (hL : L.length = m) (hm : m < 1000000) (pw : Sl G h 2 vw q (M.flatMap Spn.cells)) (hM : M.length = q) (hq0 : q < 1000000) (hw : Wf h) :
    Cf (mz G) (.func (.func 71) #[] #[]) [.agg ⟨[.int .i64 x, .int .i64 y, .int .i64 u, .int .i64 v, .int .i64 t]⟩, .agg ⟨[.int .i64 r, .int .i64 sp, .int .i64 lo, .int .i64 cl, .int .i64 so]⟩, w, vs, vw] h fun r' h' => (∃ a c, r' = .tuple #[.slice a (diaL (firstNZ [allE x y u v t r sp lo cl so l, spsE L, spsE M]) (diL (cawB cl so (insB x y u v r sp lo l) L M) t.toNat)).length c, .int .i64 (diaE (firstNZ [allE x y u v t r sp lo cl so l, spsE L, spsE M]) (diL (cawB cl so (insB x y u v r sp lo l) L M) t.toNat))] ∧ Sl G h' 3 (.slice a (diaL (firstNZ [allE x y u v t r sp lo cl so l, spsE L, spsE M]) (diL (cawB cl so (insB x y u v r sp lo l) L M) t.toNat)).length c) (diaL (firstNZ [allE x y u v t r sp lo cl so l, spsE L, spsE M]) (diL (cawB cl so (insB x y u v r sp lo l) L M) t.toNat)).length ((diaL (firstNZ [allE x y u v t r sp lo cl so l, spsE L, spsE M]) (diL (cawB cl so (insB x y u v r sp lo l) L M) t.toNat)).flatMap En.cells)) ∧ Grow h h' := by
  have q21 := fun (h' : H) (g : Grow h h') (w' : Wf h') => c21 (x := x) (y := y) (u := u) (v := v) (t := t) (r := r) (sp := sp) (lo := lo) (cl := cl) (so := so) (s.grow g) hl hn w'
  have qa := fun (h' : H) (g : Grow h h') (w' : Wf h') => c66 (p.grow g) hL hm w'
  have qb := fun (h' : H) (g : Grow h h') (w' : Wf h') => c66 (pw.grow g) hM hq0 w'
  have qf3 := fun (h' : H) (vv : Value) (s : Sl G h' 1 vv 3 ([allE x y u v t r sp lo cl so l, spsE L, spsE M].map (.int .i64))) => c91 s (by omega)
  by_cases hE : (firstNZ [allE x y u v t r sp lo cl so l, spsE L, spsE M]) = 0
  · have z := firstNZ_zero hE
    have he : allE x y u v t r sp lo cl so l = 0 := z _ (by simp)
    have hsp : spsE L = 0 := z _ (by simp)
    have hsw : spsE M = 0 := z _ (by simp)
    obtain ⟨⟨b1, b2⟩, ⟨b3, b4⟩, ⟨bt, bT⟩, hr, hs, hlo, hcl, hso, hlen, hall⟩ := all_ok he
    obtain ⟨T, rfl⟩ : ∃ T : Nat, t = T := ⟨t.toNat, by omega⟩
    have hT : T ≤ 4096 := by omega
    have q23 := fun (h' : H) (g : Grow h h') (w' : Wf h') => cf_formW (c23 (cl := cl) (so := so) (T := T) (s.grow g) hl hn w' b1 b2 b3 b4 hT hr hs hlo hcl hso hall)
    have qis := fun (h' : H) (k : Nat) (g : Grow h h') (w' : Wf h') => c142 (k := (k : Int)) (p.grow g) hL hm w'
    have qiw := fun (h' : H) (k : Nat) (g : Grow h h') (w' : Wf h') => c142 (k := (k : Int)) (pw.grow g) hM hq0 w'
    rw [hE] at qf3 ⊢
    rw [he] at q21 qf3
    rw [hsp] at qa qf3
    rw [hsw] at qb qf3
    rw [Int.toNat_natCast]
    have hLg : ∀ m, m < T → (leL cl so (insB x y u v r sp lo l) T).getD m 0 = lvl cl so (qt (insB x y u v r sp lo l) (m + 1) : Int) := fun m hm => by
      unfold leL; simp [List.getD, List.getElem?_map, List.getElem?_range hm]
    have hW : ∀ k, k < T → (cawB cl so (insB x y u v r sp lo l) L M) k = cauS (M.any (inP (k : Int))) (L.any (inP (k : Int))) (decide ((leL cl so (insB x y u v r sp lo l) T).getD k 0 = 0)) := fun k hk => by rw [hLg k hk]; rfl
    clear hLg he hsp hsw hE z hall hlen b1 b2 b3 b4
    obtain ⟨LL, hLL⟩ : ∃ LL, leL cl so (insB x y u v r sp lo l) T = LL := ⟨_, rfl⟩
    rw [hLL] at q23 hW
    generalize cawB cl so (insB x y u v r sp lo l) L M = W at hW ⊢
    clear hLL
    obtain ⟨a, c, rfl⟩ := s.form
    obtain ⟨pa, pc, rfl⟩ := p.form
    obtain ⟨wa, wc, rfl⟩ := pw.form
    refine cf_enter0 68 [.tmp 10, .tmp 11] Tryz.func71 rfl rfl rfl rfl ?_
    repeat' (first | with_reducible refine wo_nil ?_ | ((with_reducible refine wo_any ?_); first | ((with_reducible refine ik_move ?_); refine wo_op rfl (op_move rfl) rfl rfl ?_) | ((with_reducible refine ik_assign ?_); refine wo_op rfl (op_assign rfl) rfl rfl ?_) | ((with_reducible refine ik_box ?_); refine wo_op rfl (op_boxAgg rfl zs37 rfl) rfl rfl ?_) | ((with_reducible refine ik_load ?_); first | refine wo_op rfl (op_ldAgg rfl at_A Tryz.underlying37 rfl zs37 rfl rfl) rfl rfl ?_ | refine wo_op rfl (op_ldAgg rfl at_A Tryz.underlying39 rfl zs39 rfl rfl) rfl rfl ?_) | ((with_reducible refine ik_buildSlice ?_); refine wo_op rfl (op_buildSl rfl Tryz.underlying49 zs3 zz3 rfl rfl) rfl rfl ?_) | ((with_reducible refine ik_bin ?_); refine wo_op rfl (op_neq rfl rfl) rfl rfl ?_) | ((with_reducible refine ik_callv ?_); first | refine wo_op rfl (op_call rfl rfl (qf3 _ _ (Sl.ofAt (show At _ _ (.cells [.int .i64 0, .int .i64 0, .int .i64 0] 3 1 false) from at_A) rfl (Nat.le_refl _)))) rfl rfl ?_ | (refine wo_call rfl rfl rfl rfl (q21 _ gr_A wf_A) rfl rfl ?_; rintro _ _ ⟨rfl, hq⟩; all_goals ((try (have hqn := hq.nx)); (try simp only [H.nx_push, H.nx_set, H.nx_bump] at hqn))) | (refine wo_call rfl rfl rfl rfl (qa _ gr_A wf_A) rfl rfl ?_; rintro _ _ ⟨rfl, hq⟩; all_goals ((try (have hqn := hq.nx)); (try simp only [H.nx_push, H.nx_set, H.nx_bump] at hqn))) | (refine wo_call rfl rfl rfl rfl (qb _ gr_A wf_A) rfl rfl ?_; rintro _ _ ⟨rfl, hq⟩; all_goals ((try (have hqn := hq.nx)); (try simp only [H.nx_push, H.nx_set, H.nx_bump] at hqn))) | (refine wo_call rfl rfl rfl rfl (q23 _ gr_A wf_A) rfl rfl ?_; rintro _ _ ⟨⟨la, lc, rfl, s13⟩, hq⟩; all_goals ((try (have hqn := hq.nx)); (try simp only [H.nx_push, H.nx_set, H.nx_bump] at hqn))))) | with_reducible refine sq_norm ?_ | with_reducible refine wc_seq ?_ | with_reducible refine wc_region ?_ | with_reducible refine wc_skip ?_ | with_reducible refine wc_block ?_ | refine wc_iff rfl ?_)
    refine wc_cut (ι := Unit) (fun _ => [(3, .slice pa m pc), (4, .slice wa q wc), (13, .slice la T lc), (14, .slice none 0 0), (15, .int .i64 0)]) (fun _ h' => (Wf h' ∧ Grow h h') ∧ Sl G h' 1 (.slice la T lc) T (LL.map (Value.int .i64))) () (within_lk ⟨rfl, rfl, rfl, rfl, rfl, trivial⟩) ⟨⟨wf_A, gr_A⟩, s13.grow gr_A⟩ ?_
    clear q21 qa qb qf3 q23 s13
    rintro _ h0 ⟨⟨w1, g0⟩, s13⟩
    have n0 := g0.nx
    refine wc_loop (fun p : Nat × Value => T - p.1) (fun p => [(3, .slice pa m pc), (4, .slice wa q wc), (13, .slice la T lc), (14, p.2), (15, .int .i64 (p.1 : Nat))]) (fun p h' => (Wf h' ∧ Grow h0 h') ∧ p.1 ≤ T ∧ ((p.2 = .slice none 0 0 ∧ p.1 = 0) ∨ ∃ e, h0.nx ≤ e ∧ p.2 = .slice (some ⟨e, 0, some 0⟩) p.1 p.1 ∧ At h' e (.cells (((alL W T).take p.1).flatMap En.cells) 184 3 true))) (0, .slice none 0 0) (within_lk ⟨rfl, rfl, rfl, rfl, rfl, trivial⟩) ⟨⟨w1, Grow.refl _⟩, Nat.zero_le _, .inl ⟨rfl, rfl⟩⟩ ?_
    clear w1
    rintro ⟨k, v⟩ h1 ⟨⟨w1, g1⟩, hk, hv⟩
    simp only at hk hv ⊢
    have n1 := g1.nx
    have gg := g0.trans g1
    by_cases hlt : k < T
    · refine wc_mid (ι := Unit) (fun _ => [(3, .slice pa m pc), (4, .slice wa q wc), (13, .slice la T lc), (14, v), (15, .int .i64 (k : Nat))]) (fun _ h' => h1 = h') ?_ ?_
      · repeat' (first | with_reducible refine wo_nil ?_ | ((with_reducible refine wo_any ?_); first | ((with_reducible refine ik_move ?_); refine wo_op rfl (op_move rfl) rfl rfl ?_) | ((with_reducible refine ik_bin ?_); refine wo_op rfl (op_lss rfl rfl) rfl rfl ?_) | ((with_reducible refine ik_callb ?_); refine wo_op rfl (op_lenSl rfl Tryz.underlying49) rfl rfl ?_)) | with_reducible refine sq_norm ?_ | with_reducible refine wc_seq ?_ | with_reducible refine wc_region ?_ | with_reducible refine wc_skip ?_ | (refine wc_if rfl (fun hb => ?_) (fun hb => dead_A hb); (try simp only [decide_eq_true_eq, decide_eq_false_iff_not, Bool.not_eq_true', Bool.not_eq_false', Int.not_lt, Int.not_le, Decidable.not_not, not_true_eq_false, not_false_eq_true, beq_self_eq_true, reduceCtorEq] at hb)))
        exact ⟨rfl, (), within_lk ⟨rfl, rfl, rfl, rfl, rfl, trivial⟩, rfl⟩
      rintro _ h1' e
      subst e
      refine wc_mid (ι := Value) (fun v => [(3, .slice pa m pc), (4, .slice wa q wc), (13, .slice la T lc), (14, v), (15, .int .i64 (k : Nat))]) (fun v h' => (Wf h' ∧ Grow h0 h') ∧ ∃ e, h0.nx ≤ e ∧ v = .slice (some ⟨e, 0, some 0⟩) (k + 1) (k + 1) ∧ At h' e (.cells (((alL W T).take (k + 1)).flatMap En.cells) 184 3 true)) ?_ ?_
      · refine wc_block ?_
        refine wc_mid (ι := Unit) (fun _ => [(3, .slice pa m pc), (4, .slice wa q wc), (13, .slice la T lc), (14, v), (15, .int .i64 (k : Nat)), (16, .string wSo)]) (fun _ h' => h1 = h') ?_ ?_
        · repeat' (first | with_reducible refine wo_nil ?_ | ((with_reducible refine wo_any ?_); ((with_reducible refine ik_assign ?_); refine wo_op rfl (op_assign rfl) rfl rfl ?_)) | with_reducible refine wc_region ?_)
          exact ⟨rfl, (), within_lk ⟨rfl, rfl, rfl, rfl, rfl, rfl, trivial⟩, rfl⟩
        rintro _ h1' e
        subst e
        refine wc_mid (ι := Unit) (fun _ => [(3, .slice pa m pc), (4, .slice wa q wc), (13, .slice la T lc), (14, v), (15, .int .i64 (k : Nat)), (16, .string (W k))]) (fun _ h' => Wf h' ∧ Grow h1 h') ?_ ?_
        · have hWk := hW k hlt
          have qw := fun (h' : H) (g' : Grow h1 h') (w' : Wf h') => qiw h' k (gg.trans g') w'
          have qs := fun (h' : H) (g' : Grow h1 h') (w' : Wf h') => qis h' k (gg.trans g') w'
          obtain ⟨ld, l1, l3⟩ := in_atV (Value.int .i64) 0 (s13.grow g1) Tryz.underlying49 zs3 (i := (k : Int)) (q := k) hlt rfl
          rw [hWk]
          generalize M.any (inP (k : Int)) = B at qw ⊢
          generalize L.any (inP (k : Int)) = A at qs ⊢
          generalize LL.getD k 0 = D at l3 ⊢
          clear hWk hW qiw qis s13 hv
          cases B with
          | true =>
            repeat' (first | with_reducible refine wo_nil ?_ | ((with_reducible refine wo_any ?_); first | ((with_reducible refine ik_move ?_); refine wo_op rfl (op_move rfl) rfl rfl ?_) | ((with_reducible refine ik_assign ?_); refine wo_op rfl (op_assign rfl) rfl rfl ?_) | ((with_reducible refine ik_callv ?_); (refine wo_call rfl rfl rfl rfl (qw _ gr_A wf_A) rfl rfl ?_; rintro _ _ ⟨rfl, hq⟩; all_goals ((try (have hqn := hq.nx)); (try simp only [H.nx_push, H.nx_set, H.nx_bump] at hqn))))) | with_reducible refine sq_norm ?_ | with_reducible refine wc_seq ?_ | with_reducible refine wc_region ?_ | refine wc_ift rfl ?_)
            exact ⟨rfl, (), within_lk ⟨rfl, rfl, rfl, rfl, rfl, rfl, trivial⟩, wf_A, gr_A⟩
          | false =>
            cases A with
            | false =>
              repeat' (first | with_reducible refine wo_nil ?_ | ((with_reducible refine wo_any ?_); first | ((with_reducible refine ik_move ?_); refine wo_op rfl (op_move rfl) rfl rfl ?_) | ((with_reducible refine ik_assign ?_); refine wo_op rfl (op_assign rfl) rfl rfl ?_) | ((with_reducible refine ik_un ?_); refine wo_op rfl (op_not rfl) rfl rfl ?_) | ((with_reducible refine ik_callv ?_); first | (refine wo_call rfl rfl rfl rfl (qw _ gr_A wf_A) rfl rfl ?_; rintro _ _ ⟨rfl, hq⟩; all_goals ((try (have hqn := hq.nx)); (try simp only [H.nx_push, H.nx_set, H.nx_bump] at hqn))) | (refine wo_call rfl rfl rfl rfl (qs _ gr_A wf_A) rfl rfl ?_; rintro _ _ ⟨rfl, hq⟩; all_goals ((try (have hqn := hq.nx)); (try simp only [H.nx_push, H.nx_set, H.nx_bump] at hqn))))) | with_reducible refine sq_norm ?_ | with_reducible refine wc_seq ?_ | with_reducible refine wc_region ?_ | refine wc_ift rfl ?_ | refine wc_iff rfl ?_)
              exact ⟨rfl, (), within_lk ⟨rfl, rfl, rfl, rfl, rfl, rfl, trivial⟩, wf_A, gr_A⟩
            | true =>
              by_cases hD : D = 0
              · rw [decide_eq_true hD]
                repeat' (first | with_reducible refine wo_nil ?_ | ((with_reducible refine wo_any ?_); first | ((with_reducible refine ik_move ?_); refine wo_op rfl (op_move rfl) rfl rfl ?_) | ((with_reducible refine ik_assign ?_); refine wo_op rfl (op_assign rfl) rfl rfl ?_) | ((with_reducible refine ik_indexAddr ?_); refine wo_op rfl (op_indexAddr rfl rfl l1) rfl rfl ?_) | ((with_reducible refine ik_load ?_); refine wo_op rfl (op_ldCell rfl Tryz.underlying3 rfl (l3 _ gr_A)) rfl rfl ?_) | ((with_reducible refine ik_bin ?_); refine wo_op rfl (op_eql rfl rfl) rfl rfl ?_) | ((with_reducible refine ik_un ?_); refine wo_op rfl (op_not rfl) rfl rfl ?_) | ((with_reducible refine ik_callv ?_); first | (refine wo_call rfl rfl rfl rfl (qw _ gr_A wf_A) rfl rfl ?_; rintro _ _ ⟨rfl, hq⟩; all_goals ((try (have hqn := hq.nx)); (try simp only [H.nx_push, H.nx_set, H.nx_bump] at hqn))) | (refine wo_call rfl rfl rfl rfl (qs _ gr_A wf_A) rfl rfl ?_; rintro _ _ ⟨rfl, hq⟩; all_goals ((try (have hqn := hq.nx)); (try simp only [H.nx_push, H.nx_set, H.nx_bump] at hqn))))) | with_reducible refine sq_norm ?_ | with_reducible refine wc_seq ?_ | with_reducible refine wc_region ?_ | refine wc_iff rfl ?_ | (refine wc_if rfl (fun hb => ?_) (fun hb => dead_A hb); (try simp only [decide_eq_true_eq, decide_eq_false_iff_not, Bool.not_eq_true', Bool.not_eq_false', Int.not_lt, Int.not_le, Decidable.not_not, not_true_eq_false, not_false_eq_true, beq_self_eq_true, reduceCtorEq] at hb)))
                exact ⟨rfl, (), within_lk ⟨rfl, rfl, rfl, rfl, rfl, rfl, trivial⟩, wf_A, gr_A⟩
              · rw [decide_eq_false hD]
                repeat' (first | with_reducible refine wo_nil ?_ | ((with_reducible refine wo_any ?_); first | ((with_reducible refine ik_move ?_); refine wo_op rfl (op_move rfl) rfl rfl ?_) | ((with_reducible refine ik_indexAddr ?_); refine wo_op rfl (op_indexAddr rfl rfl l1) rfl rfl ?_) | ((with_reducible refine ik_load ?_); refine wo_op rfl (op_ldCell rfl Tryz.underlying3 rfl (l3 _ gr_A)) rfl rfl ?_) | ((with_reducible refine ik_bin ?_); refine wo_op rfl (op_eql rfl rfl) rfl rfl ?_) | ((with_reducible refine ik_un ?_); refine wo_op rfl (op_not rfl) rfl rfl ?_) | ((with_reducible refine ik_callv ?_); first | (refine wo_call rfl rfl rfl rfl (qw _ gr_A wf_A) rfl rfl ?_; rintro _ _ ⟨rfl, hq⟩; all_goals ((try (have hqn := hq.nx)); (try simp only [H.nx_push, H.nx_set, H.nx_bump] at hqn))) | (refine wo_call rfl rfl rfl rfl (qs _ gr_A wf_A) rfl rfl ?_; rintro _ _ ⟨rfl, hq⟩; all_goals ((try (have hqn := hq.nx)); (try simp only [H.nx_push, H.nx_set, H.nx_bump] at hqn))))) | with_reducible refine sq_norm ?_ | with_reducible refine wc_seq ?_ | with_reducible refine wc_region ?_ | with_reducible refine wc_skip ?_ | refine wc_iff rfl ?_ | (refine wc_if rfl (fun hb => dead_A hb) (fun hb => ?_); (try simp only [decide_eq_true_eq, decide_eq_false_iff_not, Bool.not_eq_true', Bool.not_eq_false', Int.not_lt, Int.not_le, Decidable.not_not, not_true_eq_false, not_false_eq_true, beq_self_eq_true, reduceCtorEq] at hb)))
                exact ⟨rfl, (), within_lk ⟨rfl, rfl, rfl, rfl, rfl, rfl, trivial⟩, wf_A, gr_A⟩
        clear w1 n1 qiw qis hW s13
        rintro _ h2 ⟨w1, g2⟩
        have n2 := (g1.trans g2).nx
        have n3 := g2.nx
        have g3 := g1.trans g2
        have e1 : ((alL W T).take (k + 1)).flatMap En.cells = ((alL W T).take k).flatMap En.cells ++ [.int .i64 (k : Nat), .int .i64 ((k + 1 : Nat) : Int), .string (W k)] := by
          rw [take_next ⟨0, 0, .empty⟩ (by rw [alL_len]; exact hlt), alL_get hlt, List.flatMap_append]; simp
        generalize W k = x0 at e1 ⊢
        rcases hv with ⟨rfl, rfl⟩ | ⟨e, hge, rfl, hat⟩
        · repeat' (first | with_reducible refine wo_nil ?_ | ((with_reducible refine wo_any ?_); first | ((with_reducible refine ik_move ?_); refine wo_op rfl (op_move rfl) rfl rfl ?_) | ((with_reducible refine ik_assign ?_); refine wo_op rfl (op_assign rfl) rfl rfl ?_) | ((with_reducible refine ik_callb ?_); refine wo_op rfl (op_append rfl rfl (append_nil_eq (M := mz G) (st := 83) (xt := 83) (m := 1) Tryz.underlying83 Tryz.underlying83 rfl zs184 zb184 zz184 rfl (Sl.ofAt at_A rfl (Nat.le_refl _)) rfl (by omega) (by omega))) rfl rfl ?_) | ((with_reducible refine ik_buildSlice ?_); refine wo_op rfl (op_buildSl rfl Tryz.underlying83 zs184 zz184 rfl rfl) rfl rfl ?_) | ((with_reducible refine ik_bin ?_); refine wo_op rfl (op_add' rfl rfl (w64 (by omega) (by omega))) rfl rfl ?_) | ((with_reducible refine ik_build ?_); first | refine wo_op rfl (op_buildT rfl zz79 zp79 rfl rfl) rfl rfl ?_ | refine wo_op rfl (op_buildT rfl zz184 zp184 rfl rfl) rfl rfl ?_)) | with_reducible refine wc_region ?_ | with_reducible refine bq_norm ?_)
          exact ⟨rfl, .slice (some ⟨_, 0, some 0⟩) (0 + 1) (0 + 1), within_lk ⟨rfl, rfl, rfl, rfl, rfl, trivial⟩, ⟨wf_A, gr_A⟩, _, by simp only [H.nx_push, H.nx_set, H.nx_bump, H.nx_kill]; omega, rfl, by rw [e1]; exact at_A⟩
        · have hat := hat.grow g2
          have l1 := hat.lt
          have hlen : (((alL W T).take k).flatMap En.cells).length = k * 3 := by rw [En.flat, List.length_take, alL_len, Nat.min_eq_left (by omega)]
          repeat' (first | with_reducible refine wo_nil ?_ | ((with_reducible refine wo_any ?_); first | ((with_reducible refine ik_move ?_); refine wo_op rfl (op_move rfl) rfl rfl ?_) | ((with_reducible refine ik_assign ?_); refine wo_op rfl (op_assign rfl) rfl rfl ?_) | ((with_reducible refine ik_callb ?_); refine wo_op rfl (op_append rfl rfl (append_own_eq (M := mz G) (st := 83) (xt := 83) (m := 1) Tryz.underlying83 Tryz.underlying83 rfl zs184 zb184 zz184 rfl (Sl.ofAt at_A rfl (Nat.le_refl _)) rfl (b := e) (c := ((alL W T).take k).flatMap En.cells) at_A hlen (by omega) (by omega))) rfl rfl ?_) | ((with_reducible refine ik_buildSlice ?_); refine wo_op rfl (op_buildSl rfl Tryz.underlying83 zs184 zz184 rfl rfl) rfl rfl ?_) | ((with_reducible refine ik_bin ?_); refine wo_op rfl (op_add' rfl rfl (w64 (by omega) (by omega))) rfl rfl ?_) | ((with_reducible refine ik_build ?_); first | refine wo_op rfl (op_buildT rfl zz79 zp79 rfl rfl) rfl rfl ?_ | refine wo_op rfl (op_buildT rfl zz184 zp184 rfl rfl) rfl rfl ?_)) | with_reducible refine wc_region ?_ | with_reducible refine bq_norm ?_)
          exact ⟨rfl, .slice (some ⟨_, 0, some 0⟩) (k + 1) (k + 1), within_lk ⟨rfl, rfl, rfl, rfl, rfl, trivial⟩, ⟨wf_A, gr_A⟩, _, by simp only [H.nx_push, H.nx_set, H.nx_bump, H.nx_kill]; omega, rfl, by rw [e1]; exact at_A⟩
      · clear w1 hv g1 n1 gg
        rintro v h1 ⟨⟨w1, g1⟩, e, hge, rfl, hat⟩
        have n1 := g1.nx
        repeat' (first | with_reducible refine wo_nil ?_ | ((with_reducible refine wo_any ?_); first | ((with_reducible refine ik_move ?_); refine wo_op rfl (op_move rfl) rfl rfl ?_) | ((with_reducible refine ik_assign ?_); refine wo_op rfl (op_assign rfl) rfl rfl ?_) | ((with_reducible refine ik_bin ?_); refine wo_op rfl (op_add' rfl rfl (w64 (by omega) (by omega))) rfl rfl ?_)) | with_reducible refine wc_region ?_)
        exact lq_norm (k + 1, .slice (some ⟨e, 0, some 0⟩) (k + 1) (k + 1)) (by simp only; omega) (within_lk ⟨rfl, rfl, rfl, rfl, rfl, trivial⟩) ⟨⟨wf_A, gr_A⟩, by simp only; omega, .inr ⟨e, hge, rfl, hat⟩⟩
    · have hkn : k = T := by omega
      subst hkn
      have hfin : ∃ a c, v = .slice a k c ∧ Sl G h1 3 v k ((alL W k).flatMap En.cells) := by
        rcases hv with ⟨rfl, rfl⟩ | ⟨e, hge, rfl, hat⟩
        · exact ⟨none, 0, rfl, .nil⟩
        · rw [List.take_of_length_le (by rw [alL_len]; exact Nat.le_refl _)] at hat
          exact ⟨_, _, rfl, Sl.ofAt hat (by rw [En.flat, alL_len]) (Nat.le_refl _)⟩
      clear hv hW qis qiw s13 n0
      obtain ⟨va, vc, rfl, s14⟩ := hfin
      obtain ⟨K, hK⟩ : ∃ K, (diL W k).length = K := ⟨_, rfl⟩
      have hKT := diL_le (W := W) (k := k)
      rw [hK] at hKT
      have q44 := fun (h' : H) (g : Grow h1 h') (w' : Wf h') => (c44 (W := W) (s14.grow g) (by omega) w').mono (Q' := fun r' h2 => (∃ a c, r' = .slice a K c ∧ Sl G h2 3 (.slice a K c) K ((diL W k).flatMap En.cells)) ∧ Grow h' h2) (fun r' h2 ⟨e1, e2⟩ => by
        have s := e1.sl (G := G) (by rw [En.flat])
        rw [hK] at s
        obtain ⟨a, c, rfl⟩ := s.form
        exact ⟨⟨a, c, rfl, s⟩, e2⟩)
      have hdl : diaL 0 (diL W k) = if 64 < K then [] else diL W k := by unfold diaL; rw [if_neg (by decide), hK]
      have hde : diaE 0 (diL W k) = if 64 < K then 5 else 0 := by unfold diaE; rw [if_neg (by decide), hK]
      rw [hdl, hde]
      clear hdl hde
      obtain ⟨D, hDD⟩ : ∃ D, diL W k = D := ⟨_, rfl⟩
      rw [hDD] at q44 hK ⊢
      clear hDD
      by_cases h6 : 64 < K
      · rw [if_pos h6, if_pos h6]
        repeat' (first | with_reducible refine wo_nil ?_ | ((with_reducible refine wo_any ?_); first | ((with_reducible refine ik_move ?_); refine wo_op rfl (op_move rfl) rfl rfl ?_) | ((with_reducible refine ik_assign ?_); refine wo_op rfl (op_assign rfl) rfl rfl ?_) | ((with_reducible refine ik_bin ?_); first | refine wo_op rfl (op_lss rfl rfl) rfl rfl ?_ | refine wo_op rfl (op_gtr rfl rfl) rfl rfl ?_) | ((with_reducible refine ik_callb ?_); first | refine wo_op rfl (op_lenSl rfl Tryz.underlying49) rfl rfl ?_ | refine wo_op rfl (op_lenSl rfl Tryz.underlying83) rfl rfl ?_) | ((with_reducible refine ik_callv ?_); (refine wo_call rfl rfl rfl rfl (q44 _ gr_A wf_A) rfl rfl ?_; rintro _ _ ⟨⟨ra, rc, rfl, sr⟩, hq⟩; all_goals ((try (have hqn := hq.nx)); (try simp only [H.nx_push, H.nx_set, H.nx_bump] at hqn))))) | with_reducible refine sq_norm ?_ | with_reducible refine wc_seq ?_ | with_reducible refine wc_region ?_ | with_reducible refine wc_ret ?_ | with_reducible refine wc_exit ?_ | with_reducible refine sq_ret ?_ | with_reducible refine sq_exit ?_ | with_reducible refine lq_exit ?_ | refine bq_eq rfl ?_ | (refine wc_if rfl (fun hb => dead_A hb) (fun hb => ?_); (try simp only [decide_eq_true_eq, decide_eq_false_iff_not, Bool.not_eq_true', Bool.not_eq_false', Int.not_lt, Int.not_le, Decidable.not_not, not_true_eq_false, not_false_eq_true, beq_self_eq_true, reduceCtorEq] at hb)) | (refine wc_if rfl (fun hb => ?_) (fun hb => dead_A hb); (try simp only [decide_eq_true_eq, decide_eq_false_iff_not, Bool.not_eq_true', Bool.not_eq_false', Int.not_lt, Int.not_le, Decidable.not_not, not_true_eq_false, not_false_eq_true, beq_self_eq_true, reduceCtorEq] at hb)))
        exact rq2 rfl rfl ⟨⟨none, 0, rfl, .nil⟩, gr_A⟩
      · rw [if_neg h6, if_neg h6]
        repeat' (first | with_reducible refine wo_nil ?_ | ((with_reducible refine wo_any ?_); first | ((with_reducible refine ik_move ?_); refine wo_op rfl (op_move rfl) rfl rfl ?_) | ((with_reducible refine ik_assign ?_); refine wo_op rfl (op_assign rfl) rfl rfl ?_) | ((with_reducible refine ik_bin ?_); first | refine wo_op rfl (op_lss rfl rfl) rfl rfl ?_ | refine wo_op rfl (op_gtr rfl rfl) rfl rfl ?_) | ((with_reducible refine ik_callb ?_); first | refine wo_op rfl (op_lenSl rfl Tryz.underlying49) rfl rfl ?_ | refine wo_op rfl (op_lenSl rfl Tryz.underlying83) rfl rfl ?_) | ((with_reducible refine ik_callv ?_); (refine wo_call rfl rfl rfl rfl (q44 _ gr_A wf_A) rfl rfl ?_; rintro _ _ ⟨⟨ra, rc, rfl, sr⟩, hq⟩; all_goals ((try (have hqn := hq.nx)); (try simp only [H.nx_push, H.nx_set, H.nx_bump] at hqn))))) | with_reducible refine sq_norm ?_ | with_reducible refine wc_seq ?_ | with_reducible refine wc_region ?_ | with_reducible refine wc_skip ?_ | with_reducible refine wc_ret ?_ | with_reducible refine wc_exit ?_ | with_reducible refine sq_exit ?_ | with_reducible refine lq_exit ?_ | refine bq_eq rfl ?_ | (refine wc_if rfl (fun hb => dead_A hb) (fun hb => ?_); (try simp only [decide_eq_true_eq, decide_eq_false_iff_not, Bool.not_eq_true', Bool.not_eq_false', Int.not_lt, Int.not_le, Decidable.not_not, not_true_eq_false, not_false_eq_true, beq_self_eq_true, reduceCtorEq] at hb)))
        subst hK
        exact rq2 rfl rfl ⟨⟨_, _, rfl, sr.grow gr_A⟩, gr_A⟩
  · have hD : (diaL (firstNZ [allE x y u v t r sp lo cl so l, spsE L, spsE M]) (diL (cawB cl so (insB x y u v r sp lo l) L M) t.toNat)) = [] := by unfold diaL; rw [if_pos hE]
    have hE2 : (diaE (firstNZ [allE x y u v t r sp lo cl so l, spsE L, spsE M]) (diL (cawB cl so (insB x y u v r sp lo l) L M) t.toNat)) = (firstNZ [allE x y u v t r sp lo cl so l, spsE L, spsE M]) := by unfold diaE; rw [if_pos hE]
    rw [hD, hE2]
    obtain ⟨E, hE'⟩ : ∃ E, (firstNZ [allE x y u v t r sp lo cl so l, spsE L, spsE M]) = E := ⟨_, rfl⟩
    rw [hE'] at qf3 hE ⊢
    generalize allE x y u v t r sp lo cl so l = E1 at q21 qf3
    generalize spsE L = E2 at qa qf3
    generalize spsE M = E3 at qb qf3
    clear hE' hD hE2
    obtain ⟨a, c, rfl⟩ := s.form
    obtain ⟨pa, pc, rfl⟩ := p.form
    obtain ⟨wa, wc, rfl⟩ := pw.form
    refine cf_enter0 68 [.tmp 10, .tmp 11] Tryz.func71 rfl rfl rfl rfl ?_
    repeat' (first | with_reducible refine wo_nil ?_ | ((with_reducible refine wo_any ?_); first | ((with_reducible refine ik_move ?_); refine wo_op rfl (op_move rfl) rfl rfl ?_) | ((with_reducible refine ik_assign ?_); refine wo_op rfl (op_assign rfl) rfl rfl ?_) | ((with_reducible refine ik_box ?_); refine wo_op rfl (op_boxAgg rfl zs37 rfl) rfl rfl ?_) | ((with_reducible refine ik_load ?_); first | refine wo_op rfl (op_ldAgg rfl at_A Tryz.underlying37 rfl zs37 rfl rfl) rfl rfl ?_ | refine wo_op rfl (op_ldAgg rfl at_A Tryz.underlying39 rfl zs39 rfl rfl) rfl rfl ?_) | ((with_reducible refine ik_buildSlice ?_); refine wo_op rfl (op_buildSl rfl Tryz.underlying49 zs3 zz3 rfl rfl) rfl rfl ?_) | ((with_reducible refine ik_bin ?_); refine wo_op rfl (op_neq rfl rfl) rfl rfl ?_) | ((with_reducible refine ik_callv ?_); first | refine wo_op rfl (op_call rfl rfl (qf3 _ _ (Sl.ofAt (show At _ _ (.cells [.int .i64 E1, .int .i64 E2, .int .i64 E3] 3 1 false) from at_A) rfl (Nat.le_refl _)))) rfl rfl ?_ | (refine wo_call rfl rfl rfl rfl (q21 _ gr_A wf_A) rfl rfl ?_; rintro _ _ ⟨rfl, hq⟩; all_goals ((try (have hqn := hq.nx)); (try simp only [H.nx_push, H.nx_set, H.nx_bump] at hqn))) | (refine wo_call rfl rfl rfl rfl (qa _ gr_A wf_A) rfl rfl ?_; rintro _ _ ⟨rfl, hq⟩; all_goals ((try (have hqn := hq.nx)); (try simp only [H.nx_push, H.nx_set, H.nx_bump] at hqn))) | (refine wo_call rfl rfl rfl rfl (qb _ gr_A wf_A) rfl rfl ?_; rintro _ _ ⟨rfl, hq⟩; all_goals ((try (have hqn := hq.nx)); (try simp only [H.nx_push, H.nx_set, H.nx_bump] at hqn))))) | with_reducible refine sq_norm ?_ | with_reducible refine wc_seq ?_ | with_reducible refine wc_region ?_ | with_reducible refine wc_ret ?_ | with_reducible refine sq_ret ?_ | (refine wc_if rfl (fun hb => ?_) (fun hb => dead_A hb); (try simp only [decide_eq_true_eq, decide_eq_false_iff_not, Bool.not_eq_true', Bool.not_eq_false', Int.not_lt, Int.not_le, Decidable.not_not, not_true_eq_false, not_false_eq_true, beq_self_eq_true, reduceCtorEq] at hb)))
    exact rq2 rfl rfl ⟨⟨none, 0, rfl, .nil⟩, gr_A⟩
end Go.Proofs.YtlioomhcdlicmaaGreatDoor
