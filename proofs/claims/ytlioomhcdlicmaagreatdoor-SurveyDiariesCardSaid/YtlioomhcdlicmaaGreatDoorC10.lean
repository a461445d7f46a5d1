/- Survey: runs of words; the diary by the program. -/
import Derived.Test.YtlioomhcdlicmaaGreatDoorC9
set_option linter.all false
/- Survey: runs of words; the cause of a tick. -/
namespace Go.Proofs.YtlioomhcdlicmaaGreatDoor
open Go Go.Ab Go.Fl
attribute [local irreducible] SeqQ BlkQ LpQ RetQ Wc Wo WD WX Op1 Op1q Op1a Cf Cl From
attribute [local irreducible] Ieee.Format.order Ieee.Format.read Ieee.Format.nearest Ieee.Format.write Ieee.Format.mul Ieee.Format.div Ieee.Format.sqrt Ieee.Datum.order Ieee.Datum.integral K U rngE errN ptE firstNZ vesE watE sgE sgsE allE hitB sqD insB qsL lvl
set_option maxRecDepth 10000
variable {G : Base} {h : H}

attribute [local irreducible] fl silN insN levN inL leL
theorem op_snes {M : Mc} {l : KL} {h : H} {t ty : TypeId} {x y : Operand} {a : ByteArray} (hx : val l x = some (.string a)) (hy : val l y = some (.string a)) : Op1 M (.binOp .neq t x y ty) l h (.bool false) h := by
  have := op_sne (M := M) (h := h) (t := t) (ty := ty) hx hy
  simpa using this
theorem op_sneT {M : Mc} {l : KL} {h : H} {x y : Operand} {t ty : TypeId} {a b : ByteArray} (hx : val l x = some (.string a)) (hy : val l y = some (.string b)) (hab : ¬a = b) : Op1 M (.binOp .neq t x y ty) l h (.bool true) h := by
  have := op_sne (M := M) (h := h) (t := t) (ty := ty) hx hy
  rwa [decide_eq_true hab] at this
/-- Turns where the words do. -/
def altB (W : Nat → ByteArray) : Nat → Bool
  | 0 => false
  | k + 1 => if W (k + 1) = W k then altB W k else !altB W k
theorem altB_iff {W : Nat → ByteArray} {k : Nat} (hk : 0 < k) : altB W k = altB W (k - 1) ↔ W k = W (k - 1) := by
  obtain ⟨m, rfl⟩ : ∃ m, k = m + 1 := ⟨k - 1, by omega⟩
  rw [Nat.add_sub_cancel, altB]
  by_cases q : W (m + 1) = W m
  · simp [q]
  · simp only [q, if_false, iff_false]
    cases altB W m <;> simp
theorem wL_get {W : Nat → ByteArray} {T k : Nat} (hk : k < T) : ((List.range T).map W).getD k .empty = W k := by
  simp [List.getD, List.getElem?_map, List.getElem?_range hk]
set_option maxHeartbeats 8000000 in
theorem c138 {v : Value} {T : Nat} {W : Nat → ByteArray} (s : Sl G h 1 v T (((List.range T).map W).map Value.string)) (hT : T < 1000000) (hw : Wf h) : Cf (mz G) (.func (.func 138) #[] #[]) [v] h fun r h' => OutG h.nx h' r (rl (altB W) T).length ((rl (altB W) T).flatMap Spn.cells) 79 2 ∧ Grow h h' := by
  obtain ⟨B, hB⟩ : ∃ B, altB W = B := ⟨_, rfl⟩
  rw [hB]
  have hBn : ∀ k, 0 < k → (B k = B (k - 1) ↔ W k = W (k - 1)) := fun k hk => by rw [← hB]; exact altB_iff hk
  clear hB
  obtain ⟨a, c, rfl⟩ := s.form
  refine cf_enter0 39 [.tmp 2] Tryz.func138 rfl rfl rfl rfl ?_
  repeat' (first | with_reducible refine wo_nil ?_ | ((with_reducible refine wo_any ?_); first | ((with_reducible refine ik_move ?_); refine wo_op rfl (op_move rfl) rfl rfl ?_) | ((with_reducible refine ik_assign ?_); refine wo_op rfl (op_assign rfl) rfl rfl ?_) | ((with_reducible refine ik_callb ?_); refine wo_op rfl (op_lenSl rfl Tryz.underlying25) rfl rfl ?_)) | with_reducible refine sq_norm ?_ | with_reducible refine wc_seq ?_ | with_reducible refine wc_region ?_ | with_reducible refine wc_block ?_)
  refine wc_loop (fun p : Nat × Value => T - p.1) (fun p => [(0, .slice a T c), (3, p.2), (6, .slice a T c), (7, .int .i64 (T : Nat)), (8, .int .i64 (p.1 : Nat))]) (fun p h' => (Wf h' ∧ Grow h h') ∧ p.1 ≤ T ∧ ((p.1 = 0 ∧ p.2 = .slice none 0 0) ∨ 0 < p.1 ∧ ∃ e, h.nx ≤ e ∧ p.2 = .slice (some ⟨e, 0, some 0⟩) (rl B p.1).length (rl B p.1).length ∧ At h' e (.cells ((rl B p.1).flatMap Spn.cells) 79 2 true))) (0, .slice none 0 0) (within_lk ⟨rfl, rfl, rfl, rfl, rfl, trivial⟩) ⟨⟨wf_A, gr_A⟩, Nat.zero_le _, .inl ⟨rfl, rfl⟩⟩ ?_
  rintro ⟨k, v⟩ h1 ⟨⟨w1, g1⟩, hk, hv⟩
  simp only at hk hv ⊢
  have n1 := g1.nx
  by_cases hlt : k < T
  · obtain ⟨id, i1, i3⟩ := in_atV Value.string .empty (s.grow g1) Tryz.underlying25 zs9 (i := (k : Int)) hlt rfl
    rw [wL_get hlt] at i3
    by_cases hk0 : k = 0
    · subst hk0
      obtain ⟨_, rfl⟩ | ⟨q, _⟩ := hv
      · have e1 := rl_new (b := B) (k := 0) (.inl rfl)
        have e2 : rl B 0 = [] := rfl
        rw [e2, List.nil_append] at e1
        have hs0 : ([Value.int .i64 ((0 : Nat) : Int), Value.int .i64 0] : List Value).set 1 (.int .i64 (((0 : Nat) : Int) + 1)) = [Value.int .i64 ((0 : Nat) : Int), Value.int .i64 (((0 : Nat) : Int) + 1)] := rfl
        obtain ⟨x0, hx⟩ : ∃ x, W 0 = x := ⟨_, rfl⟩
        rw [hx] at i3
        clear hx
        repeat' (first | with_reducible refine wo_nil ?_ | ((with_reducible refine wo_any ?_); first | ((with_reducible refine ik_move ?_); refine wo_op rfl (op_move rfl) rfl rfl ?_) | ((with_reducible refine ik_assign ?_); refine wo_op rfl (op_assign rfl) rfl rfl ?_) | ((with_reducible refine ik_indexAddr ?_); first | refine wo_op rfl (op_indexAddr rfl rfl i1) rfl rfl ?_ | refine wo_op rfl (op_idxSl (o := 0) rfl rfl Tryz.underlying52 zs79 (by omega) (by omega) (by omega)) rfl rfl ?_) | ((with_reducible refine ik_load ?_); refine wo_op rfl (op_ldCell rfl Tryz.underlying9 rfl (i3 _ gr_A)) rfl rfl ?_) | ((with_reducible refine ik_callb ?_); first | refine wo_op rfl (op_append rfl rfl (append_nil_eq (M := mz G) (st := 52) (xt := 52) (m := 1) Tryz.underlying52 Tryz.underlying52 rfl zs79 zb79 zz79 rfl (Sl.ofAt at_A rfl (Nat.le_refl _)) rfl (by omega) (by omega))) rfl rfl ?_ | refine wo_op rfl (op_lenSl rfl Tryz.underlying52) rfl rfl ?_) | ((with_reducible refine ik_store ?_); refine wo_op0 rfl (op_st1 rfl rfl at_A rfl zs3 rfl rfl rfl) rfl ?_) | ((with_reducible refine ik_bin ?_); first | refine wo_op rfl (op_lss rfl rfl) rfl rfl ?_ | refine wo_op rfl (op_eql rfl rfl) rfl rfl ?_ | refine wo_op rfl (op_sub' rfl rfl (w64 (by omega) (by omega))) rfl rfl ?_ | refine wo_op rfl (op_add' rfl rfl (w64 (by omega) (by omega))) rfl rfl ?_) | ((with_reducible refine ik_pick ?_); refine wo_op rfl (op_pickt rfl rfl) rfl rfl ?_) | ((with_reducible refine ik_build ?_); refine wo_op rfl (op_buildT rfl zz79 zp79 rfl rfl) rfl rfl ?_) | ((with_reducible refine ik_buildSlice ?_); refine wo_op rfl (op_buildSl rfl Tryz.underlying52 zs79 zz79 rfl rfl) rfl rfl ?_) | ((with_reducible refine ik_fieldAddr ?_); refine wo_op rfl (op_fieldAddr (o := 1) rfl Tryz.underlying79 rfl zs3 rfl) rfl rfl ?_) | ((with_reducible refine ik_g ?_); refine wo_gskip rfl rfl rfl rfl rfl rfl ?_)) | with_reducible refine sq_norm ?_ | with_reducible refine wc_seq ?_ | with_reducible refine wc_region ?_ | with_reducible refine wc_skip ?_ | with_reducible refine wc_block ?_ | with_reducible refine bq_norm ?_ | refine wc_ift rfl ?_ | (refine wc_if rfl (fun hb => ?_) (fun hb => dead_A hb); (try simp only [decide_eq_true_eq, decide_eq_false_iff_not, Bool.not_eq_true', Bool.not_eq_false', Int.not_lt, Int.not_le, Decidable.not_not, not_true_eq_false, not_false_eq_true, beq_self_eq_true, reduceCtorEq] at hb)))
        refine lq_norm (0 + 1, .slice (some ⟨_, 0, some 0⟩) (0 + 1) (0 + 1)) (by simp only; omega) (within_lk ⟨rfl, rfl, rfl, rfl, rfl, trivial⟩) ⟨⟨wf_A, gr_A⟩, by simp only; omega, .inr ⟨by simp only; omega, _, ?_, by simp only; rw [e1]; rfl, by simp only; rw [e1]; exact (show At _ _ (.cells [Value.int .i64 ((0 : Nat) : Int), Value.int .i64 (((0 : Nat) : Int) + 1)] 79 2 true) from at_A)⟩⟩
        simp only [H.nx_push, H.nx_set, H.nx_bump, H.nx_kill]; omega
      · omega
    · obtain ⟨jd, j1, j3⟩ := in_atV Value.string .empty (s.grow g1) Tryz.underlying25 zs9 (i := (k : Int) - 1) (q := k - 1) (by omega) (by omega)
      rw [wL_get (by omega)] at j3
      obtain ⟨D, f, e1, e2, e3, e4, _⟩ := rl_old (b := B) (k := k) (by omega)
      have hne : (rl B k).length ≠ 0 := by rw [e1]; simp
      obtain ⟨e, he, hve, hat⟩ : ∃ e, h.nx ≤ e ∧ v = .slice (some ⟨e, 0, some 0⟩) (rl B k).length (rl B k).length ∧ At h1 e (.cells ((rl B k).flatMap Spn.cells) 79 2 true) := by
        rcases hv with ⟨q, _⟩ | ⟨_, q⟩
        · exact absurd q hk0
        · exact q
      subst hve
      have l1 := hat.lt
      have hl1 : ∀ (D : List Spn) (a z : Int), D.length * 2 + 1 < (D.flatMap Spn.cells ++ [Value.int .i64 a, Value.int .i64 z]).length := fun D a z => by
        rw [List.length_append, Spn.flat]; simp only [List.length_cons, List.length_nil]; omega
      clear hv
      obtain ⟨x0, hx⟩ : ∃ x, W k = x := ⟨_, rfl⟩
      obtain ⟨y0, hy⟩ : ∃ x, W (k - 1) = x := ⟨_, rfl⟩
      rw [hx] at i3
      rw [hy] at j3
      by_cases hxy : x0 = y0
      · subst hxy
        have e5 := e2 ((hBn k (by omega)).2 (by rw [hx, hy]))
        have e6 : (D ++ [⟨(f : Nat), (k : Nat)⟩] : List Spn).length = D.length + 1 := by simp
        have hDl : D.length + 1 ≤ k := by have := rl_len (b := B) k; rw [e1] at this; simpa using this
        rw [e1, flat_last] at hat
        rw [e1, e6]
        clear e1 e2 e3 hx hy hne
        have e7 : (rl B (k + 1)).length = D.length + 1 := by rw [e5]; simp
        have e8 : (rl B (k + 1)).flatMap Spn.cells = D.flatMap Spn.cells ++ [Value.int .i64 (f : Nat), Value.int .i64 ((k : Int) + 1)] := by rw [e5, flat_last]; rfl
        clear e5
        (
         repeat' (first | with_reducible refine wo_nil ?_ | ((with_reducible refine wo_any ?_); first | ((with_reducible refine ik_move ?_); refine wo_op rfl (op_move rfl) rfl rfl ?_) | ((with_reducible refine ik_assign ?_); refine wo_op rfl (op_assign rfl) rfl rfl ?_) | ((with_reducible refine ik_indexAddr ?_); first | refine wo_op rfl (op_indexAddr rfl rfl i1) rfl rfl ?_ | refine wo_op rfl (op_idxSl (o := D.length * 2) rfl rfl Tryz.underlying52 zs79 (by omega) (by omega) (by omega)) rfl rfl ?_) | ((with_reducible refine ik_load ?_); refine wo_op rfl (op_ldCell rfl Tryz.underlying9 rfl (i3 _ gr_A)) rfl rfl ?_) | ((with_reducible refine ik_bin ?_); first | refine wo_op rfl (op_lss rfl rfl) rfl rfl ?_ | refine wo_op rfl (op_eql rfl rfl) rfl rfl ?_ | refine wo_op rfl (op_sub' rfl rfl (w64 (by omega) (by omega))) rfl rfl ?_ | refine wo_op rfl (op_add' rfl rfl (w64 (by omega) (by omega))) rfl rfl ?_) | ((with_reducible refine ik_store ?_); refine wo_op0 rfl (op_stIdx (o := D.length * 2 + 1) rfl rfl at_A rfl zs3 (hl1 _ _ _) rfl set_last) rfl ?_) | ((with_reducible refine ik_callb ?_); refine wo_op rfl (op_lenSl rfl Tryz.underlying52) rfl rfl ?_) | ((with_reducible refine ik_pick ?_); refine wo_op rfl (op_pickf rfl rfl) rfl rfl ?_) | ((with_reducible refine ik_fieldAddr ?_); refine wo_op rfl (op_fieldAddr (o := 1) rfl Tryz.underlying79 rfl zs3 rfl) rfl rfl ?_) | ((with_reducible refine ik_g ?_); first | ((with_reducible refine ig_move ?_); refine wo_grun rfl rfl rfl (op_move rfl) rfl rfl ?_) | ((with_reducible refine ig_indexAddr ?_); refine wo_grun rfl rfl rfl (op_indexAddr rfl rfl j1) rfl rfl ?_) | ((with_reducible refine ig_load ?_); refine wo_grun rfl rfl rfl (op_ldCell rfl Tryz.underlying9 rfl (j3 _ gr_A)) rfl rfl ?_) | ((with_reducible refine ig_bin ?_); first | refine wo_grun rfl rfl rfl (op_snes rfl rfl) rfl rfl ?_ | refine wo_grun rfl rfl rfl (op_sub' rfl rfl (w64 (by omega) (by omega))) rfl rfl ?_) | (refine wo_gsplit rfl rfl rfl (fun hb => dead_A hb) (fun hb => ?_); (try simp only [decide_eq_true_eq, decide_eq_false_iff_not, Bool.not_eq_true', Bool.not_eq_false', Int.not_lt, Int.not_le, Decidable.not_not, not_true_eq_false, not_false_eq_true, beq_self_eq_true, reduceCtorEq] at hb)))) | with_reducible refine sq_norm ?_ | with_reducible refine wc_seq ?_ | with_reducible refine wc_region ?_ | with_reducible refine wc_skip ?_ | with_reducible refine wc_block ?_ | with_reducible refine bq_norm ?_ | refine wc_iff rfl ?_ | (refine wc_if rfl (fun hb => ?_) (fun hb => dead_A hb); (try simp only [decide_eq_true_eq, decide_eq_false_iff_not, Bool.not_eq_true', Bool.not_eq_false', Int.not_lt, Int.not_le, Decidable.not_not, not_true_eq_false, not_false_eq_true, beq_self_eq_true, reduceCtorEq] at hb)))
         exact lq_norm (k + 1, .slice (some ⟨_, 0, some 0⟩) (D.length + 1) (D.length + 1)) (by simp only; omega) (within_lk ⟨rfl, rfl, rfl, rfl, rfl, trivial⟩) ⟨⟨wf_A, gr_A⟩, by simp only; omega, .inr ⟨by simp only; omega, e, he, by simp only; rw [e7], by simp only; rw [e8]; exact at_A⟩⟩)
      · have e5 := rl_new (b := B) (k := k) (.inr (fun z => hxy (by rw [← hx, ← hy]; exact (hBn k (by omega)).1 z)))
        have hlen : ((rl B k).flatMap Spn.cells).length = (rl B k).length * 2 := Spn.flat
        have hm1 : 1 ≤ (rl B k).length := by omega
        have hm2 : (rl B k).length ≤ k := rl_len k
        have hs1 : (rl B (k + 1)).length = (rl B k).length + 1 := by rw [e5]; simp
        have hs2 : (rl B (k + 1)).flatMap Spn.cells = (rl B k).flatMap Spn.cells ++ [Value.int .i64 (k : Nat), Value.int .i64 ((k + 1 : Nat) : Int)] := by rw [e5, flat_last]
        clear e1 e2 e3 e5 hx hy hne
        obtain ⟨L, hL⟩ : ∃ L, rl B k = L := ⟨_, rfl⟩
        rw [hL] at hat hlen hm1 hm2 hs1 hs2 ⊢
        clear hL
        first
          | (repeat' (first | with_reducible refine wo_nil ?_ | ((with_reducible refine wo_any ?_); first | ((with_reducible refine ik_move ?_); refine wo_op rfl (op_move rfl) rfl rfl ?_) | ((with_reducible refine ik_assign ?_); refine wo_op rfl (op_assign rfl) rfl rfl ?_) | ((with_reducible refine ik_indexAddr ?_); first | refine wo_op rfl (op_indexAddr rfl rfl i1) rfl rfl ?_ | refine wo_op rfl (op_idxSl (o := L.length * 2) rfl rfl Tryz.underlying52 zs79 (by omega) (by omega) (by omega)) rfl rfl ?_) | ((with_reducible refine ik_load ?_); refine wo_op rfl (op_ldCell rfl Tryz.underlying9 rfl (i3 _ gr_A)) rfl rfl ?_) | ((with_reducible refine ik_bin ?_); first | refine wo_op rfl (op_lss rfl rfl) rfl rfl ?_ | refine wo_op rfl (op_eql rfl rfl) rfl rfl ?_ | refine wo_op rfl (op_sub' rfl rfl (w64 (by omega) (by omega))) rfl rfl ?_ | refine wo_op rfl (op_add' rfl rfl (w64 (by omega) (by omega))) rfl rfl ?_) | ((with_reducible refine ik_callb ?_); first | refine wo_op rfl (op_append rfl rfl (append_own_eq (M := mz G) (st := 52) (xt := 52) (m := 1) Tryz.underlying52 Tryz.underlying52 rfl zs79 zb79 zz79 rfl (Sl.ofAt at_A rfl (Nat.le_refl _)) rfl (b := e) (c := L.flatMap Spn.cells) at_A hlen (by omega) (by omega))) rfl rfl ?_ | refine wo_op rfl (op_lenSl rfl Tryz.underlying52) rfl rfl ?_) | ((with_reducible refine ik_store ?_); refine wo_op0 rfl (op_stIdx (o := L.length * 2 + 1) rfl rfl at_A rfl zs3 (hl1 _ _ _) rfl set_last) rfl ?_) | ((with_reducible refine ik_pick ?_); refine wo_op rfl (op_pickf rfl rfl) rfl rfl ?_) | ((with_reducible refine ik_build ?_); refine wo_op rfl (op_buildT rfl zz79 zp79 rfl rfl) rfl rfl ?_) | ((with_reducible refine ik_buildSlice ?_); refine wo_op rfl (op_buildSl rfl Tryz.underlying52 zs79 zz79 rfl rfl) rfl rfl ?_) | ((with_reducible refine ik_fieldAddr ?_); refine wo_op rfl (op_fieldAddr (o := 1) rfl Tryz.underlying79 rfl zs3 rfl) rfl rfl ?_) | ((with_reducible refine ik_g ?_); first | ((with_reducible refine ig_move ?_); refine wo_grun rfl rfl rfl (op_move rfl) rfl rfl ?_) | ((with_reducible refine ig_indexAddr ?_); refine wo_grun rfl rfl rfl (op_indexAddr rfl rfl j1) rfl rfl ?_) | ((with_reducible refine ig_load ?_); refine wo_grun rfl rfl rfl (op_ldCell rfl Tryz.underlying9 rfl (j3 _ gr_A)) rfl rfl ?_) | ((with_reducible refine ig_bin ?_); first | refine wo_grun rfl rfl rfl (op_sneT rfl rfl hxy) rfl rfl ?_ | refine wo_grun rfl rfl rfl (op_sub' rfl rfl (w64 (by omega) (by omega))) rfl rfl ?_) | (refine wo_gsplit rfl rfl rfl (fun hb => dead_A hb) (fun hb => ?_); (try simp only [decide_eq_true_eq, decide_eq_false_iff_not, Bool.not_eq_true', Bool.not_eq_false', Int.not_lt, Int.not_le, Decidable.not_not, not_true_eq_false, not_false_eq_true, beq_self_eq_true, reduceCtorEq] at hb)))) | with_reducible refine sq_norm ?_ | with_reducible refine wc_seq ?_ | with_reducible refine wc_region ?_ | with_reducible refine wc_skip ?_ | with_reducible refine wc_block ?_ | with_reducible refine bq_norm ?_ | refine wc_ift rfl ?_ | (refine wc_if rfl (fun hb => ?_) (fun hb => dead_A hb); (try simp only [decide_eq_true_eq, decide_eq_false_iff_not, Bool.not_eq_true', Bool.not_eq_false', Int.not_lt, Int.not_le, Decidable.not_not, not_true_eq_false, not_false_eq_true, beq_self_eq_true, reduceCtorEq] at hb)))
             refine lq_norm (k + 1, .slice (some ⟨_, 0, some 0⟩) (L.length + 1) (L.length + 1)) (by simp only; omega) (within_lk ⟨rfl, rfl, rfl, rfl, rfl, trivial⟩) ⟨⟨wf_A, gr_A⟩, by simp only; omega, .inr ⟨by simp only; omega, _, ?_, by simp only; rw [hs1], by simp only; rw [hs2]; exact (show At _ _ (.cells (L.flatMap Spn.cells ++ [Value.int .i64 (k : Nat), Value.int .i64 ((k : Int) + 1)]) 79 2 true) from at_A)⟩⟩
             simp only [H.nx_push, H.nx_set, H.nx_bump, H.nx_kill]; omega)
  · have hkn : k = T := by omega
    subst hkn
    repeat' (first | with_reducible refine wo_nil ?_ | ((with_reducible refine wo_any ?_); first | ((with_reducible refine ik_move ?_); refine wo_op rfl (op_move rfl) rfl rfl ?_) | ((with_reducible refine ik_assign ?_); refine wo_op rfl (op_assign rfl) rfl rfl ?_) | ((with_reducible refine ik_bin ?_); refine wo_op rfl (op_lss rfl rfl) rfl rfl ?_)) | with_reducible refine sq_norm ?_ | with_reducible refine wc_seq ?_ | with_reducible refine wc_region ?_ | with_reducible refine wc_ret ?_ | with_reducible refine wc_exit ?_ | with_reducible refine sq_exit ?_ | with_reducible refine lq_exit ?_ | refine bq_eq rfl ?_ | (refine wc_if rfl (fun hb => ?_) (fun hb => ?_) <;> (try simp only [decide_eq_true_eq, decide_eq_false_iff_not, Bool.not_eq_true', Bool.not_eq_false', Int.not_lt, Int.not_le, Decidable.not_not, not_true_eq_false, not_false_eq_true, beq_self_eq_true, reduceCtorEq] at hb) <;> (try (exfalso; omega))))
    refine rq1 rfl ⟨?_, gr_A⟩
    rcases hv with ⟨rfl, rfl⟩ | ⟨_, q⟩
    · exact .inl ⟨rfl, rfl, rfl⟩
    · exact .inr q

def wWe : ByteArray := ⟨⟨[119, 101, 97, 116, 104, 101, 114]⟩⟩
def wSh : ByteArray := ⟨⟨[115, 104, 97, 114, 101]⟩⟩
def wAn : ByteArray := ⟨⟨[97, 110, 105, 109, 97, 108]⟩⟩
def wSo : ByteArray := ⟨⟨[115, 104, 111, 111, 116]⟩⟩

/-- The cause of a tick. -/
def cauS (wk sk si : Bool) : ByteArray := if wk then wWe else if sk then (if si then wAn else wSo) else wSh
theorem c136 {r sp lo cl so q : Int} {k : Nat} {vs vw : Value} {m n : Nat} {L M : List Spn} (p : Sl G h 2 vs m (L.flatMap Spn.cells)) (hL : L.length = m) (hm : m < 1000000) (pw : Sl G h 2 vw n (M.flatMap Spn.cells)) (hM : M.length = n) (hn : n < 1000000) (hq : 0 ≤ q ∧ q ≤ 1000000) (hc : 0 ≤ cl ∧ cl ≤ 1000) (hs : 0 ≤ so ∧ so ≤ 1000) (hw : Wf h) : Cf (mz G) (.func (.func 136) #[] #[]) [.agg ⟨stC r sp lo cl so q⟩, .int .i64 (k : Nat), vs, vw] h fun r h' => r = .string (cauS (M.any (inP (k : Nat))) (L.any (inP (k : Nat))) (decide (lvl cl so q = 0))) ∧ Grow h h' := by
  have q1 := fun (h' : H) (g : Grow h h') (w' : Wf h') => c141 (k := (k : Int)) (p.grow g) hL hm w'
  have q2 := fun (h' : H) (g : Grow h h') (w' : Wf h') => c141 (k := (k : Int)) (pw.grow g) hM hn w'
  have q3 := fun (h' : H) (w' : Wf h') => c87 (G := G) (h := h') (r := r) (sp := sp) (lo := lo) hq hc hs w'
  generalize L.any (inP (k : Nat)) = A at q1 ⊢
  generalize M.any (inP (k : Nat)) = B at q2 ⊢
  generalize decide (lvl cl so q = 0) = D at q3 ⊢
  dsimp only [stC] at q3 ⊢
  obtain ⟨a, c, rfl⟩ := p.form
  obtain ⟨b, d, rfl⟩ := pw.form
  cases B with
  | true =>
    refine cf_enter0 21 [.tmp 8] Tryz.func136 rfl rfl rfl rfl ?_
    repeat' (first | with_reducible refine wo_nil ?_ | ((with_reducible refine wo_any ?_); first | ((with_reducible refine ik_move ?_); refine wo_op rfl (op_move rfl) rfl rfl ?_) | ((with_reducible refine ik_assign ?_); refine wo_op rfl (op_assign rfl) rfl rfl ?_) | ((with_reducible refine ik_box ?_); refine wo_op rfl (op_boxAgg rfl zs157 rfl) rfl rfl ?_) | ((with_reducible refine ik_callv ?_); (refine wo_call rfl rfl rfl rfl (q2 _ gr_A wf_A) rfl rfl ?_; rintro _ _ ⟨rfl, hq⟩; all_goals ((try (have hqn := hq.nx)); (try simp only [H.nx_push, H.nx_set, H.nx_bump] at hqn))))) | with_reducible refine sq_norm ?_ | with_reducible refine wc_seq ?_ | with_reducible refine wc_region ?_ | with_reducible refine wc_ret ?_ | with_reducible refine wc_block ?_ | with_reducible refine bq_ret ?_ | with_reducible refine sq_ret ?_ | refine wc_ift rfl ?_)
    exact rq1 rfl ⟨rfl, gr_A⟩
  | false =>
    cases A with
    | false =>
      refine cf_enter0 21 [.tmp 8] Tryz.func136 rfl rfl rfl rfl ?_
      repeat' (first | with_reducible refine wo_nil ?_ | ((with_reducible refine wo_any ?_); first | ((with_reducible refine ik_move ?_); refine wo_op rfl (op_move rfl) rfl rfl ?_) | ((with_reducible refine ik_assign ?_); refine wo_op rfl (op_assign rfl) rfl rfl ?_) | ((with_reducible refine ik_box ?_); refine wo_op rfl (op_boxAgg rfl zs157 rfl) rfl rfl ?_) | ((with_reducible refine ik_un ?_); refine wo_op rfl (op_not rfl) rfl rfl ?_) | ((with_reducible refine ik_callv ?_); first | (refine wo_call rfl rfl rfl rfl (q2 _ gr_A wf_A) rfl rfl ?_; rintro _ _ ⟨rfl, hq⟩; all_goals ((try (have hqn := hq.nx)); (try simp only [H.nx_push, H.nx_set, H.nx_bump] at hqn))) | (refine wo_call rfl rfl rfl rfl (q1 _ gr_A wf_A) rfl rfl ?_; rintro _ _ ⟨rfl, hq⟩; all_goals ((try (have hqn := hq.nx)); (try simp only [H.nx_push, H.nx_set, H.nx_bump] at hqn))))) | with_reducible refine sq_norm ?_ | with_reducible refine wc_seq ?_ | with_reducible refine wc_region ?_ | with_reducible refine wc_ret ?_ | with_reducible refine wc_block ?_ | with_reducible refine bq_ret ?_ | with_reducible refine sq_ret ?_ | refine wc_ift rfl ?_ | refine wc_iff rfl ?_)
      exact rq1 rfl ⟨rfl, gr_A⟩
    | true =>
      cases D with
      | true =>
        refine cf_enter0 21 [.tmp 8] Tryz.func136 rfl rfl rfl rfl ?_
        repeat' (first | with_reducible refine wo_nil ?_ | ((with_reducible refine wo_any ?_); first | ((with_reducible refine ik_move ?_); refine wo_op rfl (op_move rfl) rfl rfl ?_) | ((with_reducible refine ik_assign ?_); refine wo_op rfl (op_assign rfl) rfl rfl ?_) | ((with_reducible refine ik_box ?_); refine wo_op rfl (op_boxAgg rfl zs157 rfl) rfl rfl ?_) | ((with_reducible refine ik_un ?_); refine wo_op rfl (op_not rfl) rfl rfl ?_) | ((with_reducible refine ik_load ?_); refine wo_op rfl (op_ldAgg rfl at_A Tryz.underlying157 rfl zs157 rfl rfl) rfl rfl ?_) | ((with_reducible refine ik_callv ?_); first | (refine wo_call rfl rfl rfl rfl (q2 _ gr_A wf_A) rfl rfl ?_; rintro _ _ ⟨rfl, hq⟩; all_goals ((try (have hqn := hq.nx)); (try simp only [H.nx_push, H.nx_set, H.nx_bump] at hqn))) | (refine wo_call rfl rfl rfl rfl (q1 _ gr_A wf_A) rfl rfl ?_; rintro _ _ ⟨rfl, hq⟩; all_goals ((try (have hqn := hq.nx)); (try simp only [H.nx_push, H.nx_set, H.nx_bump] at hqn))) | (refine wo_call rfl rfl rfl rfl (q3 _ wf_A) rfl rfl ?_; rintro _ _ ⟨rfl, hq⟩; all_goals ((try (have hqn := hq.nx)); (try simp only [H.nx_push, H.nx_set, H.nx_bump] at hqn))))) | with_reducible refine sq_norm ?_ | with_reducible refine wc_seq ?_ | with_reducible refine wc_region ?_ | with_reducible refine wc_ret ?_ | with_reducible refine wc_block ?_ | with_reducible refine bq_ret ?_ | with_reducible refine sq_ret ?_ | refine wc_ift rfl ?_ | refine wc_iff rfl ?_)
        exact rq1 rfl ⟨rfl, gr_A⟩
      | false =>
        refine cf_enter0 21 [.tmp 8] Tryz.func136 rfl rfl rfl rfl ?_
        repeat' (first | with_reducible refine wo_nil ?_ | ((with_reducible refine wo_any ?_); first | ((with_reducible refine ik_move ?_); refine wo_op rfl (op_move rfl) rfl rfl ?_) | ((with_reducible refine ik_assign ?_); refine wo_op rfl (op_assign rfl) rfl rfl ?_) | ((with_reducible refine ik_box ?_); refine wo_op rfl (op_boxAgg rfl zs157 rfl) rfl rfl ?_) | ((with_reducible refine ik_un ?_); refine wo_op rfl (op_not rfl) rfl rfl ?_) | ((with_reducible refine ik_load ?_); refine wo_op rfl (op_ldAgg rfl at_A Tryz.underlying157 rfl zs157 rfl rfl) rfl rfl ?_) | ((with_reducible refine ik_callv ?_); first | (refine wo_call rfl rfl rfl rfl (q2 _ gr_A wf_A) rfl rfl ?_; rintro _ _ ⟨rfl, hq⟩; all_goals ((try (have hqn := hq.nx)); (try simp only [H.nx_push, H.nx_set, H.nx_bump] at hqn))) | (refine wo_call rfl rfl rfl rfl (q1 _ gr_A wf_A) rfl rfl ?_; rintro _ _ ⟨rfl, hq⟩; all_goals ((try (have hqn := hq.nx)); (try simp only [H.nx_push, H.nx_set, H.nx_bump] at hqn))) | (refine wo_call rfl rfl rfl rfl (q3 _ wf_A) rfl rfl ?_; rintro _ _ ⟨rfl, hq⟩; all_goals ((try (have hqn := hq.nx)); (try simp only [H.nx_push, H.nx_set, H.nx_bump] at hqn))))) | with_reducible refine sq_norm ?_ | with_reducible refine wc_seq ?_ | with_reducible refine wc_region ?_ | with_reducible refine wc_skip ?_ | with_reducible refine wc_ret ?_ | with_reducible refine wc_block ?_ | with_reducible refine bq_norm ?_ | refine wc_iff rfl ?_)
        exact rq1 rfl ⟨rfl, gr_A⟩
end Go.Proofs.YtlioomhcdlicmaaGreatDoor

/- Survey: the diary by the program. -/
namespace Go.Proofs.YtlioomhcdlicmaaGreatDoor
open Go Go.Ab Go.Fl
attribute [local irreducible] SeqQ BlkQ LpQ RetQ Wc Wo WD WX Op1 Op1q Op1a Cf Cl From
attribute [local irreducible] Ieee.Format.order Ieee.Format.read Ieee.Format.nearest Ieee.Format.write Ieee.Format.mul Ieee.Format.div Ieee.Format.sqrt Ieee.Datum.order Ieee.Datum.integral K U rngE errN ptE firstNZ vesE watE sgE sgsE allE hitB sqD insB qsL lvl rn rl altB cauS
set_option maxRecDepth 10000
variable {G : Base} {h : H}

attribute [local irreducible] fl silN insN levN inL leL
structure En where
  f : Int
  t : Int
  c : ByteArray
@[reducible] def En.cells (p : En) : List Value := [.int .i64 p.f, .int .i64 p.t, .string p.c]
theorem En.len (p : En) : p.cells.length = 3 := rfl
theorem En.flat {l : List En} : (l.flatMap En.cells).length = l.length * 3 := flat_len En.len l
/-- The cause of each tick. -/
def cawB (cl so : Int) (I : Nat → Bool) (L M : List Spn) (k : Nat) : ByteArray := cauS (M.any (inP (k : Int))) (L.any (inP (k : Int))) (decide (lvl cl so (qt I (k + 1) : Int) = 0))
def enW (W : Nat → ByteArray) (s : Spn) : En := ⟨s.f, s.t, W s.f.toNat⟩
def diL (W : Nat → ByteArray) (T : Nat) : List En := (rl (altB W) T).map (enW W)
def diaL (E : Int) (D : List En) : List En := if E ≠ 0 then [] else if 64 < D.length then [] else D
def diaE (E : Int) (D : List En) : Int := if E ≠ 0 then E else if 64 < D.length then 5 else 0
set_option maxHeartbeats 4000000 in
theorem c139 {A b T : Nat} {W : Nat → ByteArray} {s : Spn} (hf : 0 ≤ s.f ∧ s.f < T) (hT : T < 1000000) (hA : At h A (.cells [.slice (some ⟨b, 0, some 0⟩) T T] 25 1 false)) (hb : At h b (.cells (((List.range T).map W).map Value.string) 9 1 false)) (hw : Wf h) :
    Cf (mz G) (.func (.func 139) #[] #[.pointer (some ⟨A, 0, some 0⟩)]) [.agg ⟨s.cells⟩] h fun r h' => r = .agg ⟨(enW W s).cells⟩ ∧ Grow h h' := by
  obtain ⟨f, t⟩ := s
  obtain ⟨n, rfl⟩ : ∃ n : Nat, f = n := ⟨f.toNat, by simp only at hf; omega⟩
  simp only at hf
  have e : (enW W ⟨(n : Nat), t⟩).cells = [.int .i64 (n : Nat), .int .i64 t, .string (W n)] := by unfold enW; simp
  rw [e]
  obtain ⟨id, i1, i3⟩ := in_atV Value.string .empty (Sl.ofAt (G := G) hb (by simp) (Nat.le_refl T)) Tryz.underlying25 zs9 (i := (n : Int)) (q := n) (by omega) rfl
  rw [wL_get (by omega)] at i3
  generalize W n = x at i3
  dsimp only [Spn.cells]
  have lA := hA.lt
  clear hb e
  refine cf_enter (sz := 11) (rs := [.cell 3 133]) (all := [.agg ⟨[.int .i64 (n : Nat), .int .i64 t]⟩, .pointer (some ⟨A, 0, some 0⟩)]) Tryz.func139 rfl rfl rfl rfl rfl ?_
  repeat' (first | with_reducible refine wo_nil ?_ | ((with_reducible refine wo_any ?_); first | ((with_reducible refine ik_box ?_); refine wo_op rfl (op_boxAgg rfl zs79 rfl) rfl rfl ?_) | ((with_reducible refine ik_alloc ?_); refine wo_op rfl (op_alloc zz133 zs133 rfl rfl rfl) rfl rfl ?_)) | ((with_reducible refine xk_any ?_); ((with_reducible refine xk_as0 ?_); first | ((with_reducible refine xk_indexAddr ?_); refine wx_q (wt_none rfl) rfl rfl (op_q rfl (op_indexAddr rfl rfl i1)) rfl rfl rfl ?_) | ((with_reducible refine xk_load ?_); first | refine wx_h0 (wt_none rfl) rfl (op_q rfl (op_ldCell rfl Tryz.underlying9 rfl (i3 _ gr_A))) rfl rfl rfl ?_ | refine wx_h0 (wt_none rfl) rfl (op_q rfl (op_ldAgg rfl at_A Tryz.underlying79 rfl zs79 rfl rfl)) rfl rfl rfl ?_ | refine wx_h0 (wt_none rfl) rfl (op_q rfl (op_ldAt rfl at_A Tryz.underlying25 rfl rfl)) rfl rfl rfl ?_ | refine wx_h0 (wt_none rfl) rfl (op_q rfl (op_ldAt rfl at_A Tryz.underlying3 rfl rfl)) rfl rfl rfl ?_) | ((with_reducible refine xk_fieldAddr ?_); refine wx_q (wt_none rfl) rfl rfl (op_q rfl (op_fieldAddr (o := 0) rfl Tryz.underlying79 rfl zs3 rfl)) rfl rfl rfl ?_) | ((with_reducible refine xk_build ?_); refine wx_q (wt_none rfl) rfl rfl (op_q rfl (op_buildT rfl zz133 zp133 rfl rfl)) rfl rfl rfl ?_) | ((with_reducible refine xk_store ?_); refine wx_ee0 (wt_none rfl) rfl rfl (op_stAgg rfl rfl at_A zs133 rfl rfl rfl rfl) rfl ?_) | with_reducible refine wx_nil0 ?_ ?_)) | with_reducible exact obl_nil | with_reducible refine obl_cons ?_ ?_ | ((with_reducible refine ik_obs ?_); first | exact obs_nil | refine obs_skip rfl ?_ | refine obs_chkn rfl rfl (op_q rfl (op_ldCell rfl Tryz.underlying9 rfl (i3 _ gr_A))) ?_ | refine obs_chkn rfl rfl (op_q rfl (op_ldAgg rfl at_A Tryz.underlying79 rfl zs79 (by rfl) rfl)) ?_ | refine obs_chkn rfl rfl (op_q rfl (op_ldAt rfl at_A Tryz.underlying25 rfl (by rfl))) ?_ | refine obs_chkn rfl rfl (op_q rfl (op_ldAt rfl at_A Tryz.underlying3 rfl (by rfl))) ?_) | with_reducible refine sq_norm ?_ | with_reducible refine wc_seq ?_ | with_reducible refine wc_region ?_ | with_reducible refine wc_ret ?_ | refine wc_drawB (id := 1) 8 [0, 0, 0, 4, 14, 30, 63, 127] [0, 1, 2, 3, 4, 5, 6, 7] (by kernel_rfl) (by kernel_rfl) rfl rfl ?_)
  exact rqc1 rfl (ldAgg at_A Tryz.underlying133 rfl zs133 rfl rfl) ⟨rfl, gr_A⟩
set_option maxHeartbeats 4000000 in
theorem c137 {A : Nat} {v : Value} {n : Nat} {l : List Spn} (fE : Spn → En) (s : Sl G h 2 v n (l.flatMap Spn.cells)) (hl : l.length = n) (hn : n < 1000000) (hw : Wf h) (hq : ∀ h' x, Grow h h' → Wf h' → x ∈ l → Cf (mz G) (.func (.func 139) #[] #[.pointer (some ⟨A, 0, some 0⟩)]) [.agg ⟨x.cells⟩] h' fun r h2 => r = .agg ⟨(fE x).cells⟩ ∧ Grow h' h2) :
    Cf (mz G) (.func (.func 137) #[] #[]) [v, .func (.func 139) #[] #[.pointer (some ⟨A, 0, some 0⟩)]] h fun r h' => (∃ b, r = .slice (some ⟨b, 0, some 0⟩) n n ∧ At h' b (.cells ((l.map fE).flatMap En.cells) 133 3 false)) ∧ Grow h h' := by
  obtain ⟨a, c, rfl⟩ := s.form
  have hlm : (l.map fE).length = n := by rw [List.length_map]; exact hl
  refine cf_enter0 26 [.tmp 4] Tryz.func137 rfl rfl rfl rfl ?_
  repeat' (first | with_reducible refine wo_nil ?_ | ((with_reducible refine wo_any ?_); first | ((with_reducible refine ik_move ?_); refine wo_op rfl (op_move rfl) rfl rfl ?_) | ((with_reducible refine ik_assign ?_); refine wo_op rfl (op_assign rfl) rfl rfl ?_) | ((with_reducible refine ik_makeSlice ?_); refine wo_op rfl (op_mkAgg rfl rfl Tryz.underlying85 zs133 zb133 zz133 rfl (by omega) (by omega) rfl) rfl rfl ?_) | ((with_reducible refine ik_callb ?_); refine wo_op rfl (op_lenSl rfl Tryz.underlying52) rfl rfl ?_)) | with_reducible refine sq_norm ?_ | with_reducible refine wc_seq ?_ | with_reducible refine wc_region ?_ | with_reducible refine wc_block ?_)
  refine wc_loop (fun k => n - k) (fun k : Nat => [(1, .func (.func 139) #[] #[.pointer (some ⟨A, 0, some 0⟩)]), (5, .slice (some ⟨h.nx, 0, some 0⟩) n n), (11, .slice a n c), (12, .int .i64 n), (13, .int .i64 k)]) (fun k h' => (Wf h' ∧ Grow h h') ∧ At h' h.nx (.cells (((l.map fE).take k).flatMap En.cells ++ repeatCells (n - k) [.int .i64 0, .int .i64 0, .string .empty]) 133 3 false) ∧ k ≤ n) 0 (within_lk ⟨rfl, rfl, rfl, rfl, rfl, trivial⟩) ⟨⟨wf_A, gr_A⟩, At.new h _, Nat.zero_le _⟩ ?_
  rintro k h1 ⟨⟨w1, g1⟩, hat, hk⟩
  have n1 := g1.nx
  have l1 := hat.lt
  by_cases hlt : k < n
  · obtain ⟨id, i1, i3⟩ := rl_at Spn.len ⟨0, 0⟩ (s.grow g1) hl Tryz.underlying52 zs79 (i := (k : Int)) hlt rfl
    have hm : l.getD k ⟨0, 0⟩ ∈ l := by simp [List.getD, List.getElem?_eq_getElem (show k < l.length by omega)]
    have hgd : (l.map fE).getD k ⟨0, 0, .empty⟩ = fE (l.getD k ⟨0, 0⟩) := by simp [List.getD, List.getElem?_eq_getElem (show k < l.length by omega)]
    have fr := fill_rec En.len ⟨0, 0, .empty⟩ (Z := [.int .i64 0, .int .i64 0, .string .empty]) rfl (l := l.map fE) (k := k) (v := (fE (l.getD k ⟨0, 0⟩)).cells) hlm hlt (by rw [hgd])
    have hlen : (((l.map fE).take k).flatMap En.cells ++ repeatCells (n - k) [.int .i64 0, .int .i64 0, .string .empty]).length = n * 3 := by
      rw [List.length_append, En.flat, rep_len, List.length_take, Nat.min_eq_left (by omega)]; simp only [List.length_cons, List.length_nil]; omega
    obtain ⟨x0, hx⟩ : ∃ x, l.getD k ⟨0, 0⟩ = x := ⟨_, rfl⟩
    rw [hx] at i3 fr hm
    have q1 := fun (h' : H) (g : Grow h1 h') (w' : Wf h') => hq h' x0 (g1.trans g) w' hm
    obtain ⟨L, hL⟩ : ∃ L, ((l.map fE).take k).flatMap En.cells ++ repeatCells (n - k) [.int .i64 0, .int .i64 0, .string .empty] = L := ⟨_, rfl⟩
    rw [hL] at hat fr hlen
    obtain ⟨L2, hL2⟩ : ∃ L, ((l.map fE).take (k + 1)).flatMap En.cells ++ repeatCells (n - (k + 1)) [.int .i64 0, .int .i64 0, .string .empty] = L := ⟨_, rfl⟩
    rw [hL2] at fr
    clear hL hx hm hgd hq
    generalize fE x0 = y0 at q1 fr
    obtain ⟨y1, y2, y3⟩ := y0
    obtain ⟨f, t⟩ := x0
    dsimp only [Spn.cells, En.cells] at i3 q1 fr
    repeat' (first | with_reducible refine wo_nil ?_ | ((with_reducible refine wo_any ?_); first | ((with_reducible refine ik_move ?_); refine wo_op rfl (op_move rfl) rfl rfl ?_) | ((with_reducible refine ik_assign ?_); refine wo_op rfl (op_assign rfl) rfl rfl ?_) | ((with_reducible refine ik_indexAddr ?_); first | refine wo_op rfl (op_indexAddr rfl rfl i1) rfl rfl ?_ | refine wo_op rfl (op_idxSl (o := k * 3) rfl rfl Tryz.underlying85 zs133 (by omega) (by omega) (by omega)) rfl rfl ?_) | ((with_reducible refine ik_load ?_); first | refine wo_op rfl (op_ldLn rfl Tryz.underlying79 rfl zs79 (i3 _ gr_A).all) rfl rfl ?_ | refine wo_op rfl (op_ldAgg rfl at_A Tryz.underlying79 rfl zs79 rfl rfl) rfl rfl ?_) | ((with_reducible refine ik_store ?_); first | refine wo_op0 rfl (op_stRec rfl rfl at_A zs133 rfl (by omega) rfl fr) rfl ?_ | refine wo_op0 rfl (op_stAgg rfl rfl at_A zs79 rfl rfl rfl rfl) rfl ?_) | ((with_reducible refine ik_bin ?_); first | refine wo_op rfl (op_lss rfl rfl) rfl rfl ?_ | refine wo_op rfl (op_add' rfl rfl (w64 (by omega) (by omega))) rfl rfl ?_) | ((with_reducible refine ik_alloc ?_); refine wo_op rfl (op_alloc zz79 zs79 rfl rfl rfl) rfl rfl ?_) | ((with_reducible refine ik_callv ?_); (refine wo_call rfl rfl rfl rfl (q1 _ gr_A wf_A) rfl rfl ?_; rintro _ _ ⟨rfl, hq⟩; all_goals ((try (have hqn := hq.nx)); (try simp only [H.nx_push, H.nx_set, H.nx_bump] at hqn))))) | with_reducible refine sq_norm ?_ | with_reducible refine wc_seq ?_ | with_reducible refine wc_region ?_ | with_reducible refine wc_skip ?_ | with_reducible refine wc_block ?_ | with_reducible refine bq_norm ?_ | (refine wc_if rfl (fun hb => ?_) (fun hb => dead_A hb); (try simp only [decide_eq_true_eq, decide_eq_false_iff_not, Bool.not_eq_true', Bool.not_eq_false', Int.not_lt, Int.not_le, Decidable.not_not, not_true_eq_false, not_false_eq_true, beq_self_eq_true, reduceCtorEq] at hb)))
    exact lq_norm (k + 1) (by omega) (within_lk ⟨rfl, rfl, rfl, rfl, rfl, trivial⟩) ⟨⟨wf_A, gr_A⟩, by rw [hL2]; exact at_A, by omega⟩
  · have hkn : k = n := by omega
    subst hkn
    have fe : ((l.map fE).take k).flatMap En.cells ++ repeatCells (k - k) [.int .i64 0, .int .i64 0, .string .empty] = (l.map fE).flatMap En.cells := by
      rw [List.take_of_length_le (by omega), Nat.sub_self]; simp [repeatCells]
    rw [fe] at hat
    repeat' (first | with_reducible refine wo_nil ?_ | ((with_reducible refine wo_any ?_); first | ((with_reducible refine ik_move ?_); refine wo_op rfl (op_move rfl) rfl rfl ?_) | ((with_reducible refine ik_assign ?_); refine wo_op rfl (op_assign rfl) rfl rfl ?_) | ((with_reducible refine ik_bin ?_); refine wo_op rfl (op_lss rfl rfl) rfl rfl ?_)) | with_reducible refine sq_norm ?_ | with_reducible refine wc_seq ?_ | with_reducible refine wc_region ?_ | with_reducible refine wc_ret ?_ | with_reducible refine wc_exit ?_ | with_reducible refine sq_exit ?_ | with_reducible refine lq_exit ?_ | refine bq_eq rfl ?_ | (refine wc_if rfl (fun hb => ?_) (fun hb => ?_) <;> (try simp only [decide_eq_true_eq, decide_eq_false_iff_not, Bool.not_eq_true', Bool.not_eq_false', Int.not_lt, Int.not_le, Decidable.not_not, not_true_eq_false, not_false_eq_true, beq_self_eq_true, reduceCtorEq] at hb) <;> (try (exfalso; omega))))
    exact rq1 rfl ⟨⟨_, rfl, at_A⟩, gr_A⟩
theorem rl_in {b : Nat → Bool} {T : Nat} {s : Spn} (hs : s ∈ rl b T) : 0 ≤ s.f ∧ s.f < T := by
  have := rl_mem hs; omega
set_option maxHeartbeats 16000000 in
theorem c67 {x y u v t r sp lo cl so : Int} {w vs vw : Value} {n m q : Nat} {l : List Sg} {L M : List Spn} (s : Sl G h 3 w n (l.flatMap Sg.cells)) (hl : l.length = n) (hn : n < 1000000) (p : Sl G h 2 vs m (L.flatMap Spn.cells)) (hL : L.length = m) (hm : m < 1000000) (pw : Sl G h 2 vw q (M.flatMap Spn.cells)) (hM : M.length = q) (hq0 : q < 1000000) (hw : Wf h) :
    Cf (mz G) (.func (.func 67) #[] #[]) [.agg ⟨[.int .i64 x, .int .i64 y, .int .i64 u, .int .i64 v, .int .i64 t]⟩, .agg ⟨[.int .i64 r, .int .i64 sp, .int .i64 lo, .int .i64 cl, .int .i64 so]⟩, w, vs, vw] h fun r' h' => (∃ a c, r' = .tuple #[.slice a (diaL (firstNZ [allE x y u v t r sp lo cl so l, spsE L, spsE M]) (diL (cawB cl so (insB x y u v r sp lo l) L M) t.toNat)).length c, .int .i64 (diaE (firstNZ [allE x y u v t r sp lo cl so l, spsE L, spsE M]) (diL (cawB cl so (insB x y u v r sp lo l) L M) t.toNat))] ∧ Sl G h' 3 (.slice a (diaL (firstNZ [allE x y u v t r sp lo cl so l, spsE L, spsE M]) (diL (cawB cl so (insB x y u v r sp lo l) L M) t.toNat)).length c) (diaL (firstNZ [allE x y u v t r sp lo cl so l, spsE L, spsE M]) (diL (cawB cl so (insB x y u v r sp lo l) L M) t.toNat)).length ((diaL (firstNZ [allE x y u v t r sp lo cl so l, spsE L, spsE M]) (diL (cawB cl so (insB x y u v r sp lo l) L M) t.toNat)).flatMap En.cells)) ∧ Grow h h' := by
  have q81 := fun (h' : H) (g : Grow h h') (w' : Wf h') => c81 (x := x) (y := y) (u := u) (v := v) (t := t) (r := r) (sp := sp) (lo := lo) (cl := cl) (so := so) (s.grow g) hl hn w'
  have qa := fun (h' : H) (g : Grow h h') (w' : Wf h') => c134 (p.grow g) hL hm w'
  have qb := fun (h' : H) (g : Grow h h') (w' : Wf h') => c134 (pw.grow g) hM hq0 w'
  have qf3 := fun (h' : H) (vv : Value) (s : Sl G h' 1 vv 3 ([allE x y u v t r sp lo cl so l, spsE L, spsE M].map (.int .i64))) => c93 s (by omega)
  by_cases hE : (firstNZ [allE x y u v t r sp lo cl so l, spsE L, spsE M]) = 0
  · have z := firstNZ_zero hE
    have he : allE x y u v t r sp lo cl so l = 0 := z _ (by simp)
    have hsp : spsE L = 0 := z _ (by simp)
    have hsw : spsE M = 0 := z _ (by simp)
    obtain ⟨⟨b1, b2⟩, ⟨b3, b4⟩, ⟨bt, bT⟩, hr, hs, hlo, hcl, hso, hlen, hall⟩ := all_ok he
    obtain ⟨T, rfl⟩ : ∃ T : Nat, t = T := ⟨t.toNat, by omega⟩
    have hT : T ≤ 4096 := by omega
    have hT1 : 0 < T := by omega
    have form := fun (v : Value) (q : Nat) (N : List Spn) (p : Sl G h 2 v q (N.flatMap Spn.cells)) (hN : N.length = q) (hq : q < 1000000) (h' : H) (g : Grow h h') (w' : Wf h') => (c135 (p.grow g) hN hq w').mono (Q' := fun r' h2 => (∃ b, r' = .slice (some ⟨b, 0, some 0⟩) q q ∧ b < h2.nx ∧ At h2 b (.cells (N.flatMap Spn.cells) 241 2 false)) ∧ Grow h' h2) (fun r' h2 ⟨⟨b, e1, e2⟩, e3⟩ => ⟨⟨b, e1, e2.lt, e2⟩, e3⟩)
    have q13 := form vs m L p hL hm
    have q14 := form vw q M pw hM hq0
    have q83 := fun (h' : H) (g : Grow h h') (w' : Wf h') => (c83 (cl := cl) (so := so) (T := T) (s.grow g) hl hn w' b1 b2 b3 b4 hT hr hs hlo hall).mono (Q' := fun r' h2 => (∃ b, r' = .slice (some ⟨b, 0, some 0⟩) T T ∧ b < h2.nx ∧ At h2 b (.cells ((qsL (insB x y u v r sp lo l) T).flatMap (stC r sp lo cl so)) 157 6 false)) ∧ Grow h' h2) (fun r' h2 ⟨⟨b, e1, e2⟩, e3⟩ => ⟨⟨b, e1, e2.lt, e2⟩, e3⟩)
    rw [hE] at qf3 ⊢
    rw [he] at q81 qf3
    rw [hsp] at qa qf3
    rw [hsw] at qb qf3
    rw [Int.toNat_natCast]
    have hW : ∀ k, (cawB cl so (insB x y u v r sp lo l) L M) k = cauS (M.any (inP (k : Int))) (L.any (inP (k : Int))) (decide (lvl cl so (qt (insB x y u v r sp lo l) (k + 1) : Int) = 0)) := fun k => rfl
    clear form he hsp hsw hE z hall hlen
    obtain ⟨I, hI⟩ : ∃ I, (insB x y u v r sp lo l) = I := ⟨_, rfl⟩
    rw [hI] at q83 hW ⊢
    clear hI
    generalize cawB cl so I L M = W at hW ⊢
    obtain ⟨a, c, rfl⟩ := s.form
    obtain ⟨pa, pc, rfl⟩ := p.form
    obtain ⟨wa, wc, rfl⟩ := pw.form
    refine cf_enter0 66 [.tmp 10, .tmp 11] Tryz.func67 rfl rfl rfl rfl ?_
    refine wc_mid (ι := Unit) (fun _ => [(2, .slice a n c), (3, .slice pa m pc), (4, .slice wa q wc), (5, .pointer (some ⟨h.nx, 0, some 0⟩)), (6, .pointer (some ⟨h.nx + 1, 0, some 0⟩))]) (fun _ h' => (Wf h' ∧ Grow h h') ∧ At h' h.nx (.cells [.int .i64 x, .int .i64 y, .int .i64 u, .int .i64 v, .int .i64 (T : Nat)] 45 5 false) ∧ At h' (h.nx + 1) (.cells [.int .i64 r, .int .i64 sp, .int .i64 lo, .int .i64 cl, .int .i64 so] 46 5 false)) ?_ ?_
    · repeat' (first | with_reducible refine wo_nil ?_ | ((with_reducible refine wo_any ?_); first | ((with_reducible refine ik_assign ?_); refine wo_op rfl (op_assign rfl) rfl rfl ?_) | ((with_reducible refine ik_box ?_); refine wo_op rfl (op_boxAgg rfl zs45 rfl) rfl rfl ?_)) | with_reducible refine wc_region ?_)
      exact ⟨rfl, (), within_lk ⟨rfl, rfl, rfl, rfl, rfl, trivial⟩, ⟨wf_A, gr_A⟩, at_A, at_A⟩
    rintro _ h1 ⟨⟨w1, g1⟩, aV, aW⟩
    have n1 := g1.nx
    have lW := aW.lt
    refine wc_mid (ι := Unit) (fun _ => [(2, .slice a n c), (3, .slice pa m pc), (4, .slice wa q wc), (5, .pointer (some ⟨h.nx, 0, some 0⟩)), (6, .pointer (some ⟨h.nx + 1, 0, some 0⟩))]) (fun _ h' => Wf h' ∧ Grow h1 h') ?_ ?_
    · repeat' (first | with_reducible refine wo_nil ?_ | ((with_reducible refine wo_any ?_); first | ((with_reducible refine ik_move ?_); refine wo_op rfl (op_move rfl) rfl rfl ?_) | ((with_reducible refine ik_assign ?_); refine wo_op rfl (op_assign rfl) rfl rfl ?_) | ((with_reducible refine ik_load ?_); first | refine wo_op rfl (op_ldAgg rfl at_A Tryz.underlying45 rfl zs45 rfl rfl) rfl rfl ?_ | refine wo_op rfl (op_ldAgg rfl at_A Tryz.underlying46 rfl zs46 rfl rfl) rfl rfl ?_) | ((with_reducible refine ik_buildSlice ?_); refine wo_op rfl (op_buildSl rfl Tryz.underlying238 zs26 zz26 rfl rfl) rfl rfl ?_) | ((with_reducible refine ik_bin ?_); refine wo_op rfl (op_neq rfl rfl) rfl rfl ?_) | ((with_reducible refine ik_callv ?_); first | refine wo_op rfl (op_call rfl rfl (qf3 _ _ (Sl.ofAt (show At _ _ (.cells [.int .i64 0, .int .i64 0, .int .i64 0] 26 1 false) from at_A) rfl (Nat.le_refl _)))) rfl rfl ?_ | (refine wo_call rfl rfl rfl rfl (q81 _ (g1.trans gr_A) wf_A) rfl rfl ?_; rintro _ _ ⟨rfl, hq⟩; all_goals ((try (have hqn := hq.nx)); (try simp only [H.nx_push, H.nx_set, H.nx_bump] at hqn))) | (refine wo_call rfl rfl rfl rfl (qa _ (g1.trans gr_A) wf_A) rfl rfl ?_; rintro _ _ ⟨rfl, hq⟩; all_goals ((try (have hqn := hq.nx)); (try simp only [H.nx_push, H.nx_set, H.nx_bump] at hqn))) | (refine wo_call rfl rfl rfl rfl (qb _ (g1.trans gr_A) wf_A) rfl rfl ?_; rintro _ _ ⟨rfl, hq⟩; all_goals ((try (have hqn := hq.nx)); (try simp only [H.nx_push, H.nx_set, H.nx_bump] at hqn))))) | with_reducible refine sq_norm ?_ | with_reducible refine wc_seq ?_ | with_reducible refine wc_region ?_ | with_reducible refine wc_skip ?_ | refine wc_iff rfl ?_)
      exact ⟨rfl, (), within_lk ⟨rfl, rfl, rfl, rfl, rfl, trivial⟩, wf_A, gr_A⟩
    clear w1 q81 qa qb qf3
    rintro _ h2 ⟨w1, g2⟩
    have n2 := g2.nx
    refine wc_mid (ι := Nat × Nat) (fun z => [(2, .slice a n c), (3, .slice pa m pc), (4, .slice wa q wc), (5, .pointer (some ⟨h.nx, 0, some 0⟩)), (6, .pointer (some ⟨h.nx + 1, 0, some 0⟩)), (13, .slice (some ⟨z.1, 0, some 0⟩) m m), (14, .slice (some ⟨z.2, 0, some 0⟩) q q)]) (fun z h' => (Wf h' ∧ Grow h2 h') ∧ At h' z.1 (.cells (L.flatMap Spn.cells) 241 2 false) ∧ At h' z.2 (.cells (M.flatMap Spn.cells) 241 2 false)) ?_ ?_
    · have gg := g1.trans g2
      clear q83
      repeat' (first | with_reducible refine wo_nil ?_ | ((with_reducible refine wo_any ?_); first | ((with_reducible refine ik_move ?_); refine wo_op rfl (op_move rfl) rfl rfl ?_) | ((with_reducible refine ik_assign ?_); refine wo_op rfl (op_assign rfl) rfl rfl ?_) | ((with_reducible refine ik_callv ?_); first | (refine wo_call rfl rfl rfl rfl (q13 _ (gg.trans gr_A) wf_A) rfl rfl ?_; rintro _ _ ⟨⟨b13, rfl, lt13, at13⟩, hq⟩; all_goals ((try (have hqn := hq.nx)); (try simp only [H.nx_push, H.nx_set, H.nx_bump] at hqn))) | (refine wo_call rfl rfl rfl rfl (q14 _ (gg.trans gr_A) wf_A) rfl rfl ?_; rintro _ _ ⟨⟨b14, rfl, lt14, at14⟩, hq⟩; all_goals ((try (have hqn := hq.nx)); (try simp only [H.nx_push, H.nx_set, H.nx_bump] at hqn))))) | with_reducible refine wc_region ?_)
      exact ⟨rfl, (b13, b14), within_lk ⟨rfl, rfl, rfl, rfl, rfl, rfl, rfl, trivial⟩, ⟨wf_A, gr_A⟩, at_A, at_A⟩
    clear w1 q13 q14
    rintro ⟨b13, b14⟩ h3 ⟨⟨w1, g3⟩, at13, at14⟩
    dsimp only at at13 at14 ⊢
    have n3 := g3.nx
    refine wc_mid (ι := Nat) (fun z => [(2, .slice a n c), (5, .pointer (some ⟨h.nx, 0, some 0⟩)), (6, .pointer (some ⟨h.nx + 1, 0, some 0⟩)), (13, .slice (some ⟨b13, 0, some 0⟩) m m), (14, .slice (some ⟨b14, 0, some 0⟩) q q), (15, .pointer (some ⟨z + 1, 0, some 0⟩))]) (fun z h' => (Wf h' ∧ Grow h3 h') ∧ h3.nx ≤ z ∧ At h' z (.cells (List.replicate T (.string .empty)) 9 1 false) ∧ At h' (z + 1) (.cells [.slice (some ⟨z, 0, some 0⟩) T T] 25 1 false)) ?_ ?_
    · have aV3 := aV.grow (g2.trans g3)
      clear q83
      repeat' (first | with_reducible refine wo_nil ?_ | ((with_reducible refine wo_any ?_); first | ((with_reducible refine ik_makeSlice ?_); refine wo_op rfl (op_mkSl rfl rfl Tryz.underlying25 zs9 zb9 zz9 rfl (by omega) (by omega)) rfl rfl ?_) | ((with_reducible refine ik_load ?_); refine wo_op rfl (op_ldAt rfl at_A Tryz.underlying3 rfl rfl) rfl rfl ?_) | ((with_reducible refine ik_fieldAddr ?_); refine wo_op rfl (op_fieldAddr (o := 4) rfl Tryz.underlying45 rfl zs3 rfl) rfl rfl ?_) | ((with_reducible refine ik_alloc ?_); refine wo_op rfl (op_alloc zz25 zs25 rfl rfl rfl) rfl rfl ?_) | ((with_reducible refine ik_store ?_); refine wo_op0 rfl (op_st1 rfl rfl at_A rfl zs25 rfl rfl rfl) rfl ?_)) | with_reducible refine wc_region ?_)
      exact ⟨rfl, h3.nx, within_lk ⟨rfl, rfl, rfl, rfl, rfl, rfl, trivial⟩, ⟨wf_A, gr_A⟩, Nat.le_refl _, at_A, (show At _ (H.nx (h3.push (.cells (List.replicate T (.string .empty)) 9 1 false))) _ from at_A)⟩
    clear w1
    rintro bw h4 ⟨⟨w1, g4⟩, hbw, atw, atp⟩
    have n4 := g4.nx
    have x1 : b13 < bw := by have := at13.lt; omega
    have x2 : b14 < bw := by have := at14.lt; omega
    have hbw2 : h.nx ≤ bw := by omega
    have gA := g1.trans (g2.trans (g3.trans g4))
    have aV := aV.grow (g2.trans (g3.trans g4))
    have aW := aW.grow (g2.trans (g3.trans g4))
    have at13 := at13.grow g4
    have at14 := at14.grow g4
    have lw := atw.lt
    have lp := atp.lt
    have lW := aW.lt
    have l13 := at13.lt
    have l14 := at14.lt
    clear g2 g3 g4 n2 n3 n4 n1 g1 lW
    have n1 := gA.nx
    refine wc_mid (ι := Unit) (fun _ => [(15, .pointer (some ⟨bw + 1, 0, some 0⟩))]) (fun _ h' => (Wf h' ∧ Grow h h') ∧ At h' bw (.cells (((List.range T).map W).map Value.string) 9 1 false) ∧ At h' (bw + 1) (.cells [.slice (some ⟨bw, 0, some 0⟩) T T] 25 1 false)) ?_ ?_
    · refine wc_mid (ι := Nat) (fun b42 => [(13, .slice (some ⟨b13, 0, some 0⟩) m m), (14, .slice (some ⟨b14, 0, some 0⟩) q q), (15, .pointer (some ⟨bw + 1, 0, some 0⟩)), (42, .slice (some ⟨b42, 0, some 0⟩) T T), (43, .int .i64 (T : Nat)), (44, .int .i64 0)]) (fun b42 h' => (Wf h' ∧ Grow h4 h') ∧ At h' b42 (.cells ((qsL I T).flatMap (stC r sp lo cl so)) 157 6 false)) ?_ ?_
      · repeat' (first | with_reducible refine wo_nil ?_ | ((with_reducible refine wo_any ?_); first | ((with_reducible refine ik_move ?_); refine wo_op rfl (op_move rfl) rfl rfl ?_) | ((with_reducible refine ik_load ?_); first | refine wo_op rfl (op_ldAgg rfl at_A Tryz.underlying45 rfl zs45 rfl rfl) rfl rfl ?_ | refine wo_op rfl (op_ldAgg rfl at_A Tryz.underlying46 rfl zs46 rfl rfl) rfl rfl ?_) | ((with_reducible refine ik_callb ?_); refine wo_op rfl (op_lenSl rfl Tryz.underlying158) rfl rfl ?_) | ((with_reducible refine ik_callv ?_); (refine wo_call rfl rfl rfl rfl (q83 _ (gA.trans gr_A) wf_A) rfl rfl ?_; rintro _ _ ⟨⟨b42, rfl, lt42, at42⟩, hq⟩; all_goals ((try (have hqn := hq.nx)); (try simp only [H.nx_push, H.nx_set, H.nx_bump] at hqn))))) | with_reducible refine wc_region ?_)
        exact ⟨rfl, b42, within_lk ⟨rfl, rfl, rfl, rfl, rfl, rfl, trivial⟩, ⟨wf_A, gr_A⟩, at_A⟩
      clear w1 q83
      rintro b42 h5 ⟨⟨w1, g5⟩, at42⟩
      have n5 := g5.nx
      have at13 := at13.grow g5
      have at14 := at14.grow g5
      have atw := atw.grow g5
      have atp := atp.grow g5
      have l42 := at42.lt
      have gB := gA.trans g5
      have n6 := gB.nx
      have h42 : b42 ≠ bw := fun e => by
        have z := at42.get
        rw [e, atw.get] at z
        injection (Option.some.inj z) with z1 z2 z3
        exact absurd z3 (by decide)
      clear aV aW
      refine wc_block ?_
      refine wc_loop (fun k => T - k) (fun k : Nat => [(13, .slice (some ⟨b13, 0, some 0⟩) m m), (14, .slice (some ⟨b14, 0, some 0⟩) q q), (15, .pointer (some ⟨bw + 1, 0, some 0⟩)), (42, .slice (some ⟨b42, 0, some 0⟩) T T), (43, .int .i64 (T : Nat)), (44, .int .i64 (k : Nat))]) (fun k h' => (Wf h' ∧ Grow h h') ∧ k ≤ T ∧ At h' bw (.cells ((((List.range T).map W).take k).map Value.string ++ List.replicate (T - k) (Value.string .empty)) 9 1 false) ∧ At h' (bw + 1) (.cells [.slice (some ⟨bw, 0, some 0⟩) T T] 25 1 false) ∧ At h' b42 (.cells ((qsL I T).flatMap (stC r sp lo cl so)) 157 6 false) ∧ At h' b13 (.cells (L.flatMap Spn.cells) 241 2 false) ∧ At h' b14 (.cells (M.flatMap Spn.cells) 241 2 false)) 0 (within_lk ⟨rfl, rfl, rfl, rfl, rfl, rfl, trivial⟩) ⟨⟨w1, gB⟩, Nat.zero_le _, by simpa using atw, atp, at42, at13, at14⟩ ?_
      clear w1 at13 at14 atw atp at42 g5 gB gA n1 n5 n6 lw lp l13 l14 l42
      rintro k h6 ⟨⟨w1, g6⟩, hk, atw, atp, at42, at13, at14⟩
      have n6 := g6.nx
      have lw := atw.lt
      have lp := atp.lt
      have l42 := at42.lt
      by_cases hlt : k < T
      · obtain ⟨id, i1, i3⟩ := rl_at (stC_len r sp lo cl so) 0 (Sl.ofAt (G := G) at42 (by rw [flat_len (stC_len r sp lo cl so), qsL_len]) (Nat.le_refl T)) qsL_len Tryz.underlying158 zs157 (i := (k : Int)) (q := k) hlt rfl
        rw [qsL_get hlt] at i3
        have hqb := qt_le I (k + 1)
        have qc := fun (h' : H) (g' : Grow h6 h') (w' : Wf h') => c136 (r := r) (sp := sp) (lo := lo) (k := k) (Sl.ofAt (G := G) (at13.grow g') (by rw [Spn.flat, hL]) (Nat.le_refl m)) hL hm (Sl.ofAt (G := G) (at14.grow g') (by rw [Spn.flat, hM]) (Nat.le_refl q)) hM hq0 (q := (qt I (k + 1) : Int)) (by omega) hcl hso w'
        rw [← hW k] at qc
        have fs := fill_step (f := Value.string) (z := .string .empty) (u := .string (W k)) (l := ((List.range T).map W)) (k := k) (n := T) (by simp) hlt (by simp)
        have hlen : ((((List.range T).map W).take k).map Value.string ++ List.replicate (T - k) (Value.string .empty)).length = T := by simp; omega
        generalize (qt I (k + 1) : Int) = Q at i3 qc
        generalize W k = x0 at qc fs
        obtain ⟨L1, hL1⟩ : ∃ L, (((List.range T).map W).take k).map Value.string ++ List.replicate (T - k) (Value.string .empty) = L := ⟨_, rfl⟩
        rw [hL1] at atw fs hlen
        obtain ⟨L2, hL2⟩ : ∃ L, (((List.range T).map W).take (k + 1)).map Value.string ++ List.replicate (T - (k + 1)) (Value.string .empty) = L := ⟨_, rfl⟩
        rw [hL2] at fs
        clear hL1 hW
        dsimp only [stC] at i3 qc
        repeat' (first | with_reducible refine wo_nil ?_ | ((with_reducible refine wo_any ?_); first | ((with_reducible refine ik_move ?_); refine wo_op rfl (op_move rfl) rfl rfl ?_) | ((with_reducible refine ik_assign ?_); refine wo_op rfl (op_assign rfl) rfl rfl ?_) | ((with_reducible refine ik_indexAddr ?_); refine wo_op rfl (op_indexAddr rfl rfl i1) rfl rfl ?_) | ((with_reducible refine ik_load ?_); refine wo_op rfl (op_ldLn rfl Tryz.underlying157 rfl zs157 (i3 _ gr_A).all) rfl rfl ?_) | ((with_reducible refine ik_store ?_); refine wo_op0 rfl (op_stAgg rfl rfl at_A zs157 rfl rfl rfl rfl) rfl ?_) | ((with_reducible refine ik_bin ?_); first | refine wo_op rfl (op_lss rfl rfl) rfl rfl ?_ | refine wo_op rfl (op_add' rfl rfl (w64 (by omega) (by omega))) rfl rfl ?_) | ((with_reducible refine ik_alloc ?_); refine wo_op rfl (op_alloc zz157 zs157 rfl rfl rfl) rfl rfl ?_)) | ((with_reducible refine xk_any ?_); ((with_reducible refine xk_as0 ?_); first | ((with_reducible refine xk_move ?_); refine wx_q (wt_none rfl) rfl rfl (op_q rfl (op_move rfl)) rfl rfl rfl ?_) | ((with_reducible refine xk_indexAddr ?_); refine wx_q (wt_none rfl) rfl rfl (op_q rfl (op_idxSl (o := k) rfl rfl Tryz.underlying25 zs9 (by omega) (by omega) (by omega))) rfl rfl rfl ?_) | ((with_reducible refine xk_load ?_); first | refine wx_h0 (wt_none rfl) rfl (op_q rfl (op_ldAgg rfl at_A Tryz.underlying157 rfl zs157 rfl rfl)) rfl rfl rfl ?_ | refine wx_h0 (wt_none rfl) rfl (op_q rfl (op_ldAt rfl at_A Tryz.underlying25 rfl rfl)) rfl rfl rfl ?_) | ((with_reducible refine xk_store ?_); refine wx_ee0 (wt_none rfl) rfl rfl (op_stIdx rfl rfl at_A rfl zs9 (by omega) rfl fs) rfl ?_) | ((with_reducible refine xk_callv ?_); (refine wx_call0 (wt_none rfl) rfl rfl rfl rfl (qc _ gr_A wf_A) rfl rfl ?_; rintro _ _ ⟨rfl, hq⟩; all_goals ((try (have hqn := hq.nx)); (try simp only [H.nx_push, H.nx_set, H.nx_bump] at hqn)))) | with_reducible refine wx_nil0 ?_ ?_)) | with_reducible exact obl_nil | with_reducible refine obl_cons ?_ ?_ | ((with_reducible refine ik_obs ?_); first | exact obs_nil | refine obs_skip rfl ?_ | refine obs_chkn rfl rfl (op_q rfl (op_ldAgg rfl at_A Tryz.underlying157 rfl zs157 (by rfl) rfl)) ?_ | refine obs_chkn rfl rfl (op_q rfl (op_ldAt rfl at_A Tryz.underlying25 rfl (by rfl))) ?_) | with_reducible refine sq_norm ?_ | with_reducible refine wc_seq ?_ | with_reducible refine wc_region ?_ | with_reducible refine wc_skip ?_ | with_reducible refine wc_block ?_ | with_reducible refine bq_norm ?_ | (refine wc_if rfl (fun hb => ?_) (fun hb => dead_A hb); (try simp only [decide_eq_true_eq, decide_eq_false_iff_not, Bool.not_eq_true', Bool.not_eq_false', Int.not_lt, Int.not_le, Decidable.not_not, not_true_eq_false, not_false_eq_true, beq_self_eq_true, reduceCtorEq] at hb)) | refine wc_drawB (id := 9) 9 [0, 0, 0, 0, 0, 0, 60, 127, 255] [0, 1, 2, 3, 4, 5, 6, 7, 8] (by kernel_rfl) (by kernel_rfl) rfl rfl ?_)
        exact lq_norm (k + 1) (by omega) (within_lk ⟨rfl, rfl, rfl, rfl, rfl, rfl, trivial⟩) ⟨⟨wf_A, gr_A⟩, by omega, by rw [hL2]; exact at_A, at_A, at_A, at_A, at_A⟩
      · have hkn : k = T := by omega
        subst hkn
        have fe := fill_end (f := Value.string) (z := .string .empty) (l := ((List.range k).map W)) (n := k) (by simp)
        rw [fe] at atw
        repeat' (first | with_reducible refine wo_nil ?_ | ((with_reducible refine wo_any ?_); ((with_reducible refine ik_bin ?_); refine wo_op rfl (op_lss rfl rfl) rfl rfl ?_)) | with_reducible refine sq_norm ?_ | with_reducible refine wc_seq ?_ | with_reducible refine wc_region ?_ | with_reducible refine wc_exit ?_ | with_reducible refine sq_exit ?_ | with_reducible refine lq_exit ?_ | refine bq_eq rfl ?_ | (refine wc_if rfl (fun hb => dead_A hb) (fun hb => ?_); (try simp only [decide_eq_true_eq, decide_eq_false_iff_not, Bool.not_eq_true', Bool.not_eq_false', Int.not_lt, Int.not_le, Decidable.not_not, not_true_eq_false, not_false_eq_true, beq_self_eq_true, reduceCtorEq] at hb)))
        exact ⟨rfl, (), within_lk ⟨rfl, trivial⟩, ⟨w1, g6⟩, atw, atp⟩
    clear w1 at13 at14 atw atp aV aW gA q83 hW lw lp l13 l14 n1
    rintro _ h5 ⟨⟨w1, g5⟩, atw, atp⟩
    have n5 := g5.nx
    have lp := atp.lt
    have hKT := rl_len (b := altB W) T
    obtain ⟨K, hK⟩ : ∃ K, (rl (altB W) T).length = K := ⟨_, rfl⟩
    rw [hK] at hKT
    have q138 := fun (h' : H) (g : Grow h5 h') (w' : Wf h') => (c138 (W := W) (Sl.ofAt (G := G) (atw.grow g) (by simp) (Nat.le_refl T)) (by omega) w').mono (Q' := fun r' h2 => (∃ a c, r' = .slice a K c ∧ Sl G h2 2 (.slice a K c) K ((rl (altB W) T).flatMap Spn.cells)) ∧ Grow h' h2) (fun r' h2 ⟨e1, e2⟩ => by
      have s := e1.sl (G := G) (by rw [Spn.flat])
      rw [hK] at s
      obtain ⟨a, c, rfl⟩ := s.form
      exact ⟨⟨a, c, rfl, s⟩, e2⟩)
    have q137 := fun (h' : H) (v : Value) (s1 : Sl G h' 2 v K ((rl (altB W) T).flatMap Spn.cells)) (g : Grow h5 h') (w' : Wf h') => (c137 (A := bw + 1) (enW W) s1 hK (by omega) w' (fun h2 x g2 w2 mm => c139 (by have := rl_in mm; omega) (by omega) (atp.grow (g.trans g2)) (atw.grow (g.trans g2)) w2)).mono (Q' := fun r' h2 => (∃ b, r' = .slice (some ⟨b, 0, some 0⟩) K K ∧ b < h2.nx ∧ At h2 b (.cells ((diL W T).flatMap En.cells) 133 3 false)) ∧ Grow h' h2) (fun r' h2 ⟨⟨b, e1, e2⟩, e3⟩ => ⟨⟨b, e1, e2.lt, e2⟩, e3⟩)
    have hD : (diL W T).length = K := by unfold diL; rw [List.length_map]; exact hK
    have hdl : diaL 0 (diL W T) = if 64 < K then [] else diL W T := by unfold diaL; rw [if_neg (by decide), hD]
    have hde : diaE 0 (diL W T) = if 64 < K then 5 else 0 := by unfold diaE; rw [if_neg (by decide), hD]
    rw [hdl, hde]
    clear hdl hde hK
    obtain ⟨D, hDD⟩ : ∃ D, diL W T = D := ⟨_, rfl⟩
    rw [hDD] at q137 hD ⊢
    clear hDD
    by_cases h6 : 64 < K
    · rw [if_pos h6, if_pos h6]
      repeat' (first | with_reducible refine wo_nil ?_ | ((with_reducible refine wo_any ?_); first | ((with_reducible refine ik_move ?_); refine wo_op rfl (op_move rfl) rfl rfl ?_) | ((with_reducible refine ik_assign ?_); refine wo_op rfl (op_assign rfl) rfl rfl ?_) | ((with_reducible refine ik_makeFunc ?_); refine wo_op rfl (op_makeFunc (fun _ q => by cases q) rfl rfl) rfl rfl ?_) | ((with_reducible refine ik_load ?_); refine wo_op rfl (op_ldAt rfl at_A Tryz.underlying25 rfl rfl) rfl rfl ?_) | ((with_reducible refine ik_bin ?_); refine wo_op rfl (op_gtr rfl rfl) rfl rfl ?_) | ((with_reducible refine ik_callb ?_); refine wo_op rfl (op_lenSl rfl Tryz.underlying85) rfl rfl ?_) | ((with_reducible refine ik_callv ?_); first | (refine wo_call rfl rfl rfl rfl (q138 _ gr_A wf_A) rfl rfl ?_; rintro _ _ ⟨⟨ra, rc, rfl, sr⟩, hq⟩; all_goals ((try (have hqn := hq.nx)); (try simp only [H.nx_push, H.nx_set, H.nx_bump] at hqn))) | (refine wo_call rfl rfl rfl rfl (q137 _ _ (sr.grow gr_A) gr_A wf_A) rfl rfl ?_; rintro _ _ ⟨⟨b, rfl, ltb, atb⟩, hq⟩; all_goals ((try (have hqn := hq.nx)); (try simp only [H.nx_push, H.nx_set, H.nx_bump] at hqn))))) | with_reducible refine sq_norm ?_ | with_reducible refine wc_seq ?_ | with_reducible refine wc_region ?_ | with_reducible refine wc_ret ?_ | with_reducible refine sq_ret ?_ | (refine wc_if rfl (fun hb => ?_) (fun hb => dead_A hb); (try simp only [decide_eq_true_eq, decide_eq_false_iff_not, Bool.not_eq_true', Bool.not_eq_false', Int.not_lt, Int.not_le, Decidable.not_not, not_true_eq_false, not_false_eq_true, beq_self_eq_true, reduceCtorEq] at hb)))
      exact rq2 rfl rfl ⟨⟨none, 0, rfl, .nil⟩, gr_A⟩
    · rw [if_neg h6, if_neg h6]
      repeat' (first | with_reducible refine wo_nil ?_ | ((with_reducible refine wo_any ?_); first | ((with_reducible refine ik_move ?_); refine wo_op rfl (op_move rfl) rfl rfl ?_) | ((with_reducible refine ik_assign ?_); refine wo_op rfl (op_assign rfl) rfl rfl ?_) | ((with_reducible refine ik_makeFunc ?_); refine wo_op rfl (op_makeFunc (fun _ q => by cases q) rfl rfl) rfl rfl ?_) | ((with_reducible refine ik_load ?_); refine wo_op rfl (op_ldAt rfl at_A Tryz.underlying25 rfl rfl) rfl rfl ?_) | ((with_reducible refine ik_bin ?_); refine wo_op rfl (op_gtr rfl rfl) rfl rfl ?_) | ((with_reducible refine ik_callb ?_); refine wo_op rfl (op_lenSl rfl Tryz.underlying85) rfl rfl ?_) | ((with_reducible refine ik_callv ?_); first | (refine wo_call rfl rfl rfl rfl (q138 _ gr_A wf_A) rfl rfl ?_; rintro _ _ ⟨⟨ra, rc, rfl, sr⟩, hq⟩; all_goals ((try (have hqn := hq.nx)); (try simp only [H.nx_push, H.nx_set, H.nx_bump] at hqn))) | (refine wo_call rfl rfl rfl rfl (q137 _ _ (sr.grow gr_A) gr_A wf_A) rfl rfl ?_; rintro _ _ ⟨⟨b, rfl, ltb, atb⟩, hq⟩; all_goals ((try (have hqn := hq.nx)); (try simp only [H.nx_push, H.nx_set, H.nx_bump] at hqn))))) | with_reducible refine sq_norm ?_ | with_reducible refine wc_seq ?_ | with_reducible refine wc_region ?_ | with_reducible refine wc_skip ?_ | with_reducible refine wc_ret ?_ | (refine wc_if rfl (fun hb => dead_A hb) (fun hb => ?_); (try simp only [decide_eq_true_eq, decide_eq_false_iff_not, Bool.not_eq_true', Bool.not_eq_false', Int.not_lt, Int.not_le, Decidable.not_not, not_true_eq_false, not_false_eq_true, beq_self_eq_true, reduceCtorEq] at hb)))
      subst hD
      exact rq2 rfl rfl ⟨⟨_, _, rfl, Sl.ofAt at_A (by rw [En.flat]) (Nat.le_refl _)⟩, gr_A⟩
  · have hD : (diaL (firstNZ [allE x y u v t r sp lo cl so l, spsE L, spsE M]) (diL (cawB cl so (insB x y u v r sp lo l) L M) t.toNat)) = [] := by unfold diaL; rw [if_pos hE]
    have hE2 : (diaE (firstNZ [allE x y u v t r sp lo cl so l, spsE L, spsE M]) (diL (cawB cl so (insB x y u v r sp lo l) L M) t.toNat)) = (firstNZ [allE x y u v t r sp lo cl so l, spsE L, spsE M]) := by unfold diaE; rw [if_pos hE]
    rw [hD, hE2]
    obtain ⟨E, hE'⟩ : ∃ E, (firstNZ [allE x y u v t r sp lo cl so l, spsE L, spsE M]) = E := ⟨_, rfl⟩
    rw [hE'] at qf3 hE ⊢
    generalize allE x y u v t r sp lo cl so l = E1 at q81 qf3
    generalize spsE L = E2 at qa qf3
    generalize spsE M = E3 at qb qf3
    clear hE' hD hE2
    obtain ⟨a, c, rfl⟩ := s.form
    obtain ⟨pa, pc, rfl⟩ := p.form
    obtain ⟨wa, wc, rfl⟩ := pw.form
    refine cf_enter0 66 [.tmp 10, .tmp 11] Tryz.func67 rfl rfl rfl rfl ?_
    repeat' (first | with_reducible refine wo_nil ?_ | ((with_reducible refine wo_any ?_); first | ((with_reducible refine ik_move ?_); refine wo_op rfl (op_move rfl) rfl rfl ?_) | ((with_reducible refine ik_assign ?_); refine wo_op rfl (op_assign rfl) rfl rfl ?_) | ((with_reducible refine ik_box ?_); refine wo_op rfl (op_boxAgg rfl zs45 rfl) rfl rfl ?_) | ((with_reducible refine ik_load ?_); first | refine wo_op rfl (op_ldAgg rfl at_A Tryz.underlying45 rfl zs45 rfl rfl) rfl rfl ?_ | refine wo_op rfl (op_ldAgg rfl at_A Tryz.underlying46 rfl zs46 rfl rfl) rfl rfl ?_) | ((with_reducible refine ik_buildSlice ?_); refine wo_op rfl (op_buildSl rfl Tryz.underlying238 zs26 zz26 rfl rfl) rfl rfl ?_) | ((with_reducible refine ik_bin ?_); refine wo_op rfl (op_neq rfl rfl) rfl rfl ?_) | ((with_reducible refine ik_callv ?_); first | refine wo_op rfl (op_call rfl rfl (qf3 _ _ (Sl.ofAt (show At _ _ (.cells [.int .i64 E1, .int .i64 E2, .int .i64 E3] 26 1 false) from at_A) rfl (Nat.le_refl _)))) rfl rfl ?_ | (refine wo_call rfl rfl rfl rfl (q81 _ gr_A wf_A) rfl rfl ?_; rintro _ _ ⟨rfl, hq⟩; all_goals ((try (have hqn := hq.nx)); (try simp only [H.nx_push, H.nx_set, H.nx_bump] at hqn))) | (refine wo_call rfl rfl rfl rfl (qa _ gr_A wf_A) rfl rfl ?_; rintro _ _ ⟨rfl, hq⟩; all_goals ((try (have hqn := hq.nx)); (try simp only [H.nx_push, H.nx_set, H.nx_bump] at hqn))) | (refine wo_call rfl rfl rfl rfl (qb _ gr_A wf_A) rfl rfl ?_; rintro _ _ ⟨rfl, hq⟩; all_goals ((try (have hqn := hq.nx)); (try simp only [H.nx_push, H.nx_set, H.nx_bump] at hqn))))) | with_reducible refine sq_norm ?_ | with_reducible refine wc_seq ?_ | with_reducible refine wc_region ?_ | with_reducible refine wc_ret ?_ | with_reducible refine sq_ret ?_ | (refine wc_if rfl (fun hb => ?_) (fun hb => dead_A hb); (try simp only [decide_eq_true_eq, decide_eq_false_iff_not, Bool.not_eq_true', Bool.not_eq_false', Int.not_lt, Int.not_le, Decidable.not_not, not_true_eq_false, not_false_eq_true, beq_self_eq_true, reduceCtorEq] at hb)))
    exact rq2 rfl rfl ⟨⟨none, 0, rfl, .nil⟩, gr_A⟩
end Go.Proofs.YtlioomhcdlicmaaGreatDoor
