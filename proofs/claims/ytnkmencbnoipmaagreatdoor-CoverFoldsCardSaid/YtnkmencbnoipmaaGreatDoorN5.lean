/- Cover: folds, needs and gaps by the reference. -/
import Derived.Test.YtnkmencbnoipmaaGreatDoorN4
set_option linter.all false
/- Fold, needs and gaps by the reference. -/
namespace Go.Proofs.YtnkmencbnoipmaaGreatDoor
open Go Go.Ab Go.Fl
attribute [local irreducible] SeqQ BlkQ LpQ RetQ Wc Wo WD WX Op1 Op1q Op1a Cf Cl From
attribute [local irreducible] Ieee.Format.order Ieee.Format.read Ieee.Format.nearest Ieee.Format.write Ieee.Format.mul Ieee.Format.div Ieee.Format.sqrt Ieee.Datum.order Ieee.Datum.integral K U rngE errN cntE cmpI indE ptE plaE firstNZ numsE lnE BigP isNameB nmE ascA errL chgV chgE griE clsE clsG sqD binI covP covV hit outI plsP rowP linsE surE
set_option maxRecDepth 10000
variable {G : Base} {h : H}

theorem op_quoN {M : Mc} {l : KL} {h : H} {x y : Operand} {t : TypeId} {ty : TypeId} {A B : Int} (p q r : Nat) (hx : val l x = some (.int .i64 A)) (hy : val l y = some (.int .i64 B)) (hA : A = p) (hB : B = q) (h0 : 0 < q) (hr : p / q = r) (hs : r < 1000000) : Op1 M (.binOp .quo t x y ty) l h (.int .i64 (r : Int)) h := by
  subst hA hB hr
  refine op_quoV hx hy (by omega) ?_
  rw [Int.tdiv_eq_ediv_of_nonneg (by omega), ← Int.natCast_ediv]
  generalize p / q = r at hs ⊢
  exact w64 (by omega) (by omega)
/-- The state after i elements. -/
def foldI (l : List Int) (m B i : Nat) : List Int := partL l m B (i / m) (i % m)
theorem foldI_zero {l : List Int} {m B : Nat} : foldI l m B 0 = List.replicate B 0 := by
  unfold foldI; rw [Nat.zero_div, Nat.zero_mod]; exact partL_zero
theorem foldI_step {l : List Int} {m B i : Nat} (hm : 0 < m) : (foldI l m B i).set (i / m) (fsum l m (i / m) (i % m) + l.getD i 0) = foldI l m B (i + 1) := by
  unfold foldI
  have hd : i / m * m + i % m = i := by rw [Nat.mul_comm]; exact Nat.div_add_mod i m
  have := partL_set (l := l) (m := m) (B := B) (b := i / m) (t := i % m)
  rw [hd] at this
  rw [this]
  by_cases h : i % m + 1 = m
  · rw [h, partL_row]
    have e1 : (i + 1) / m = i / m + 1 := by
      have : i + 1 = m * (i / m + 1) := by rw [Nat.mul_add, Nat.mul_comm m (i / m)]; omega
      rw [this, Nat.mul_div_cancel_left _ hm]
    have e2 : (i + 1) % m = 0 := by
      have : i + 1 = m * (i / m + 1) := by rw [Nat.mul_add, Nat.mul_comm m (i / m)]; omega
      rw [this, Nat.mul_mod_right]
    rw [e1, e2]
  · have hlt := Nat.mod_lt i hm
    have e0 : i + 1 = m * (i / m) + (i % m + 1) := by rw [Nat.mul_comm m (i / m)]; omega
    have e1 : (i + 1) / m = i / m := by
      rw [e0, Nat.mul_add_div hm, Nat.div_eq_of_lt (show i % m + 1 < m by omega), Nat.add_zero]
    have e2 : (i + 1) % m = i % m + 1 := by
      rw [e0, Nat.mul_add_mod, Nat.mod_eq_of_lt (by omega)]
    rw [e1, e2]
theorem foldI_end {l : List Int} {m B : Nat} (hm : 0 < m) : foldI l m B (B * m) = foldL l m B := by
  unfold foldI foldL
  rw [Nat.mul_div_cancel _ hm, Nat.mul_mod_left]
set_option maxHeartbeats 8000000 in
theorem c43 {ox oy w u p q : Int} {va v : Value} {m B N n : Nat} {cl : List Int} {ts : List LnM} (g : GrOk ox oy w u p q) (hB : p * q = (B : Int)) (hB1 : 1 ≤ B) (hB2 : B ≤ 256) (hN : B * m = N) (sc : Sl G h 1 va m (cl.map (.int .i64))) (hm1 : 1 ≤ m) (hm8 : m ≤ 8) (s : SlN G h v n ts) (hn : n ≤ 32) (hok : ∀ t ∈ ts, errL t.V = 0) (hr : ∀ t ∈ ts, t.V.rf.length < 1000000) (hw : Wf h) : Cf (mz G) (.func (.func 43) #[] #[]) [.agg ⟨[.int .i64 ox, .int .i64 oy, .int .i64 w, .int .i64 u, .int .i64 p, .int .i64 q]⟩, va, v] h fun r h' => OwI h.nx h' r (foldL (covV ox oy w u p q cl N (vsOf ts)) m B) ∧ Grow h h' := by
  have q42 := fun (h' : H) (r : Grow h h') (w' : Wf h') => c42 g hB hB1 hB2 hN (sc.grow r) hm1 hm8 (s.grow r) hn hok hr w'
  have hC := covV_in' (ox := ox) (oy := oy) (w := w) (u := u) (p := p) (q := q) (cl := cl) (N := N) hok s.len hn
  have hCl : (covV ox oy w u p q cl N (vsOf ts)).length = N := covV_len
  have hNm : B * m ≤ 256 * 8 := Nat.mul_le_mul hB2 hm8
  generalize covV ox oy w u p q cl N (vsOf ts) = C at q42 hC hCl ⊢
  obtain ⟨ca, cc, rfl⟩ := sc.form
  clear sc s hok hr
  subst hCl
  rw [hN] at hNm
  refine cf_enter0 45 [.tmp 6] Tryz.func43 rfl rfl rfl rfl ?_
  repeat' (first | with_reducible refine wo_nil ?_ | ((with_reducible refine wo_any ?_); first | ((with_reducible refine ik_move ?_); refine wo_op rfl (op_move rfl) rfl rfl ?_) | ((with_reducible refine ik_assign ?_); refine wo_op rfl (op_assign rfl) rfl rfl ?_) | ((with_reducible refine ik_makeSlice ?_); refine wo_op rfl (op_mkSlI B rfl rfl hB Tryz.underlying41 zs3 zb3 zz3 rfl (by omega) (by omega)) rfl rfl ?_) | ((with_reducible refine ik_box ?_); refine wo_op rfl (op_boxAgg rfl zs25 rfl) rfl rfl ?_) | ((with_reducible refine ik_load ?_); first | refine wo_op rfl (op_ldAgg rfl at_A Tryz.underlying25 rfl zs25 rfl rfl) rfl rfl ?_ | refine wo_op rfl (op_ldAt rfl at_A Tryz.underlying3 rfl rfl) rfl rfl ?_) | ((with_reducible refine ik_fieldAddr ?_); first | refine wo_op rfl (op_fieldAddr (o := 4) rfl Tryz.underlying25 rfl zs3 rfl) rfl rfl ?_ | refine wo_op rfl (op_fieldAddr (o := 5) rfl Tryz.underlying25 rfl zs3 rfl) rfl rfl ?_) | ((with_reducible refine ik_bin ?_); refine wo_op rfl (op_mul' rfl rfl (w64 (by omega) (by omega))) rfl rfl ?_) | ((with_reducible refine ik_callv ?_); (refine wo_call rfl rfl rfl rfl (q42 _ gr_A wf_A) rfl rfl ?_; rintro _ _ ⟨⟨e1, hb1, rfl, ae1⟩, hq1⟩; all_goals ((try (have hqn := hq.nx)); (try simp only [H.nx_push, H.nx_set, H.nx_bump] at hqn))))) | with_reducible refine sq_norm ?_ | with_reducible refine wc_seq ?_ | with_reducible refine wc_region ?_ | with_reducible refine wc_block ?_)
  rename_i hA
  refine wc_cut (ι := Nat × Nat) (fun b => [(1, .slice ca m cc), (7, .slice (some ⟨b.1, 0, some 0⟩) C.length C.length), (8, .slice (some ⟨b.2, 0, some 0⟩) B B), (9, .int .i64 0)]) (fun b h' => (h.nx ≤ b.1 ∧ h.nx ≤ b.2 ∧ b.1 ≠ b.2) ∧ Wf h' ∧ Grow h h' ∧ At h' b.1 (.cells (C.map (.int .i64)) 3 1 false) ∧ At h' b.2 (.cells ((List.replicate B (0 : Int)).map (.int .i64)) 3 1 false)) (e1, hA.nx) (within_lk ⟨rfl, rfl, rfl, rfl, trivial⟩) ?_ ?_
  · have l1 := ae1.lt
    simp only [H.nx_push] at hb1
    refine ⟨⟨by dsimp only; omega, by dsimp only; omega, by dsimp only; omega⟩, wf_A, gr_A, by dsimp only; exact at_A, by rw [List.map_replicate]; dsimp only; exact at_A⟩
  clear q42 hw ae1 hb1 hq1
  rintro ⟨E1, E2⟩ h1 ⟨⟨z2, z3, z5⟩, w1, g1, a1, a2⟩
  dsimp only at z2 z3 z5 a1 a2 ⊢
  refine wc_loop (fun i => C.length - i) (fun i : Nat => [(1, .slice ca m cc), (7, .slice (some ⟨E1, 0, some 0⟩) C.length C.length), (8, .slice (some ⟨E2, 0, some 0⟩) B B), (9, .int .i64 i)]) (fun i h' => (Wf h' ∧ Grow h h' ∧ At h' E1 (.cells (C.map (.int .i64)) 3 1 false) ∧ At h' E2 (.cells ((foldI C m B i).map (.int .i64)) 3 1 false)) ∧ i ≤ C.length) 0 (within_lk ⟨rfl, rfl, rfl, rfl, trivial⟩) ⟨⟨w1, g1, a1, by rw [foldI_zero]; exact a2⟩, Nat.zero_le _⟩ ?_
  clear w1 g1 a1 a2
  rintro i h1 ⟨⟨w1, g1, a1, a2⟩, hi⟩
  by_cases hlt : i < C.length
  · have l1 := a1.lt
    have l2 := a2.lt
    have hd : i / m < B := Nat.div_lt_of_lt_mul (by rw [Nat.mul_comm, hN]; exact hlt)
    have f1 := fsum_in (m := m) (b := i / m) hC (i % m)
    have f0 := Nat.mod_lt i (show 0 < m by omega)
    have f2 := hC.getD i
    have f3 : (32768 : Int) * ((i % m : Nat) : Int) ≤ 32768 * 8 := by omega
    have hst := map_setI (l := foldI C m B i) (o := i / m) (x := fsum C m (i / m) (i % m) + C.getD i 0)
    rw [foldI_step (by omega)] at hst
    have hln : (foldI C m B i).length = B := partL_len
    have hg1 := map_getI (l := foldI C m B i) (o := i / m) (by rw [hln]; exact hd)
    rw [show (foldI C m B i).getD (i / m) 0 = fsum C m (i / m) (i % m) from part_get hd] at hg1
    have hg2 := map_getI (l := C) (o := i) hlt
    generalize fsum C m (i / m) (i % m) = x at f1 hst hg1
    generalize C.getD i 0 = y at f2 hst hg2
    generalize foldI C m B i = P1 at a2 hst hg1 hln
    obtain ⟨D, hD⟩ : ∃ D, i / m = D := ⟨_, rfl⟩
    have hm0 : 0 < m := by omega
    rw [hD] at hst hg1 hd
    clear f0
    generalize ((i % m : Nat) : Int) = T at f1 f3
    repeat' (first | with_reducible refine wo_nil ?_ | ((with_reducible refine wo_any ?_); first | ((with_reducible refine ik_move ?_); refine wo_op rfl (op_move rfl) rfl rfl ?_) | ((with_reducible refine ik_assign ?_); refine wo_op rfl (op_assign rfl) rfl rfl ?_) | ((with_reducible refine ik_bin ?_); first | refine wo_op rfl (op_lss rfl rfl) rfl rfl ?_ | refine wo_op rfl (op_add' rfl rfl (w64 (by omega) (by omega))) rfl rfl ?_) | ((with_reducible refine ik_callb ?_); refine wo_op rfl (op_lenSl rfl Tryz.underlying41) rfl rfl ?_)) | ((with_reducible refine xk_any ?_); ((with_reducible refine xk_as0 ?_); first | ((with_reducible refine xk_move ?_); refine wx_q (wt_none rfl) rfl rfl (op_q rfl (op_move rfl)) rfl rfl rfl ?_) | ((with_reducible refine xk_bin ?_); first | refine wx_q (wt_none rfl) rfl rfl (op_q rfl (op_quoN i m D rfl rfl rfl rfl hm0 hD (by omega))) rfl rfl rfl ?_ | refine wx_q (wt_none rfl) rfl rfl (op_q rfl (op_add' rfl rfl (w64 (by omega) (by omega)))) rfl rfl rfl ?_) | ((with_reducible refine xk_indexAddr ?_); first | refine wx_q (wt_none rfl) rfl rfl (op_q rfl (op_idxSl (b := E2) (o := D) rfl rfl Tryz.underlying41 zs3 (by omega) (by omega) (by omega))) rfl rfl rfl ?_ | refine wx_q (wt_none rfl) rfl rfl (op_q rfl (op_idxSl (b := E1) (o := i) rfl rfl Tryz.underlying41 zs3 (by omega) (by omega) (by omega))) rfl rfl rfl ?_) | ((with_reducible refine xk_load ?_); first | refine wx_h0 (wt_none rfl) rfl (op_q rfl (op_ldIdx (b := E2) rfl at_A Tryz.underlying3 rfl hg1)) rfl rfl rfl ?_ | refine wx_h0 (wt_none rfl) rfl (op_q rfl (op_ldIdx (b := E1) rfl at_A Tryz.underlying3 rfl hg2)) rfl rfl rfl ?_) | ((with_reducible refine xk_store ?_); refine wx_ee0 (wt_none rfl) rfl rfl (op_stIdx (b := E2) rfl rfl at_A rfl zs3 (by rw [List.length_map]; omega) rfl hst) rfl ?_) | ((with_reducible refine xk_callb ?_); refine wx_q (wt_none rfl) rfl rfl (op_q rfl (op_lenSl rfl Tryz.underlying41)) rfl rfl rfl ?_) | with_reducible refine wx_nil0 ?_ ?_)) | with_reducible exact obl_nil | with_reducible refine obl_cons ?_ ?_ | ((with_reducible refine ik_obs ?_); first | exact obs_nil | refine obs_skip rfl ?_ | refine obs_chkn rfl rfl (op_q rfl (op_ldIdx (b := E2) rfl at_A Tryz.underlying3 rfl hg1)) ?_ | refine obs_chkn rfl rfl (op_q rfl (op_ldIdx (b := E1) rfl at_A Tryz.underlying3 rfl hg2)) ?_) | with_reducible refine sq_norm ?_ | with_reducible refine wc_seq ?_ | with_reducible refine wc_region ?_ | with_reducible refine wc_skip ?_ | with_reducible refine wc_block ?_ | with_reducible refine bq_norm ?_ | (refine wc_if rfl (fun hb => ?_) (fun hb => ?_) <;> (try simp only [decide_eq_true_eq, decide_eq_false_iff_not, Bool.not_eq_true', Bool.not_eq_false', Int.not_lt, Int.not_le, Decidable.not_not, not_true_eq_false, not_false_eq_true, beq_self_eq_true, reduceCtorEq] at hb) <;> (try (exfalso; omega))) | refine wc_drawB (id := 6) 19 [0, 0, 0, 4, 14, 0, 0, 0, 128, 448, 992, 2016, 0, 0, 12288, 28672, 65504, 131071, 262143] [0, 1, 2, 3, 4, 5, 6, 7, 8, 9, 10, 11, 12, 13, 14, 15, 16, 17, 18] (by kernel_rfl) (by kernel_rfl) rfl rfl ?_)
    exact lq_norm (i + 1) (by omega) (within_lk ⟨rfl, rfl, rfl, rfl, trivial⟩) ⟨⟨wf_A, gr_A, at_A, at_A⟩, by omega⟩
  · have hin : i = C.length := by omega
    subst hin
    rw [← hN, foldI_end (by omega)] at a2
    repeat' (first | with_reducible refine wo_nil ?_ | ((with_reducible refine wo_any ?_); first | ((with_reducible refine ik_move ?_); refine wo_op rfl (op_move rfl) rfl rfl ?_) | ((with_reducible refine ik_assign ?_); refine wo_op rfl (op_assign rfl) rfl rfl ?_) | ((with_reducible refine ik_bin ?_); refine wo_op rfl (op_lss rfl rfl) rfl rfl ?_) | ((with_reducible refine ik_callb ?_); refine wo_op rfl (op_lenSl rfl Tryz.underlying41) rfl rfl ?_)) | with_reducible refine sq_norm ?_ | with_reducible refine wc_seq ?_ | with_reducible refine wc_region ?_ | with_reducible refine wc_ret ?_ | with_reducible refine wc_exit ?_ | with_reducible refine sq_exit ?_ | with_reducible refine lq_exit ?_ | refine bq_eq rfl ?_ | (refine wc_if rfl (fun hb => ?_) (fun hb => ?_) <;> (try simp only [decide_eq_true_eq, decide_eq_false_iff_not, Bool.not_eq_true', Bool.not_eq_false', Int.not_lt, Int.not_le, Decidable.not_not, not_true_eq_false, not_false_eq_true, beq_self_eq_true, reduceCtorEq] at hb) <;> (try (exfalso; omega))))
    exact rq1 rfl ⟨⟨E2, z3, by rw [foldL_len], a2⟩, gr_A⟩
/-- The needs of the first ones, the folds of the others. -/
def needI (l : List Int) (W : Int) (i : Nat) : List Int := needL (l.take i) W ++ l.drop i
theorem needI_getD {l : List Int} {W : Int} {i : Nat} (h : i < l.length) : (needI l W i).getD i 0 = l.getD i 0 := by
  unfold needI
  have e : (needL (l.take i) W).length = i := by rw [needL_len, List.length_take]; omega
  rw [← getElem_getD (by rw [List.length_append, e, List.length_drop]; omega), ← getElem_getD h, List.getElem_append_right (by omega)]
  simp [e]
theorem needI_len {l : List Int} {W : Int} {i : Nat} (h : i ≤ l.length) : (needI l W i).length = l.length := by
  unfold needI
  rw [List.length_append, needL_len, List.length_take, List.length_drop]; omega
theorem needI_step {l : List Int} {W : Int} {i : Nat} (h : i < l.length) : (needI l W i).set i (max 0 (W - l.getD i 0)) = needI l W (i + 1) := by
  unfold needI
  have e : (needL (l.take i) W).length = i := by rw [needL_len, List.length_take]; omega
  rw [List.set_append_right _ _ (by omega), e, Nat.sub_self, List.drop_eq_getElem_cons h, List.set_cons_zero, List.take_succ_eq_append_getElem h]
  unfold needL
  rw [List.map_append, List.append_assoc, getElem_getD h]
  rfl
set_option maxHeartbeats 8000000 in
theorem c107 {ox oy w u p q : Int} {va v : Value} {m B N n : Nat} {cl : List Int} {ts : List LnM} {W : Int} (hW : 1 ≤ W ∧ W ≤ 1000) (g : GrOk ox oy w u p q) (hB : p * q = (B : Int)) (hB1 : 1 ≤ B) (hB2 : B ≤ 256) (hN : B * m = N) (sc : Sl G h 1 va m (cl.map (.int .i64))) (hm1 : 1 ≤ m) (hm8 : m ≤ 8) (s : SlN G h v n ts) (hn : n ≤ 32) (hok : ∀ t ∈ ts, errL t.V = 0) (hr : ∀ t ∈ ts, t.V.rf.length < 1000000) (hw : Wf h) : Cf (mz G) (.func (.func 107) #[] #[]) [.agg ⟨[.int .i64 ox, .int .i64 oy, .int .i64 w, .int .i64 u, .int .i64 p, .int .i64 q]⟩, va, v, .int .i64 W] h fun r h' => OwI h.nx h' r (needL (foldL (covV ox oy w u p q cl N (vsOf ts)) m B) W) ∧ Grow h h' := by
  have q43 := fun (h' : H) (r : Grow h h') (w' : Wf h') => c43 g hB hB1 hB2 hN (sc.grow r) hm1 hm8 (s.grow r) hn hok hr w'
  have hC0 := foldL_in (m := m) (B := B) (covV_in' (ox := ox) (oy := oy) (w := w) (u := u) (p := p) (q := q) (cl := cl) (N := N) hok s.len hn)
  have hC := hC0.le (K := 1000000) (by omega)
  clear hC0
  have hl : (foldL (covV ox oy w u p q cl N (vsOf ts)) m B).length = B := foldL_len
  generalize foldL (covV ox oy w u p q cl N (vsOf ts)) m B = C at q43 hC hl ⊢
  subst hl
  clear sc s hok hr
  refine cf_enter0 32 [.tmp 8] Tryz.func107 rfl rfl rfl rfl ?_
  repeat' (first | with_reducible refine wo_nil ?_ | ((with_reducible refine wo_any ?_); first | ((with_reducible refine ik_move ?_); refine wo_op rfl (op_move rfl) rfl rfl ?_) | ((with_reducible refine ik_assign ?_); refine wo_op rfl (op_assign rfl) rfl rfl ?_) | ((with_reducible refine ik_box ?_); refine wo_op rfl (op_boxAgg rfl zs25 rfl) rfl rfl ?_) | ((with_reducible refine ik_load ?_); refine wo_op rfl (op_ldAgg rfl at_A Tryz.underlying25 rfl zs25 rfl rfl) rfl rfl ?_) | ((with_reducible refine ik_callv ?_); (refine wo_call rfl rfl rfl rfl (q43 _ gr_A wf_A) rfl rfl ?_; rintro _ _ ⟨⟨e1, hb1, rfl, ae⟩, hq⟩; all_goals ((try (have hqn := hq.nx)); (try simp only [H.nx_push, H.nx_set, H.nx_bump] at hqn))))) | with_reducible refine sq_norm ?_ | with_reducible refine wc_seq ?_ | with_reducible refine wc_region ?_ | with_reducible refine wc_block ?_)
  simp only [H.nx_push] at hb1
  refine wc_cut (ι := Nat) (fun e => [(3, .int .i64 W), (9, .slice (some ⟨e, 0, some 0⟩) C.length C.length), (10, .int .i64 0)]) (fun e h' => h.nx ≤ e ∧ Wf h' ∧ Grow h h' ∧ At h' e (.cells (C.map (.int .i64)) 3 1 false)) e1 (within_lk ⟨rfl, rfl, rfl, trivial⟩) ⟨by omega, wf_A, gr_A, at_A⟩ ?_
  clear q43 hb1 ae hq hw
  rintro e1 h1 ⟨z, w1, g1, ae⟩
  refine wc_loop (fun i => C.length - i) (fun i : Nat => [(3, .int .i64 W), (9, .slice (some ⟨e1, 0, some 0⟩) C.length C.length), (10, .int .i64 i)]) (fun i h' => (Wf h' ∧ Grow h h' ∧ At h' e1 (.cells ((needI C W i).map (.int .i64)) 3 1 false)) ∧ i ≤ C.length) 0 (within_lk ⟨rfl, rfl, rfl, trivial⟩) ⟨⟨w1, g1, ae⟩, Nat.zero_le _⟩ ?_
  clear w1 g1 ae
  rintro i h1 ⟨⟨w1, g1, ae⟩, hi⟩
  have le := ae.lt
  by_cases hlt : i < C.length
  · have f2 := hC.getD i
    have hln : (needI C W i).length = C.length := needI_len hi
    have hg1 := map_getI (l := needI C W i) (o := i) (by omega)
    rw [needI_getD hlt] at hg1
    have hst := map_setI (l := needI C W i) (o := i) (x := max 0 (W - C.getD i 0))
    rw [needI_step hlt] at hst
    generalize C.getD i 0 = x at f2 hg1 hst
    generalize needI C W i = P1 at ae hg1 hst hln
    repeat' (first | with_reducible refine wo_nil ?_ | ((with_reducible refine wo_any ?_); first | ((with_reducible refine ik_move ?_); refine wo_op rfl (op_move rfl) rfl rfl ?_) | ((with_reducible refine ik_assign ?_); refine wo_op rfl (op_assign rfl) rfl rfl ?_) | ((with_reducible refine ik_indexAddr ?_); refine wo_op rfl (op_idxSl (b := e1) (o := i) rfl rfl Tryz.underlying41 zs3 (by omega) (by omega) (by omega)) rfl rfl ?_) | ((with_reducible refine ik_load ?_); refine wo_op rfl (op_ldIdx (b := e1) rfl at_A Tryz.underlying3 rfl hg1) rfl rfl ?_) | ((with_reducible refine ik_store ?_); refine wo_op0 rfl (op_stIdx (b := e1) rfl rfl at_A rfl zs3 (by rw [List.length_map]; omega) rfl hst) rfl ?_) | ((with_reducible refine ik_callb ?_); first | refine wo_op rfl (op_lenSl rfl Tryz.underlying41) rfl rfl ?_ | refine wo_op rfl (op_max rfl rfl) rfl rfl ?_) | ((with_reducible refine ik_bin ?_); first | refine wo_op rfl (op_lss rfl rfl) rfl rfl ?_ | refine wo_op rfl (op_sub' rfl rfl (w64 (by omega) (by omega))) rfl rfl ?_ | refine wo_op rfl (op_add' rfl rfl (w64 (by omega) (by omega))) rfl rfl ?_)) | with_reducible refine sq_norm ?_ | with_reducible refine wc_seq ?_ | with_reducible refine wc_region ?_ | with_reducible refine wc_skip ?_ | with_reducible refine wc_block ?_ | with_reducible refine bq_norm ?_ | (refine wc_if rfl (fun hb => ?_) (fun hb => dead_A hb); (try simp only [decide_eq_true_eq, decide_eq_false_iff_not, Bool.not_eq_true', Bool.not_eq_false', Int.not_lt, Int.not_le, Decidable.not_not, not_true_eq_false, not_false_eq_true, beq_self_eq_true, reduceCtorEq] at hb)))
    exact lq_norm (i + 1) (by omega) (within_lk ⟨rfl, rfl, rfl, trivial⟩) ⟨⟨wf_A, gr_A, at_A⟩, by omega⟩
  · have hin : i = C.length := by omega
    subst hin
    have e2 : needI C W C.length = needL C W := by unfold needI; rw [List.take_length, List.drop_length, List.append_nil]
    rw [e2] at ae
    repeat' (first | with_reducible refine wo_nil ?_ | ((with_reducible refine wo_any ?_); first | ((with_reducible refine ik_move ?_); refine wo_op rfl (op_move rfl) rfl rfl ?_) | ((with_reducible refine ik_assign ?_); refine wo_op rfl (op_assign rfl) rfl rfl ?_) | ((with_reducible refine ik_callb ?_); refine wo_op rfl (op_lenSl rfl Tryz.underlying41) rfl rfl ?_) | ((with_reducible refine ik_bin ?_); refine wo_op rfl (op_lss rfl rfl) rfl rfl ?_)) | with_reducible refine sq_norm ?_ | with_reducible refine wc_seq ?_ | with_reducible refine wc_region ?_ | with_reducible refine wc_ret ?_ | with_reducible refine wc_exit ?_ | with_reducible refine sq_exit ?_ | with_reducible refine lq_exit ?_ | refine bq_eq rfl ?_ | (refine wc_if rfl (fun hb => ?_) (fun hb => ?_) <;> (try simp only [decide_eq_true_eq, decide_eq_false_iff_not, Bool.not_eq_true', Bool.not_eq_false', Int.not_lt, Int.not_le, Decidable.not_not, not_true_eq_false, not_false_eq_true, beq_self_eq_true, reduceCtorEq] at hb) <;> (try (exfalso; omega))))
    exact rq1 rfl ⟨⟨e1, z, by rw [needL_len], ae⟩, gr_A⟩
set_option maxHeartbeats 8000000 in
theorem c44 {ox oy w u p q : Int} {va v : Value} {m B N n : Nat} {cl : List Int} {ts : List LnM} {W : Int} (hW : 1 ≤ W ∧ W ≤ 1000) (g : GrOk ox oy w u p q) (hB : p * q = (B : Int)) (hB1 : 1 ≤ B) (hB2 : B ≤ 256) (hN : B * m = N) (sc : Sl G h 1 va m (cl.map (.int .i64))) (hm1 : 1 ≤ m) (hm8 : m ≤ 8) (s : SlN G h v n ts) (hn : n ≤ 32) (hok : ∀ t ∈ ts, errL t.V = 0) (hr : ∀ t ∈ ts, t.V.rf.length < 1000000) (hw : Wf h) : Cf (mz G) (.func (.func 44) #[] #[]) [.agg ⟨[.int .i64 ox, .int .i64 oy, .int .i64 w, .int .i64 u, .int .i64 p, .int .i64 q]⟩, va, v, .int .i64 W] h fun r h' => Sl G h' 1 r (gapI (needL (foldL (covV ox oy w u p q cl N (vsOf ts)) m B) W) 0).length ((gapI (needL (foldL (covV ox oy w u p q cl N (vsOf ts)) m B) W) 0).map (.int .i64)) ∧ Grow h h' := by
  have q107 := fun (h' : H) (r : Grow h h') (w' : Wf h') => c107 hW g hB hB1 hB2 hN (sc.grow r) hm1 hm8 (s.grow r) hn hok hr w'
  have hl : (needL (foldL (covV ox oy w u p q cl N (vsOf ts)) m B) W).length = B := needL_len.trans foldL_len
  generalize needL (foldL (covV ox oy w u p q cl N (vsOf ts)) m B) W = C at q107 hl ⊢
  subst hl
  clear sc s hok hr
  refine cf_enter0 33 [.tmp 8] Tryz.func44 rfl rfl rfl rfl ?_
  repeat' (first | with_reducible refine wo_nil ?_ | ((with_reducible refine wo_any ?_); first | ((with_reducible refine ik_move ?_); refine wo_op rfl (op_move rfl) rfl rfl ?_) | ((with_reducible refine ik_assign ?_); refine wo_op rfl (op_assign rfl) rfl rfl ?_) | ((with_reducible refine ik_box ?_); refine wo_op rfl (op_boxAgg rfl zs25 rfl) rfl rfl ?_) | ((with_reducible refine ik_load ?_); refine wo_op rfl (op_ldAgg rfl at_A Tryz.underlying25 rfl zs25 rfl rfl) rfl rfl ?_) | ((with_reducible refine ik_callv ?_); (refine wo_call rfl rfl rfl rfl (q107 _ gr_A wf_A) rfl rfl ?_; rintro _ _ ⟨⟨e1, hb1, rfl, ae⟩, hq⟩; all_goals ((try (have hqn := hq.nx)); (try simp only [H.nx_push, H.nx_set, H.nx_bump] at hqn))))) | with_reducible refine sq_norm ?_ | with_reducible refine wc_seq ?_ | with_reducible refine wc_region ?_ | with_reducible refine wc_block ?_)
  refine wc_cut (ι := Nat) (fun e => [(9, .slice (some ⟨e, 0, some 0⟩) C.length C.length), (10, .slice none 0 0), (11, .int .i64 0)]) (fun e h' => Wf h' ∧ Grow h h' ∧ At h' e (.cells (C.map (.int .i64)) 3 1 false)) e1 (within_lk ⟨rfl, rfl, rfl, trivial⟩) ⟨wf_A, gr_A, at_A⟩ ?_
  clear q107 hb1 ae hq hw
  rintro e1 h1 ⟨w1, g1, ae⟩
  refine wc_loop (fun p : Nat × Value => C.length - p.1) (fun p => [(9, .slice (some ⟨e1, 0, some 0⟩) C.length C.length), (10, p.2), (11, .int .i64 (p.1 : Nat))]) (fun p h' => (Wf h' ∧ Grow h h' ∧ At h' e1 (.cells (C.map (.int .i64)) 3 1 false)) ∧ p.1 ≤ C.length ∧ OuI h.nx h' p.2 (gapI (C.take p.1) 0)) (0, .slice none 0 0) (within_lk ⟨rfl, rfl, rfl, trivial⟩) ⟨⟨w1, g1, ae⟩, Nat.zero_le _, .inl ⟨rfl, rfl⟩⟩ ?_
  clear w1 g1 ae
  rintro ⟨k, v⟩ h1 ⟨⟨w1, g1, ae⟩, hk, ho⟩
  simp only at hk ho ⊢
  have le := ae.lt
  by_cases hlt : k < C.length
  · have hg1 := map_getI (l := C) (o := k) (by omega)
    have nxt := gapI_take (l := C) (k := k) (by omega)
    have hol := gapI_len (C.take k) 0
    rw [List.length_take] at hol
    generalize gapI (C.take k) 0 = out at ho nxt hol
    generalize C.getD k 0 = x at hg1 nxt
    by_cases hx : 0 < x
    · rw [if_pos hx] at nxt
      rcases ho with ⟨rfl, rfl⟩ | ⟨e, hb, rfl, hat⟩
      · repeat' (first | with_reducible refine wo_nil ?_ | ((with_reducible refine wo_any ?_); first | ((with_reducible refine ik_move ?_); refine wo_op rfl (op_move rfl) rfl rfl ?_) | ((with_reducible refine ik_assign ?_); refine wo_op rfl (op_assign rfl) rfl rfl ?_) | ((with_reducible refine ik_indexAddr ?_); refine wo_op rfl (op_idxSl (b := e1) (o := k) rfl rfl Tryz.underlying41 zs3 (by omega) (by omega) (by omega)) rfl rfl ?_) | ((with_reducible refine ik_load ?_); refine wo_op rfl (op_ldIdx (b := e1) rfl at_A Tryz.underlying3 rfl hg1) rfl rfl ?_) | ((with_reducible refine ik_callb ?_); first | refine wo_op rfl (op_append rfl rfl (append_nil_eq (M := mz G) (st := 41) (xt := 41) (m := 1) Tryz.underlying41 Tryz.underlying41 rfl zs3 zb3 zz3 rfl (Sl.ofAt at_A rfl (Nat.le_refl _)) rfl (by omega) (by omega))) rfl rfl ?_ | refine wo_op rfl (op_lenSl rfl Tryz.underlying41) rfl rfl ?_) | ((with_reducible refine ik_bin ?_); first | refine wo_op rfl (op_lss rfl rfl) rfl rfl ?_ | refine wo_op rfl (op_gtr rfl rfl) rfl rfl ?_ | refine wo_op rfl (op_add' rfl rfl (w64 (by omega) (by omega))) rfl rfl ?_) | ((with_reducible refine ik_buildSlice ?_); refine wo_op rfl (op_buildSl rfl Tryz.underlying41 zs3 zz3 rfl rfl) rfl rfl ?_)) | with_reducible refine sq_norm ?_ | with_reducible refine wc_seq ?_ | with_reducible refine wc_region ?_ | with_reducible refine wc_skip ?_ | with_reducible refine wc_block ?_ | with_reducible refine bq_norm ?_ | (refine wc_if rfl (fun hb => ?_) (fun hb => dead_A hb); (try simp only [decide_eq_true_eq, decide_eq_false_iff_not, Bool.not_eq_true', Bool.not_eq_false', Int.not_lt, Int.not_le, Decidable.not_not, not_true_eq_false, not_false_eq_true, beq_self_eq_true, reduceCtorEq] at hb)))
        exact lq_norm (k + 1, .slice (some ⟨_, 0, some 0⟩) 1 1) (by simp only; omega) (within_lk ⟨rfl, rfl, rfl, trivial⟩) ⟨⟨wf_A, gr_A, at_A⟩, by simp only; omega, by simp only; rw [nxt]; exact .inr ⟨_, by have := g1.nx; simp only [H.nx_push, H.nx_set, H.nx_bump, H.nx_kill]; omega, rfl, at_A⟩⟩
      · have l1 := hat.lt
        have ne : e ≠ e1 := fun q => by
          subst q
          have := hat.get.symm.trans ae.get
          injection this with this
          injection this with _ _ _ this
          cases this
        repeat' (first | with_reducible refine wo_nil ?_ | ((with_reducible refine wo_any ?_); first | ((with_reducible refine ik_move ?_); refine wo_op rfl (op_move rfl) rfl rfl ?_) | ((with_reducible refine ik_assign ?_); refine wo_op rfl (op_assign rfl) rfl rfl ?_) | ((with_reducible refine ik_indexAddr ?_); refine wo_op rfl (op_idxSl (b := e1) (o := k) rfl rfl Tryz.underlying41 zs3 (by omega) (by omega) (by omega)) rfl rfl ?_) | ((with_reducible refine ik_load ?_); refine wo_op rfl (op_ldIdx (b := e1) rfl at_A Tryz.underlying3 rfl hg1) rfl rfl ?_) | ((with_reducible refine ik_callb ?_); first | refine wo_op rfl (op_append rfl rfl (append_own_eq (M := mz G) (st := 41) (xt := 41) (m := 1) Tryz.underlying41 Tryz.underlying41 rfl zs3 zb3 zz3 rfl (Sl.ofAt at_A rfl (Nat.le_refl _)) rfl (b := e) (c := out.map (.int .i64)) at_A (by simp) (by omega) (by omega))) rfl rfl ?_ | refine wo_op rfl (op_lenSl rfl Tryz.underlying41) rfl rfl ?_) | ((with_reducible refine ik_bin ?_); first | refine wo_op rfl (op_lss rfl rfl) rfl rfl ?_ | refine wo_op rfl (op_gtr rfl rfl) rfl rfl ?_ | refine wo_op rfl (op_add' rfl rfl (w64 (by omega) (by omega))) rfl rfl ?_) | ((with_reducible refine ik_buildSlice ?_); refine wo_op rfl (op_buildSl rfl Tryz.underlying41 zs3 zz3 rfl rfl) rfl rfl ?_)) | with_reducible refine sq_norm ?_ | with_reducible refine wc_seq ?_ | with_reducible refine wc_region ?_ | with_reducible refine wc_skip ?_ | with_reducible refine wc_block ?_ | with_reducible refine bq_norm ?_ | (refine wc_if rfl (fun hb => ?_) (fun hb => dead_A hb); (try simp only [decide_eq_true_eq, decide_eq_false_iff_not, Bool.not_eq_true', Bool.not_eq_false', Int.not_lt, Int.not_le, Decidable.not_not, not_true_eq_false, not_false_eq_true, beq_self_eq_true, reduceCtorEq] at hb)))
        exact lq_norm (k + 1, .slice (some ⟨_, 0, some 0⟩) (out.length + 1) (out.length + 1)) (by simp only; omega) (within_lk ⟨rfl, rfl, rfl, trivial⟩) ⟨⟨wf_A, gr_A, at_A⟩, by simp only; omega, by simp only; rw [nxt]; refine .inr ⟨_, ?_, by rw [List.length_append]; rfl, by rw [List.map_append]; exact at_A⟩; have := g1.nx; simp only [H.nx_push, H.nx_set, H.nx_bump, H.nx_kill]; omega⟩
    · rw [if_neg hx, List.append_nil] at nxt
      repeat' (first | with_reducible refine wo_nil ?_ | ((with_reducible refine wo_any ?_); first | ((with_reducible refine ik_move ?_); refine wo_op rfl (op_move rfl) rfl rfl ?_) | ((with_reducible refine ik_assign ?_); refine wo_op rfl (op_assign rfl) rfl rfl ?_) | ((with_reducible refine ik_indexAddr ?_); refine wo_op rfl (op_idxSl (b := e1) (o := k) rfl rfl Tryz.underlying41 zs3 (by omega) (by omega) (by omega)) rfl rfl ?_) | ((with_reducible refine ik_load ?_); refine wo_op rfl (op_ldIdx (b := e1) rfl at_A Tryz.underlying3 rfl hg1) rfl rfl ?_) | ((with_reducible refine ik_callb ?_); refine wo_op rfl (op_lenSl rfl Tryz.underlying41) rfl rfl ?_) | ((with_reducible refine ik_bin ?_); first | refine wo_op rfl (op_lss rfl rfl) rfl rfl ?_ | refine wo_op rfl (op_gtr rfl rfl) rfl rfl ?_ | refine wo_op rfl (op_add' rfl rfl (w64 (by omega) (by omega))) rfl rfl ?_)) | with_reducible refine sq_norm ?_ | with_reducible refine wc_seq ?_ | with_reducible refine wc_region ?_ | with_reducible refine wc_skip ?_ | with_reducible refine wc_block ?_ | with_reducible refine bq_norm ?_ | (refine wc_if rfl (fun hb => dead_A hb) (fun hb => ?_); (try simp only [decide_eq_true_eq, decide_eq_false_iff_not, Bool.not_eq_true', Bool.not_eq_false', Int.not_lt, Int.not_le, Decidable.not_not, not_true_eq_false, not_false_eq_true, beq_self_eq_true, reduceCtorEq] at hb)) | (refine wc_if rfl (fun hb => ?_) (fun hb => dead_A hb); (try simp only [decide_eq_true_eq, decide_eq_false_iff_not, Bool.not_eq_true', Bool.not_eq_false', Int.not_lt, Int.not_le, Decidable.not_not, not_true_eq_false, not_false_eq_true, beq_self_eq_true, reduceCtorEq] at hb)))
      exact lq_norm (k + 1, v) (by simp only; omega) (within_lk ⟨rfl, rfl, rfl, trivial⟩) ⟨⟨wf_A, gr_A, at_A⟩, by simp only; omega, by simp only; rw [nxt]; exact ho.grow gr_A⟩
  · have hkn : k = C.length := by omega
    subst hkn
    rw [List.take_length] at ho
    repeat' (first | with_reducible refine wo_nil ?_ | ((with_reducible refine wo_any ?_); first | ((with_reducible refine ik_move ?_); refine wo_op rfl (op_move rfl) rfl rfl ?_) | ((with_reducible refine ik_assign ?_); refine wo_op rfl (op_assign rfl) rfl rfl ?_) | ((with_reducible refine ik_callb ?_); refine wo_op rfl (op_lenSl rfl Tryz.underlying41) rfl rfl ?_) | ((with_reducible refine ik_bin ?_); refine wo_op rfl (op_lss rfl rfl) rfl rfl ?_)) | with_reducible refine sq_norm ?_ | with_reducible refine wc_seq ?_ | with_reducible refine wc_region ?_ | with_reducible refine wc_ret ?_ | with_reducible refine wc_exit ?_ | with_reducible refine sq_exit ?_ | with_reducible refine lq_exit ?_ | refine bq_eq rfl ?_ | (refine wc_if rfl (fun hb => ?_) (fun hb => ?_) <;> (try simp only [decide_eq_true_eq, decide_eq_false_iff_not, Bool.not_eq_true', Bool.not_eq_false', Int.not_lt, Int.not_le, Decidable.not_not, not_true_eq_false, not_false_eq_true, beq_self_eq_true, reduceCtorEq] at hb) <;> (try (exfalso; omega))))
    exact rq1 rfl ⟨ho.sl, gr_A⟩
end Go.Proofs.YtnkmencbnoipmaaGreatDoor
