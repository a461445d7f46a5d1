/- Cover: Coverage, Fold and Gaps by the program. -/
import Derived.Test.YtnkmencbnoipmaaGreatDoorN2
set_option linter.all false
/- Coverage, Fold and Gaps by the program. -/
namespace Go.Proofs.YtnkmencbnoipmaaGreatDoor
open Go Go.Ab Go.Fl
attribute [local irreducible] SeqQ BlkQ LpQ RetQ Wc Wo WD WX Op1 Op1q Op1a Cf Cl From
attribute [local irreducible] Ieee.Format.order Ieee.Format.read Ieee.Format.nearest Ieee.Format.write Ieee.Format.mul Ieee.Format.div Ieee.Format.sqrt Ieee.Datum.order Ieee.Datum.integral K U rngE errN cntE cmpI indE ptE plaE firstNZ numsE lnE BigP isNameB nmE ascA errL chgV chgE griE clsE clsG sqD binI covP covV hit outI plsP rowP linsE foldL
set_option maxRecDepth 10000
variable {G : Base} {h : H}

noncomputable def linsN (vs : List LnV) : Int := if 32 < vs.length then 5 else linsE vs []
noncomputable def surE (ox oy w u p q : Int) (cl : List Int) (vs : List LnV) : Int := firstNZ [griE ox oy w u p q, clsE cl, linsN vs]
theorem cls_len {cl : List Int} (h : clsE cl = 0) : 1 ≤ cl.length ∧ cl.length ≤ 8 := by
  have h0 : cntE cl.length 8 = 0 := Classical.byContradiction fun q => q ((clsE_bad rfl q).symm.trans h)
  unfold cntE at h0
  split at h0
  · cases h0
  · split at h0
    · cases h0
    · omega
theorem linsN_ok {vs : List LnV} (h : linsN vs = 0) : vs.length ≤ 32 ∧ ∀ V ∈ vs, errL V = 0 := by
  unfold linsN at h
  split at h
  · cases h
  · exact ⟨by omega, lins_ok h⟩
theorem vs_ts {ts : List LnM} (h : ∀ V ∈ vsOf ts, errL V = 0) : ∀ t ∈ ts, errL t.V = 0 := fun t ht => h t.V (by unfold vsOf; exact List.mem_map.2 ⟨t, ht, rfl⟩)
theorem vsOf_len {ts : List LnM} : (vsOf ts).length = ts.length := by unfold vsOf; rw [List.length_map]
theorem sur_in {ox oy w u p q : Int} {cl : List Int} {vs : List LnV} (h : surE ox oy w u p q cl vs = 0) : griE ox oy w u p q = 0 ∧ clsE cl = 0 ∧ linsN vs = 0 := by
  unfold surE at h
  exact ⟨firstNZ_zero h _ (by simp), firstNZ_zero h _ (by simp), firstNZ_zero h _ (by simp)⟩
theorem sur_data {ox oy w u p q : Int} {cl : List Int} {ts : List LnM} {m n : Nat} (hm : (cl.map (Value.int .i64)).length = m * 1) (hn : ts.length = n) (h : surE ox oy w u p q cl (vsOf ts) = 0) : ∃ B : Nat, GrOk ox oy w u p q ∧ p * q = (B : Int) ∧ 1 ≤ B ∧ B ≤ 256 ∧ 1 ≤ m ∧ m ≤ 8 ∧ n ≤ 32 ∧ (∀ t ∈ ts, errL t.V = 0) ∧ (p * q).toNat = B := by
  obtain ⟨h1, h2, h3⟩ := sur_in h
  have g := gri_ok h1
  obtain ⟨B, e1, e2, e3⟩ := gri_bins g
  obtain ⟨k1, k2⟩ := cls_len h2
  obtain ⟨k3, k4⟩ := linsN_ok h3
  rw [vsOf_len] at k3
  simp at hm
  exact ⟨B, g, e1, e2, e3, by omega, by omega, by omega, vs_ts k4, by omega⟩
noncomputable def covR (ox oy w u p q : Int) (cl : List Int) (vs : List LnV) : List Int := if surE ox oy w u p q cl vs = 0 then covV ox oy w u p q cl ((p * q).toNat * cl.length) vs else []
noncomputable def fldR (ox oy w u p q : Int) (cl : List Int) (vs : List LnV) : List Int := if surE ox oy w u p q cl vs = 0 then foldL (covV ox oy w u p q cl ((p * q).toNat * cl.length) vs) cl.length (p * q).toNat else []
noncomputable def wanE (ox oy w u p q : Int) (cl : List Int) (vs : List LnV) (W : Int) : Int := firstNZ [surE ox oy w u p q cl vs, rngE W 1 1000]
def needL (l : List Int) (W : Int) : List Int := l.map fun x => max 0 (W - x)
def gapI : List Int → Nat → List Int
  | [], _ => []
  | x :: l, k => if 0 < x then (k : Int) :: gapI l (k + 1) else gapI l (k + 1)
noncomputable def gapR (ox oy w u p q : Int) (cl : List Int) (vs : List LnV) (W : Int) : List Int := if wanE ox oy w u p q cl vs W = 0 then gapI (needL (fldR ox oy w u p q cl vs) W) 0 else []
theorem gapI_snoc : ∀ (l : List Int) (x : Int) (k : Nat), gapI (l ++ [x]) k = gapI l k ++ (if 0 < x then [((k + l.length : Nat) : Int)] else [])
  | [], x, k => by
    show gapI [x] k = [] ++ _
    unfold gapI
    split <;> simp [gapI]
  | y :: l, x, k => by
    have ih := gapI_snoc l x (k + 1)
    rw [List.cons_append, gapI, gapI, ih, show k + 1 + l.length = k + (y :: l).length by simp only [List.length_cons]; omega]
    split <;> simp
theorem gapI_take {l : List Int} {k : Nat} (h : k < l.length) : gapI (l.take (k + 1)) 0 = gapI (l.take k) 0 ++ (if 0 < l.getD k 0 then [(k : Int)] else []) := by
  rw [List.take_succ_eq_append_getElem h, gapI_snoc, getElem_getD h, List.length_take, Nat.min_eq_left (by omega), Nat.zero_add]
theorem gapI_len : ∀ (l : List Int) (k : Nat), (gapI l k).length ≤ l.length
  | [], k => by simp [gapI]
  | x :: l, k => by
    have := gapI_len l (k + 1)
    unfold gapI
    split <;> (simp only [List.length_cons]; omega)
theorem c99 {ox oy w u p q : Int} {va v : Value} {m n : Nat} {cl : List Int} {ts : List LnM} (sc : Sl G h 1 va m (cl.map (.int .i64))) (hm : m < 1000000) (s : SlN G h v n ts) (hn : n < 1000000) (hr : ∀ t ∈ ts, t.V.rf.length < 1000000) (hw : Wf h) (hG : ∀ a v, laidBase a = some v → G a = some v) : Cf (mz G) (.func (.func 99) #[] #[]) [.agg ⟨[.int .i64 ox, .int .i64 oy, .int .i64 w, .int .i64 u, .int .i64 p, .int .i64 q]⟩, va, v] h fun r h' => r = .int .i64 (surE ox oy w u p q cl (vsOf ts)) ∧ Grow h h' := by
  have q11 := fun (h' : H) (w' : Wf h') => c11 (G := G) (h := h') (a := ox) (b := oy) (w := w) (u := u) (p := p) (q := q) w'
  have q109 := fun (h' : H) (r : Grow h h') => c109 (sc.grow r) hm
  have q13 := fun (h' : H) (r : Grow h h') (w' : Wf h') => c13 (s.grow r) hn hr w' hG
  rw [show (if 32 < n then (5 : Int) else linsE (vsOf ts) []) = linsN (vsOf ts) by unfold linsN; rw [vsOf_len, s.len]] at q13
  have qf := fun (h' : H) (v : Value) (s : Sl G h' 1 v 3 ([griE ox oy w u p q, clsE cl, linsN (vsOf ts)].map (.int .i64))) => c63 s (by omega)
  rw [show firstNZ [griE ox oy w u p q, clsE cl, linsN (vsOf ts)] = surE ox oy w u p q cl (vsOf ts) from rfl] at qf
  generalize surE ox oy w u p q cl (vsOf ts) = E at qf ⊢
  refine cf_enter0 15 [.tmp 6] Tryz.func99 rfl rfl rfl rfl ?_
  repeat' (first | with_reducible refine wo_nil ?_ | ((with_reducible refine wo_any ?_); first | ((with_reducible refine ik_move ?_); refine wo_op rfl (op_move rfl) rfl rfl ?_) | ((with_reducible refine ik_assign ?_); refine wo_op rfl (op_assign rfl) rfl rfl ?_) | ((with_reducible refine ik_box ?_); refine wo_op rfl (op_boxAgg rfl zs32 rfl) rfl rfl ?_) | ((with_reducible refine ik_load ?_); refine wo_op rfl (op_ldAgg rfl at_A Tryz.underlying32 rfl zs32 rfl rfl) rfl rfl ?_) | ((with_reducible refine ik_buildSlice ?_); refine wo_op rfl (op_buildSl rfl Tryz.underlying185 zs30 zz30 rfl rfl) rfl rfl ?_) | ((with_reducible refine ik_callv ?_); first | refine wo_op rfl (op_call rfl rfl (q109 _ gr_A)) rfl rfl ?_ | refine wo_op rfl (op_call rfl rfl (qf _ _ (Sl.ofAt (show At _ _ (.cells [.int .i64 (griE ox oy w u p q), .int .i64 (clsE cl), .int .i64 (linsN (vsOf ts))] 30 1 false) from at_A) rfl (Nat.le_refl _)))) rfl rfl ?_ | (refine wo_call rfl rfl rfl rfl (q11 _ wf_A) rfl rfl ?_; rintro _ _ ⟨rfl, hq⟩; all_goals ((try (have hqn := hq.nx)); (try simp only [H.nx_push, H.nx_set, H.nx_bump] at hqn))) | (refine wo_call rfl rfl rfl rfl (q13 _ gr_A wf_A) rfl rfl ?_; rintro _ _ ⟨rfl, hq⟩; all_goals ((try (have hqn := hq.nx)); (try simp only [H.nx_push, H.nx_set, H.nx_bump] at hqn))))) | with_reducible refine sq_norm ?_ | with_reducible refine wc_seq ?_ | with_reducible refine wc_region ?_ | with_reducible refine wc_ret ?_)
  exact rq1 rfl ⟨rfl, gr_A⟩
theorem c102 (W : Int) : Cl (mz G) (.func (.func 102) #[] #[]) [.int .i64 W] h (.int .i64 (rngE W 1 1000)) h := by
  refine cl_of_cf (cf_enter0 5 [.tmp 2] Tryz.func102 rfl rfl rfl rfl ?_)
  repeat' (first | with_reducible refine wo_nil ?_ | ((with_reducible refine wo_any ?_); first | ((with_reducible refine ik_move ?_); refine wo_op rfl (op_move rfl) rfl rfl ?_) | ((with_reducible refine ik_assign ?_); refine wo_op rfl (op_assign rfl) rfl rfl ?_) | ((with_reducible refine ik_callF (f := 65) ?_); refine wo_op rfl (op_call rfl rfl (c65 _ _ _)) rfl rfl ?_)) | with_reducible refine sq_norm ?_ | with_reducible refine wc_seq ?_ | with_reducible refine wc_region ?_ | with_reducible refine wc_ret ?_)
  exact rq1 rfl ⟨rfl, rfl⟩
set_option maxHeartbeats 4000000 in
theorem c36 {ox oy w u p q : Int} {va v : Value} {m n : Nat} {cl : List Int} {ts : List LnM} (sc : Sl G h 1 va m (cl.map (.int .i64))) (hm : m < 1000000) (s : SlN G h v n ts) (hn : n < 1000000) (hr : ∀ t ∈ ts, t.V.rf.length < 1000000) (hw : Wf h) (hG : ∀ a v, laidBase a = some v → G a = some v) : Cf (mz G) (.func (.func 36) #[] #[]) [.agg ⟨[.int .i64 ox, .int .i64 oy, .int .i64 w, .int .i64 u, .int .i64 p, .int .i64 q]⟩, va, v] h fun r h' => (∃ x, r = .tuple #[x, .int .i64 (surE ox oy w u p q cl (vsOf ts))] ∧ Sl G h' 1 x (covR ox oy w u p q cl (vsOf ts)).length ((covR ox oy w u p q cl (vsOf ts)).map (.int .i64))) ∧ Grow h h' := by
  have q99 := fun (h' : H) (r : Grow h h') (w' : Wf h') => c99 (ox := ox) (oy := oy) (w := w) (u := u) (p := p) (q := q) (sc.grow r) hm (s.grow r) hn hr w' hG
  unfold covR
  by_cases hz : surE ox oy w u p q cl (vsOf ts) = 0
  · obtain ⟨B, g, hB, hB1, hB2, hm1, hm8, hn32, hok, e⟩ := sur_data sc.length s.len hz
    rw [if_pos hz, e]
    have q100 := fun (h' : H) (r : Grow h h') (w' : Wf h') => c100 g hB hB1 hB2 (N := B * m) rfl (sc.grow r) hm1 hm8 (s.grow r) hn32 hok hr w'
    rw [hz] at q99 ⊢
    have hcl := sc.length
    simp at hcl
    rw [hcl]
    refine cf_enter0 20 [.tmp 6, .tmp 7] Tryz.func36 rfl rfl rfl rfl ?_
    repeat' (first | with_reducible refine wo_nil ?_ | ((with_reducible refine wo_any ?_); first | ((with_reducible refine ik_move ?_); refine wo_op rfl (op_move rfl) rfl rfl ?_) | ((with_reducible refine ik_assign ?_); refine wo_op rfl (op_assign rfl) rfl rfl ?_) | ((with_reducible refine ik_box ?_); refine wo_op rfl (op_boxAgg rfl zs32 rfl) rfl rfl ?_) | ((with_reducible refine ik_load ?_); refine wo_op rfl (op_ldAgg rfl at_A Tryz.underlying32 rfl zs32 rfl rfl) rfl rfl ?_) | ((with_reducible refine ik_bin ?_); refine wo_op rfl (op_neq rfl rfl) rfl rfl ?_) | ((with_reducible refine ik_callv ?_); first | (refine wo_call rfl rfl rfl rfl (q99 _ gr_A wf_A) rfl rfl ?_; rintro _ _ ⟨rfl, hq⟩; all_goals ((try (have hqn := hq.nx)); (try simp only [H.nx_push, H.nx_set, H.nx_bump] at hqn))) | (refine wo_call rfl rfl rfl rfl (q100 _ gr_A wf_A) rfl rfl ?_; rintro _ _ ⟨ho, hq⟩; all_goals ((try (have hqn := hq.nx)); (try simp only [H.nx_push, H.nx_set, H.nx_bump] at hqn))))) | with_reducible refine sq_norm ?_ | with_reducible refine wc_seq ?_ | with_reducible refine wc_region ?_ | with_reducible refine wc_skip ?_ | with_reducible refine wc_ret ?_ | refine wc_iff rfl ?_)
    exact rq2 rfl rfl ⟨⟨_, rfl, ho.sl⟩, gr_A⟩
  · rw [if_neg hz]
    generalize surE ox oy w u p q cl (vsOf ts) = E at q99 hz ⊢
    refine cf_enter0 20 [.tmp 6, .tmp 7] Tryz.func36 rfl rfl rfl rfl ?_
    repeat' (first | with_reducible refine wo_nil ?_ | ((with_reducible refine wo_any ?_); first | ((with_reducible refine ik_move ?_); refine wo_op rfl (op_move rfl) rfl rfl ?_) | ((with_reducible refine ik_assign ?_); refine wo_op rfl (op_assign rfl) rfl rfl ?_) | ((with_reducible refine ik_box ?_); refine wo_op rfl (op_boxAgg rfl zs32 rfl) rfl rfl ?_) | ((with_reducible refine ik_load ?_); refine wo_op rfl (op_ldAgg rfl at_A Tryz.underlying32 rfl zs32 rfl rfl) rfl rfl ?_) | ((with_reducible refine ik_bin ?_); refine wo_op rfl (op_neq rfl rfl) rfl rfl ?_) | ((with_reducible refine ik_callv ?_); (refine wo_call rfl rfl rfl rfl (q99 _ gr_A wf_A) rfl rfl ?_; rintro _ _ ⟨rfl, hq⟩; all_goals ((try (have hqn := hq.nx)); (try simp only [H.nx_push, H.nx_set, H.nx_bump] at hqn))))) | with_reducible refine sq_norm ?_ | with_reducible refine wc_seq ?_ | with_reducible refine wc_region ?_ | with_reducible refine wc_ret ?_ | with_reducible refine sq_ret ?_ | (refine wc_if rfl (fun hb => ?_) (fun hb => dead_A hb); (try simp only [decide_eq_true_eq, decide_eq_false_iff_not, Bool.not_eq_true', Bool.not_eq_false', Int.not_lt, Int.not_le, Decidable.not_not, not_true_eq_false, not_false_eq_true, beq_self_eq_true, reduceCtorEq] at hb)))
    exact rq2 rfl rfl ⟨⟨_, rfl, .nil⟩, gr_A⟩
set_option maxHeartbeats 4000000 in
theorem c38 {ox oy w u p q : Int} {va v : Value} {m n : Nat} {cl : List Int} {ts : List LnM} (sc : Sl G h 1 va m (cl.map (.int .i64))) (hm : m < 1000000) (s : SlN G h v n ts) (hn : n < 1000000) (hr : ∀ t ∈ ts, t.V.rf.length < 1000000) (hw : Wf h) (hG : ∀ a v, laidBase a = some v → G a = some v) : Cf (mz G) (.func (.func 38) #[] #[]) [.agg ⟨[.int .i64 ox, .int .i64 oy, .int .i64 w, .int .i64 u, .int .i64 p, .int .i64 q]⟩, va, v] h fun r h' => (∃ x, r = .tuple #[x, .int .i64 (surE ox oy w u p q cl (vsOf ts))] ∧ Sl G h' 1 x (fldR ox oy w u p q cl (vsOf ts)).length ((fldR ox oy w u p q cl (vsOf ts)).map (.int .i64))) ∧ Grow h h' := by
  have q99 := fun (h' : H) (r : Grow h h') (w' : Wf h') => c99 (ox := ox) (oy := oy) (w := w) (u := u) (p := p) (q := q) (sc.grow r) hm (s.grow r) hn hr w' hG
  unfold fldR
  by_cases hz : surE ox oy w u p q cl (vsOf ts) = 0
  · obtain ⟨B, g, hB, hB1, hB2, hm1, hm8, hn32, hok, e⟩ := sur_data sc.length s.len hz
    rw [if_pos hz, e]
    have q100 := fun (h' : H) (r : Grow h h') (w' : Wf h') => c101 g hB hB1 hB2 (N := B * m) rfl (sc.grow r) hm1 hm8 (s.grow r) hn32 hok hr w'
    rw [hz] at q99 ⊢
    have hcl := sc.length
    simp at hcl
    rw [hcl]
    refine cf_enter0 20 [.tmp 6, .tmp 7] Tryz.func38 rfl rfl rfl rfl ?_
    repeat' (first | with_reducible refine wo_nil ?_ | ((with_reducible refine wo_any ?_); first | ((with_reducible refine ik_move ?_); refine wo_op rfl (op_move rfl) rfl rfl ?_) | ((with_reducible refine ik_assign ?_); refine wo_op rfl (op_assign rfl) rfl rfl ?_) | ((with_reducible refine ik_box ?_); refine wo_op rfl (op_boxAgg rfl zs32 rfl) rfl rfl ?_) | ((with_reducible refine ik_load ?_); refine wo_op rfl (op_ldAgg rfl at_A Tryz.underlying32 rfl zs32 rfl rfl) rfl rfl ?_) | ((with_reducible refine ik_bin ?_); refine wo_op rfl (op_neq rfl rfl) rfl rfl ?_) | ((with_reducible refine ik_callv ?_); first | (refine wo_call rfl rfl rfl rfl (q99 _ gr_A wf_A) rfl rfl ?_; rintro _ _ ⟨rfl, hq⟩; all_goals ((try (have hqn := hq.nx)); (try simp only [H.nx_push, H.nx_set, H.nx_bump] at hqn))) | (refine wo_call rfl rfl rfl rfl (q100 _ gr_A wf_A) rfl rfl ?_; rintro _ _ ⟨ho, hq⟩; all_goals ((try (have hqn := hq.nx)); (try simp only [H.nx_push, H.nx_set, H.nx_bump] at hqn))))) | with_reducible refine sq_norm ?_ | with_reducible refine wc_seq ?_ | with_reducible refine wc_region ?_ | with_reducible refine wc_skip ?_ | with_reducible refine wc_ret ?_ | refine wc_iff rfl ?_)
    exact rq2 rfl rfl ⟨⟨_, rfl, ho.sl⟩, gr_A⟩
  · rw [if_neg hz]
    generalize surE ox oy w u p q cl (vsOf ts) = E at q99 hz ⊢
    refine cf_enter0 20 [.tmp 6, .tmp 7] Tryz.func38 rfl rfl rfl rfl ?_
    repeat' (first | with_reducible refine wo_nil ?_ | ((with_reducible refine wo_any ?_); first | ((with_reducible refine ik_move ?_); refine wo_op rfl (op_move rfl) rfl rfl ?_) | ((with_reducible refine ik_assign ?_); refine wo_op rfl (op_assign rfl) rfl rfl ?_) | ((with_reducible refine ik_box ?_); refine wo_op rfl (op_boxAgg rfl zs32 rfl) rfl rfl ?_) | ((with_reducible refine ik_load ?_); refine wo_op rfl (op_ldAgg rfl at_A Tryz.underlying32 rfl zs32 rfl rfl) rfl rfl ?_) | ((with_reducible refine ik_bin ?_); refine wo_op rfl (op_neq rfl rfl) rfl rfl ?_) | ((with_reducible refine ik_callv ?_); (refine wo_call rfl rfl rfl rfl (q99 _ gr_A wf_A) rfl rfl ?_; rintro _ _ ⟨rfl, hq⟩; all_goals ((try (have hqn := hq.nx)); (try simp only [H.nx_push, H.nx_set, H.nx_bump] at hqn))))) | with_reducible refine sq_norm ?_ | with_reducible refine wc_seq ?_ | with_reducible refine wc_region ?_ | with_reducible refine wc_ret ?_ | with_reducible refine sq_ret ?_ | (refine wc_if rfl (fun hb => ?_) (fun hb => dead_A hb); (try simp only [decide_eq_true_eq, decide_eq_false_iff_not, Bool.not_eq_true', Bool.not_eq_false', Int.not_lt, Int.not_le, Decidable.not_not, not_true_eq_false, not_false_eq_true, beq_self_eq_true, reduceCtorEq] at hb)))
    exact rq2 rfl rfl ⟨⟨_, rfl, .nil⟩, gr_A⟩
theorem c141 {b : Nat} {x W : Int} (at1 : At h b (.cells [.int .i64 W] 3 1 false)) (hW : 1 ≤ W ∧ W ≤ 1000) (hx : 0 ≤ x ∧ x ≤ 1000000) : Cl (mz G) (.func (.func 141) #[] #[.pointer (some ⟨b, 0, some 0⟩)]) [.int .i64 x] h (.int .i64 (max 0 (W - x))) h := by
  refine cl_of_cf (cf_enter (sz := 8) (rs := [.tmp 3]) (all := [.int .i64 x, .pointer (some ⟨b, 0, some 0⟩)]) Tryz.func141 rfl rfl rfl rfl rfl ?_)
  repeat' (first | with_reducible refine wo_nil ?_ | ((with_reducible refine wo_any ?_); first | ((with_reducible refine ik_move ?_); refine wo_op rfl (op_move rfl) rfl rfl ?_) | ((with_reducible refine ik_assign ?_); refine wo_op rfl (op_assign rfl) rfl rfl ?_) | ((with_reducible refine ik_load ?_); refine wo_op rfl (op_ldAt rfl at_A Tryz.underlying3 rfl rfl) rfl rfl ?_) | ((with_reducible refine ik_bin ?_); refine wo_op rfl (op_sub' rfl rfl (w64 (by omega) (by omega))) rfl rfl ?_) | ((with_reducible refine ik_callb ?_); refine wo_op rfl (op_max rfl rfl) rfl rfl ?_)) | with_reducible refine sq_norm ?_ | with_reducible refine wc_seq ?_ | with_reducible refine wc_region ?_ | with_reducible refine wc_ret ?_)
  exact rq1 rfl ⟨rfl, rfl⟩
end Go.Proofs.YtnkmencbnoipmaaGreatDoor

/- Gaps by the program. -/
namespace Go.Proofs.YtnkmencbnoipmaaGreatDoor
open Go Go.Ab Go.Fl
attribute [local irreducible] SeqQ BlkQ LpQ RetQ Wc Wo WD WX Op1 Op1q Op1a Cf Cl From
attribute [local irreducible] Ieee.Format.order Ieee.Format.read Ieee.Format.nearest Ieee.Format.write Ieee.Format.mul Ieee.Format.div Ieee.Format.sqrt Ieee.Datum.order Ieee.Datum.integral K U rngE errN cntE cmpI indE ptE plaE firstNZ numsE lnE BigP isNameB nmE ascA errL chgV chgE griE clsE clsG sqD binI covP covV hit outI plsP rowP linsE foldL surE
set_option maxRecDepth 10000
variable {G : Base} {h : H}

theorem foldL_in {l : List Int} {m B M : Nat} (h : AllIn M l) : AllIn (M * m) (foldL l m B) := fun x hx => by
  obtain ⟨i, hi, rfl⟩ := List.getElem_of_mem hx
  rw [getElem_getD hi]
  rw [foldL_len] at hi
  rw [foldL_get hi]
  have := fsum_in (m := m) (b := i) h m
  rw [Int.natCast_mul]
  exact this
theorem covV_in' {ox oy w u p q : Int} {cl : List Int} {N n : Nat} {ts : List LnM} (hok : ∀ t ∈ ts, errL t.V = 0) (hl : ts.length = n) (hn : n ≤ 32) : AllIn 32768 (covV ox oy w u p q cl N (vsOf ts)) :=
  (covV_in (fun V hV => by
    unfold vsOf at hV
    obtain ⟨t, ht, rfl⟩ := List.mem_map.1 hV
    exact hok t ht)).le (by rw [vsOf_len]; omega)
theorem needL_len {l : List Int} {W : Int} : (needL l W).length = l.length := by simp [needL]
theorem c103 {ox oy w u p q : Int} {va v : Value} {m B N n : Nat} {cl : List Int} {ts : List LnM} {W : Int} (hW : 1 ≤ W ∧ W ≤ 1000) (g : GrOk ox oy w u p q) (hB : p * q = (B : Int)) (hB1 : 1 ≤ B) (hB2 : B ≤ 256) (hN : B * m = N) (sc : Sl G h 1 va m (cl.map (.int .i64))) (hm1 : 1 ≤ m) (hm8 : m ≤ 8) (s : SlN G h v n ts) (hn : n ≤ 32) (hok : ∀ t ∈ ts, errL t.V = 0) (hr : ∀ t ∈ ts, t.V.rf.length < 1000000) (hw : Wf h) : Cf (mz G) (.func (.func 103) #[] #[]) [.agg ⟨[.int .i64 ox, .int .i64 oy, .int .i64 w, .int .i64 u, .int .i64 p, .int .i64 q]⟩, va, v, .int .i64 W] h fun r h' => OwI h.nx h' r (needL (foldL (covV ox oy w u p q cl N (vsOf ts)) m B) W) ∧ Grow h h' := by
  have q101 := fun (h' : H) (r : Grow h h') (w' : Wf h') => c101 g hB hB1 hB2 hN (sc.grow r) hm1 hm8 (s.grow r) hn hok hr w'
  have hC := foldL_in (m := m) (B := B) (covV_in' (ox := ox) (oy := oy) (w := w) (u := u) (p := p) (q := q) (cl := cl) (N := N) hok s.len hn)
  have hC := hC.le (K := 1000000) (by omega)
  have hl : (foldL (covV ox oy w u p q cl N (vsOf ts)) m B).length = B := foldL_len
  generalize foldL (covV ox oy w u p q cl N (vsOf ts)) m B = C at q101 hC hl ⊢
  have q89 := fun (h' : H) (b : Nat) (x : Value) (at1 : At h' b (.cells [.int .i64 W] 3 1 false)) (sx : Sl G h' 1 x C.length (C.map (.int .i64))) (w' : Wf h') => c89 (f := .func (.func 141) #[] #[.pointer (some ⟨b, 0, some 0⟩)]) (fun x => max 0 (W - x)) sx (by omega) w' (fun h2 y gr hy => c141 (at1.grow gr) hW (by have := hC y hy; omega))
  refine cf_enter0 15 [.tmp 8] Tryz.func103 rfl rfl rfl rfl ?_
  repeat' (first | with_reducible refine wo_nil ?_ | ((with_reducible refine wo_any ?_); first | ((with_reducible refine ik_move ?_); refine wo_op rfl (op_move rfl) rfl rfl ?_) | ((with_reducible refine ik_assign ?_); refine wo_op rfl (op_assign rfl) rfl rfl ?_) | ((with_reducible refine ik_makeFunc ?_); refine wo_op rfl (op_makeFunc (fun _ q => by cases q) rfl rfl) rfl rfl ?_) | ((with_reducible refine ik_box ?_); first | refine wo_op rfl (op_boxAgg rfl zs32 rfl) rfl rfl ?_ | refine wo_op rfl (op_box1 rfl rfl zs3) rfl rfl ?_) | ((with_reducible refine ik_load ?_); refine wo_op rfl (op_ldAgg rfl at_A Tryz.underlying32 rfl zs32 rfl rfl) rfl rfl ?_) | ((with_reducible refine ik_callv ?_); first | (refine wo_call rfl rfl rfl rfl (q101 _ gr_A wf_A) rfl rfl ?_; rintro _ _ ⟨ho, hq⟩; all_goals ((try (have hqn := hq.nx)); (try simp only [H.nx_push, H.nx_set, H.nx_bump] at hqn))) | (refine wo_call rfl rfl rfl rfl (q89 _ _ _ at_A ho.sl wf_A) rfl rfl ?_; rintro _ _ ⟨rfl, ha, hq, hqx⟩; all_goals ((try (have hqn := hq.nx)); (try simp only [H.nx_push, H.nx_set, H.nx_bump] at hqn))))) | with_reducible refine sq_norm ?_ | with_reducible refine wc_seq ?_ | with_reducible refine wc_region ?_ | with_reducible refine wc_ret ?_)
  exact rq1 rfl ⟨⟨_, by omega, by unfold needL; rw [List.length_map], ha⟩, gr_A⟩
/-- A list of numbers that grows. -/
def OuI (lo : Nat) (h : H) (v : Value) (l : List Int) : Prop := (v = .slice none 0 0 ∧ l = []) ∨ ∃ e, lo ≤ e ∧ v = .slice (some ⟨e, 0, some 0⟩) l.length l.length ∧ At h e (.cells (l.map (.int .i64)) 3 1 true)
theorem OuI.sl {lo : Nat} {h : H} {v : Value} {l : List Int} (o : OuI lo h v l) : Sl G h 1 v l.length (l.map (.int .i64)) := by
  rcases o with ⟨rfl, rfl⟩ | ⟨e, _, rfl, a⟩
  · exact .nil
  · exact Sl.ofAt a (by simp) (Nat.le_refl _)
theorem OuI.grow {lo : Nat} {h h' : H} {v : Value} {l : List Int} (o : OuI lo h v l) (g : Grow h h') : OuI lo h' v l := by
  rcases o with o | ⟨e, h1, h2, a⟩
  · exact .inl o
  · exact .inr ⟨e, h1, h2, a.grow g⟩
theorem gapR_data {ox oy w u p q W : Int} {cl : List Int} {vs : List LnV} (h : wanE ox oy w u p q cl vs W = 0) : surE ox oy w u p q cl vs = 0 ∧ 1 ≤ W ∧ W ≤ 1000 := by
  unfold wanE at h
  exact ⟨firstNZ_zero h _ (by simp), rng_ok (firstNZ_zero h _ (by simp))⟩
set_option maxHeartbeats 8000000 in
theorem c39 {ox oy w u p q : Int} {va v : Value} {m n : Nat} {cl : List Int} {ts : List LnM} {W : Int} (sc : Sl G h 1 va m (cl.map (.int .i64))) (hm : m < 1000000) (s : SlN G h v n ts) (hn : n < 1000000) (hr : ∀ t ∈ ts, t.V.rf.length < 1000000) (hw : Wf h) (hG : ∀ a v, laidBase a = some v → G a = some v) : Cf (mz G) (.func (.func 39) #[] #[]) [.agg ⟨[.int .i64 ox, .int .i64 oy, .int .i64 w, .int .i64 u, .int .i64 p, .int .i64 q]⟩, va, v, .int .i64 W] h fun r h' => (∃ x, r = .tuple #[x, .int .i64 (wanE ox oy w u p q cl (vsOf ts) W)] ∧ Sl G h' 1 x (gapR ox oy w u p q cl (vsOf ts) W).length ((gapR ox oy w u p q cl (vsOf ts) W).map (.int .i64))) ∧ Grow h h' := by
  have q99 := fun (h' : H) (r : Grow h h') (w' : Wf h') => c99 (ox := ox) (oy := oy) (w := w) (u := u) (p := p) (q := q) (sc.grow r) hm (s.grow r) hn hr w' hG
  have q102 := fun (h' : H) => c102 (G := G) (h := h') W
  have qf := fun (h' : H) (v : Value) (s : Sl G h' 1 v 2 ([surE ox oy w u p q cl (vsOf ts), rngE W 1 1000].map (.int .i64))) => c63 s (by omega)
  rw [show firstNZ [surE ox oy w u p q cl (vsOf ts), rngE W 1 1000] = wanE ox oy w u p q cl (vsOf ts) W from rfl] at qf
  unfold gapR
  by_cases hz : wanE ox oy w u p q cl (vsOf ts) W = 0
  · obtain ⟨hz', hW⟩ := gapR_data hz
    obtain ⟨B, g, hB, hB1, hB2, hm1, hm8, hn32, hok, e⟩ := sur_data sc.length s.len hz'
    have hcl := sc.length
    simp at hcl
    rw [if_pos hz]
    unfold fldR
    rw [if_pos hz', e, hcl]
    have q103 := fun (h' : H) (r : Grow h h') (w' : Wf h') => c103 (N := B * m) hW g hB hB1 hB2 rfl (sc.grow r) hm1 hm8 (s.grow r) hn32 hok hr w'
    rw [hz] at qf ⊢
    have hl : (needL (foldL (covV ox oy w u p q cl (B * m) (vsOf ts)) m B) W).length = B := needL_len.trans foldL_len
    generalize needL (foldL (covV ox oy w u p q cl (B * m) (vsOf ts)) m B) W = C at q103 hl ⊢
    clear sc s hr hok hG
    refine cf_enter0 44 [.tmp 8, .tmp 9] Tryz.func39 rfl rfl rfl rfl ?_
    repeat' (first | with_reducible refine wo_nil ?_ | ((with_reducible refine wo_any ?_); first | ((with_reducible refine ik_move ?_); refine wo_op rfl (op_move rfl) rfl rfl ?_) | ((with_reducible refine ik_assign ?_); refine wo_op rfl (op_assign rfl) rfl rfl ?_) | ((with_reducible refine ik_box ?_); refine wo_op rfl (op_boxAgg rfl zs32 rfl) rfl rfl ?_) | ((with_reducible refine ik_load ?_); refine wo_op rfl (op_ldAgg rfl at_A Tryz.underlying32 rfl zs32 rfl rfl) rfl rfl ?_) | ((with_reducible refine ik_buildSlice ?_); refine wo_op rfl (op_buildSl rfl Tryz.underlying185 zs30 zz30 rfl rfl) rfl rfl ?_) | ((with_reducible refine ik_bin ?_); refine wo_op rfl (op_neq rfl rfl) rfl rfl ?_) | ((with_reducible refine ik_callb ?_); refine wo_op rfl (op_lenSl rfl Tryz.underlying41) rfl rfl ?_) | ((with_reducible refine ik_callv ?_); first | refine wo_op rfl (op_call rfl rfl (q102 _)) rfl rfl ?_ | refine wo_op rfl (op_call rfl rfl (qf _ _ (Sl.ofAt (show At _ _ (.cells [.int .i64 (surE ox oy w u p q cl (vsOf ts)), .int .i64 (rngE W 1 1000)] 30 1 false) from at_A) rfl (Nat.le_refl _)))) rfl rfl ?_ | (refine wo_call rfl rfl rfl rfl (q99 _ gr_A wf_A) rfl rfl ?_; rintro _ _ ⟨rfl, hq⟩; all_goals ((try (have hqn := hq.nx)); (try simp only [H.nx_push, H.nx_set, H.nx_bump] at hqn))) | (refine wo_call rfl rfl rfl rfl (q103 _ gr_A wf_A) rfl rfl ?_; rintro _ _ ⟨⟨e1, hb1, rfl, ae⟩, hq⟩; all_goals ((try (have hqn := hq.nx)); (try simp only [H.nx_push, H.nx_set, H.nx_bump] at hqn))))) | with_reducible refine sq_norm ?_ | with_reducible refine wc_seq ?_ | with_reducible refine wc_region ?_ | with_reducible refine wc_skip ?_ | with_reducible refine wc_block ?_ | refine wc_iff rfl ?_)
    rw [hl]
    refine wc_cut (ι := Nat) (fun e => [(11, .slice none 0 0), (29, .slice (some ⟨e, 0, some 0⟩) B B), (30, .int .i64 B), (31, .int .i64 0)]) (fun e h' => Wf h' ∧ Grow h h' ∧ At h' e (.cells (C.map (.int .i64)) 3 1 false)) e1 (within_lk ⟨rfl, rfl, rfl, rfl, trivial⟩) ⟨wf_A, gr_A, at_A⟩ ?_
    clear q99 q102 qf q103 hb1 ae hq hw
    rintro e1 h1 ⟨w1, g1, ae⟩
    refine wc_loop (fun p : Nat × Value => B - p.1) (fun p => [(11, p.2), (29, .slice (some ⟨e1, 0, some 0⟩) B B), (30, .int .i64 B), (31, .int .i64 (p.1 : Nat))]) (fun p h' => (Wf h' ∧ Grow h h' ∧ At h' e1 (.cells (C.map (.int .i64)) 3 1 false)) ∧ p.1 ≤ B ∧ OuI h.nx h' p.2 (gapI (C.take p.1) 0)) (0, .slice none 0 0) (within_lk ⟨rfl, rfl, rfl, rfl, trivial⟩) ⟨⟨w1, g1, ae⟩, Nat.zero_le _, .inl ⟨rfl, rfl⟩⟩ ?_
    clear w1 g1 ae
    rintro ⟨k, v⟩ h1 ⟨⟨w1, g1, ae⟩, hk, ho⟩
    simp only at hk ho ⊢
    have le := ae.lt
    by_cases hlt : k < B
    · have hg1 := map_getI (l := C) (o := k) (by omega)
      have nxt := gapI_take (l := C) (k := k) (by omega)
      have hol := gapI_len (C.take k) 0
      rw [List.length_take] at hol
      generalize gapI (C.take k) 0 = out at ho nxt hol
      generalize C.getD k 0 = x at hg1 nxt
      by_cases hx : 0 < x
      · rw [if_pos hx] at nxt
        rcases ho with ⟨rfl, rfl⟩ | ⟨e, hb, rfl, hat⟩
        · repeat' (first | with_reducible refine wo_nil ?_ | ((with_reducible refine wo_any ?_); first | ((with_reducible refine ik_move ?_); refine wo_op rfl (op_move rfl) rfl rfl ?_) | ((with_reducible refine ik_assign ?_); refine wo_op rfl (op_assign rfl) rfl rfl ?_) | ((with_reducible refine ik_indexAddr ?_); refine wo_op rfl (op_idxSl (b := e1) (o := k) rfl rfl Tryz.underlying41 zs3 (by omega) (by omega) (by omega)) rfl rfl ?_) | ((with_reducible refine ik_load ?_); refine wo_op rfl (op_ldIdx (b := e1) rfl at_A Tryz.underlying3 rfl hg1) rfl rfl ?_) | ((with_reducible refine ik_callb ?_); refine wo_op rfl (op_append rfl rfl (append_nil_eq (M := mz G) (st := 41) (xt := 41) (m := 1) Tryz.underlying41 Tryz.underlying41 rfl zs3 zb3 zz3 rfl (Sl.ofAt at_A rfl (Nat.le_refl _)) rfl (by omega) (by omega))) rfl rfl ?_) | ((with_reducible refine ik_buildSlice ?_); refine wo_op rfl (op_buildSl rfl Tryz.underlying41 zs3 zz3 rfl rfl) rfl rfl ?_) | ((with_reducible refine ik_bin ?_); first | refine wo_op rfl (op_lss rfl rfl) rfl rfl ?_ | refine wo_op rfl (op_gtr rfl rfl) rfl rfl ?_ | refine wo_op rfl (op_add' rfl rfl (w64 (by omega) (by omega))) rfl rfl ?_)) | with_reducible refine sq_norm ?_ | with_reducible refine wc_seq ?_ | with_reducible refine wc_region ?_ | with_reducible refine wc_skip ?_ | with_reducible refine wc_block ?_ | with_reducible refine bq_norm ?_ | (refine wc_if rfl (fun hb => ?_) (fun hb => dead_A hb); (try simp only [decide_eq_true_eq, decide_eq_false_iff_not, Bool.not_eq_true', Bool.not_eq_false', Int.not_lt, Int.not_le, Decidable.not_not, not_true_eq_false, not_false_eq_true, beq_self_eq_true, reduceCtorEq] at hb)))
          exact lq_norm (k + 1, .slice (some ⟨_, 0, some 0⟩) 1 1) (by simp only; omega) (within_lk ⟨rfl, rfl, rfl, rfl, trivial⟩) ⟨⟨wf_A, gr_A, at_A⟩, by simp only; omega, by simp only; rw [nxt]; exact .inr ⟨_, by have := g1.nx; simp only [H.nx_push, H.nx_set, H.nx_bump, H.nx_kill]; omega, rfl, at_A⟩⟩
        · have l1 := hat.lt
          have ne : e ≠ e1 := fun q => by
            subst q
            have := hat.get.symm.trans ae.get
            injection this with this
            injection this with _ _ _ this
            cases this
          repeat' (first | with_reducible refine wo_nil ?_ | ((with_reducible refine wo_any ?_); first | ((with_reducible refine ik_move ?_); refine wo_op rfl (op_move rfl) rfl rfl ?_) | ((with_reducible refine ik_assign ?_); refine wo_op rfl (op_assign rfl) rfl rfl ?_) | ((with_reducible refine ik_indexAddr ?_); refine wo_op rfl (op_idxSl (b := e1) (o := k) rfl rfl Tryz.underlying41 zs3 (by omega) (by omega) (by omega)) rfl rfl ?_) | ((with_reducible refine ik_load ?_); refine wo_op rfl (op_ldIdx (b := e1) rfl at_A Tryz.underlying3 rfl hg1) rfl rfl ?_) | ((with_reducible refine ik_callb ?_); refine wo_op rfl (op_append rfl rfl (append_own_eq (M := mz G) (st := 41) (xt := 41) (m := 1) Tryz.underlying41 Tryz.underlying41 rfl zs3 zb3 zz3 rfl (Sl.ofAt at_A rfl (Nat.le_refl _)) rfl (b := e) (c := out.map (.int .i64)) at_A (by simp) (by omega) (by omega))) rfl rfl ?_) | ((with_reducible refine ik_buildSlice ?_); refine wo_op rfl (op_buildSl rfl Tryz.underlying41 zs3 zz3 rfl rfl) rfl rfl ?_) | ((with_reducible refine ik_bin ?_); first | refine wo_op rfl (op_lss rfl rfl) rfl rfl ?_ | refine wo_op rfl (op_gtr rfl rfl) rfl rfl ?_ | refine wo_op rfl (op_add' rfl rfl (w64 (by omega) (by omega))) rfl rfl ?_)) | with_reducible refine sq_norm ?_ | with_reducible refine wc_seq ?_ | with_reducible refine wc_region ?_ | with_reducible refine wc_skip ?_ | with_reducible refine wc_block ?_ | with_reducible refine bq_norm ?_ | (refine wc_if rfl (fun hb => ?_) (fun hb => dead_A hb); (try simp only [decide_eq_true_eq, decide_eq_false_iff_not, Bool.not_eq_true', Bool.not_eq_false', Int.not_lt, Int.not_le, Decidable.not_not, not_true_eq_false, not_false_eq_true, beq_self_eq_true, reduceCtorEq] at hb)))
          exact lq_norm (k + 1, .slice (some ⟨_, 0, some 0⟩) (out.length + 1) (out.length + 1)) (by simp only; omega) (within_lk ⟨rfl, rfl, rfl, rfl, trivial⟩) ⟨⟨wf_A, gr_A, at_A⟩, by simp only; omega, by simp only; rw [nxt]; refine .inr ⟨_, ?_, by rw [List.length_append]; rfl, by rw [List.map_append]; exact at_A⟩; have := g1.nx; simp only [H.nx_push, H.nx_set, H.nx_bump, H.nx_kill]; omega⟩
      · rw [if_neg hx, List.append_nil] at nxt
        repeat' (first | with_reducible refine wo_nil ?_ | ((with_reducible refine wo_any ?_); first | ((with_reducible refine ik_move ?_); refine wo_op rfl (op_move rfl) rfl rfl ?_) | ((with_reducible refine ik_assign ?_); refine wo_op rfl (op_assign rfl) rfl rfl ?_) | ((with_reducible refine ik_indexAddr ?_); refine wo_op rfl (op_idxSl (b := e1) (o := k) rfl rfl Tryz.underlying41 zs3 (by omega) (by omega) (by omega)) rfl rfl ?_) | ((with_reducible refine ik_load ?_); refine wo_op rfl (op_ldIdx (b := e1) rfl at_A Tryz.underlying3 rfl hg1) rfl rfl ?_) | ((with_reducible refine ik_bin ?_); first | refine wo_op rfl (op_lss rfl rfl) rfl rfl ?_ | refine wo_op rfl (op_gtr rfl rfl) rfl rfl ?_ | refine wo_op rfl (op_add' rfl rfl (w64 (by omega) (by omega))) rfl rfl ?_)) | with_reducible refine sq_norm ?_ | with_reducible refine wc_seq ?_ | with_reducible refine wc_region ?_ | with_reducible refine wc_skip ?_ | with_reducible refine wc_block ?_ | with_reducible refine bq_norm ?_ | (refine wc_if rfl (fun hb => dead_A hb) (fun hb => ?_); (try simp only [decide_eq_true_eq, decide_eq_false_iff_not, Bool.not_eq_true', Bool.not_eq_false', Int.not_lt, Int.not_le, Decidable.not_not, not_true_eq_false, not_false_eq_true, beq_self_eq_true, reduceCtorEq] at hb)) | (refine wc_if rfl (fun hb => ?_) (fun hb => dead_A hb); (try simp only [decide_eq_true_eq, decide_eq_false_iff_not, Bool.not_eq_true', Bool.not_eq_false', Int.not_lt, Int.not_le, Decidable.not_not, not_true_eq_false, not_false_eq_true, beq_self_eq_true, reduceCtorEq] at hb)))
        exact lq_norm (k + 1, v) (by simp only; omega) (within_lk ⟨rfl, rfl, rfl, rfl, trivial⟩) ⟨⟨wf_A, gr_A, at_A⟩, by simp only; omega, by simp only; rw [nxt]; exact ho.grow gr_A⟩
    · have hkn : k = B := by omega
      subst hkn
      rw [List.take_of_length_le (by omega)] at ho
      repeat' (first | with_reducible refine wo_nil ?_ | ((with_reducible refine wo_any ?_); first | ((with_reducible refine ik_move ?_); refine wo_op rfl (op_move rfl) rfl rfl ?_) | ((with_reducible refine ik_assign ?_); refine wo_op rfl (op_assign rfl) rfl rfl ?_) | ((with_reducible refine ik_bin ?_); refine wo_op rfl (op_lss rfl rfl) rfl rfl ?_)) | with_reducible refine sq_norm ?_ | with_reducible refine wc_seq ?_ | with_reducible refine wc_region ?_ | with_reducible refine wc_ret ?_ | with_reducible refine wc_exit ?_ | with_reducible refine sq_exit ?_ | with_reducible refine lq_exit ?_ | refine bq_eq rfl ?_ | (refine wc_if rfl (fun hb => ?_) (fun hb => ?_) <;> (try simp only [decide_eq_true_eq, decide_eq_false_iff_not, Bool.not_eq_true', Bool.not_eq_false', Int.not_lt, Int.not_le, Decidable.not_not, not_true_eq_false, not_false_eq_true, beq_self_eq_true, reduceCtorEq] at hb) <;> (try (exfalso; omega))))
      exact rq2 rfl rfl ⟨⟨_, rfl, ho.sl⟩, gr_A⟩
  · rw [if_neg hz]
    generalize wanE ox oy w u p q cl (vsOf ts) W = E at qf hz ⊢
    refine cf_enter0 44 [.tmp 8, .tmp 9] Tryz.func39 rfl rfl rfl rfl ?_
    repeat' (first | with_reducible refine wo_nil ?_ | ((with_reducible refine wo_any ?_); first | ((with_reducible refine ik_move ?_); refine wo_op rfl (op_move rfl) rfl rfl ?_) | ((with_reducible refine ik_assign ?_); refine wo_op rfl (op_assign rfl) rfl rfl ?_) | ((with_reducible refine ik_box ?_); refine wo_op rfl (op_boxAgg rfl zs32 rfl) rfl rfl ?_) | ((with_reducible refine ik_load ?_); refine wo_op rfl (op_ldAgg rfl at_A Tryz.underlying32 rfl zs32 rfl rfl) rfl rfl ?_) | ((with_reducible refine ik_buildSlice ?_); refine wo_op rfl (op_buildSl rfl Tryz.underlying185 zs30 zz30 rfl rfl) rfl rfl ?_) | ((with_reducible refine ik_bin ?_); refine wo_op rfl (op_neq rfl rfl) rfl rfl ?_) | ((with_reducible refine ik_callv ?_); first | refine wo_op rfl (op_call rfl rfl (q102 _)) rfl rfl ?_ | refine wo_op rfl (op_call rfl rfl (qf _ _ (Sl.ofAt (show At _ _ (.cells [.int .i64 (surE ox oy w u p q cl (vsOf ts)), .int .i64 (rngE W 1 1000)] 30 1 false) from at_A) rfl (Nat.le_refl _)))) rfl rfl ?_ | (refine wo_call rfl rfl rfl rfl (q99 _ gr_A wf_A) rfl rfl ?_; rintro _ _ ⟨rfl, hq⟩; all_goals ((try (have hqn := hq.nx)); (try simp only [H.nx_push, H.nx_set, H.nx_bump] at hqn))))) | with_reducible refine sq_norm ?_ | with_reducible refine wc_seq ?_ | with_reducible refine wc_region ?_ | with_reducible refine wc_ret ?_ | with_reducible refine sq_ret ?_ | (refine wc_if rfl (fun hb => ?_) (fun hb => dead_A hb); (try simp only [decide_eq_true_eq, decide_eq_false_iff_not, Bool.not_eq_true', Bool.not_eq_false', Int.not_lt, Int.not_le, Decidable.not_not, not_true_eq_false, not_false_eq_true, beq_self_eq_true, reduceCtorEq] at hb)))
    exact rq2 rfl rfl ⟨⟨_, rfl, .nil⟩, gr_A⟩
end Go.Proofs.YtnkmencbnoipmaaGreatDoor
