/- Cover: Coverage, Fold and Gaps by the program. -/
import Derived.Test.YtnkmencbnoipmaaGreatDoorN2
set_option linter.all false
/- Coverage, Fold and Gaps by the program. -/
namespace Go.Proofs.YtnkmencbnoipmaaGreatDoor
open Go Go.Ab Go.Fl
attribute [local irreducible] SeqQ BlkQ LpQ RetQ Wc Wo WD WX Op1 Op1q Op1a Cf Cl From
attribute [local irreducible] Ieee.Format.order Ieee.Format.read Ieee.Format.nearest Ieee.Format.write Ieee.Format.mul Ieee.Format.div Ieee.Format.sqrt Ieee.Datum.order Ieee.Datum.integral K U rngE errN cntE cmpI indE ptE plaE firstNZ numsE lnE BigP isNameB nmE ascA errL chgV chgE griE clsE clsG sqD binI covP covV hit outI plsP rowP linsE foldL
set_option maxRecDepth 10000
variable {G : Base} {h : H}

noncomputable def linsN (vs : List LnV) : Int := if 32 < vs.length then 5 else linsE vs []
noncomputable def surE (ox oy w u p q : Int) (cl : List Int) (vs : List LnV) : Int := firstNZ [griE ox oy w u p q, clsE cl, linsN vs]
theorem cls_len {cl : List Int} (h : clsE cl = 0) : 1 ≤ cl.length ∧ cl.length ≤ 8 := by
  have h0 : cntE cl.length 8 = 0 := Classical.byContradiction fun q => q ((clsE_bad rfl q).symm.trans h)
  unfold cntE at h0
  split at h0
  · cases h0
  · split at h0
    · cases h0
    · omega
theorem linsN_ok {vs : List LnV} (h : linsN vs = 0) : vs.length ≤ 32 ∧ ∀ V ∈ vs, errL V = 0 := by
  unfold linsN at h
  split at h
  · cases h
  · exact ⟨by omega, lins_ok h⟩
theorem vs_ts {ts : List LnM} (h : ∀ V ∈ vsOf ts, errL V = 0) : ∀ t ∈ ts, errL t.V = 0 := fun t ht => h t.V (by unfold vsOf; exact List.mem_map.2 ⟨t, ht, rfl⟩)
theorem vsOf_len {ts : List LnM} : (vsOf ts).length = ts.length := by unfold vsOf; rw [List.length_map]
theorem sur_in {ox oy w u p q : Int} {cl : List Int} {vs : List LnV} (h : surE ox oy w u p q cl vs = 0) : griE ox oy w u p q = 0 ∧ clsE cl = 0 ∧ linsN vs = 0 := by
  unfold surE at h
  exact ⟨firstNZ_zero h _ (by simp), firstNZ_zero h _ (by simp), firstNZ_zero h _ (by simp)⟩
theorem sur_data {ox oy w u p q : Int} {cl : List Int} {ts : List LnM} {m n : Nat} (hm : (cl.map (Value.int .i64)).length = m * 1) (hn : ts.length = n) (h : surE ox oy w u p q cl (vsOf ts) = 0) : ∃ B : Nat, GrOk ox oy w u p q ∧ p * q = (B : Int) ∧ 1 ≤ B ∧ B ≤ 256 ∧ 1 ≤ m ∧ m ≤ 8 ∧ n ≤ 32 ∧ (∀ t ∈ ts, errL t.V = 0) ∧ (p * q).toNat = B := by
  obtain ⟨h1, h2, h3⟩ := sur_in h
  have g := gri_ok h1
  obtain ⟨B, e1, e2, e3⟩ := gri_bins g
  obtain ⟨k1, k2⟩ := cls_len h2
  obtain ⟨k3, k4⟩ := linsN_ok h3
  rw [vsOf_len] at k3
  simp at hm
  exact ⟨B, g, e1, e2, e3, by omega, by omega, by omega, vs_ts k4, by omega⟩
noncomputable def covR (ox oy w u p q : Int) (cl : List Int) (vs : List LnV) : List Int := if surE ox oy w u p q cl vs = 0 then covV ox oy w u p q cl ((p * q).toNat * cl.length) vs else []
noncomputable def fldR (ox oy w u p q : Int) (cl : List Int) (vs : List LnV) : List Int := if surE ox oy w u p q cl vs = 0 then foldL (covV ox oy w u p q cl ((p * q).toNat * cl.length) vs) cl.length (p * q).toNat else []
noncomputable def wanE (ox oy w u p q : Int) (cl : List Int) (vs : List LnV) (W : Int) : Int := firstNZ [surE ox oy w u p q cl vs, rngE W 1 1000]
def needL (l : List Int) (W : Int) : List Int := l.map fun x => max 0 (W - x)
def gapI : List Int → Nat → List Int
  | [], _ => []
  | x :: l, k => if 0 < x then (k : Int) :: gapI l (k + 1) else gapI l (k + 1)
noncomputable def gapR (ox oy w u p q : Int) (cl : List Int) (vs : List LnV) (W : Int) : List Int := if wanE ox oy w u p q cl vs W = 0 then gapI (needL (fldR ox oy w u p q cl vs) W) 0 else []
theorem c99 {ox oy w u p q : Int} {va v : Value} {m n : Nat} {cl : List Int} {ts : List LnM} (sc : Sl G h 1 va m (cl.map (.int .i64))) (hm : m < 1000000) (s : SlN G h v n ts) (hn : n < 1000000) (hr : ∀ t ∈ ts, t.V.rf.length < 1000000) (hw : Wf h) (hG : ∀ a v, laidBase a = some v → G a = some v) : Cf (mz G) (.func (.func 99) #[] #[]) [.agg ⟨[.int .i64 ox, .int .i64 oy, .int .i64 w, .int .i64 u, .int .i64 p, .int .i64 q]⟩, va, v] h fun r h' => r = .int .i64 (surE ox oy w u p q cl (vsOf ts)) ∧ Grow h h' := by
  have q11 := fun (h' : H) (w' : Wf h') => c11 (G := G) (h := h') (a := ox) (b := oy) (w := w) (u := u) (p := p) (q := q) w'
  have q109 := fun (h' : H) (r : Grow h h') => c109 (sc.grow r) hm
  have q13 := fun (h' : H) (r : Grow h h') (w' : Wf h') => c13 (s.grow r) hn hr w' hG
  rw [show (if 32 < n then (5 : Int) else linsE (vsOf ts) []) = linsN (vsOf ts) by unfold linsN; rw [vsOf_len, s.len]] at q13
  have qf := fun (h' : H) (v : Value) (s : Sl G h' 1 v 3 ([griE ox oy w u p q, clsE cl, linsN (vsOf ts)].map (.int .i64))) => c63 s (by omega)
  rw [show firstNZ [griE ox oy w u p q, clsE cl, linsN (vsOf ts)] = surE ox oy w u p q cl (vsOf ts) from rfl] at qf
  generalize surE ox oy w u p q cl (vsOf ts) = E at qf ⊢
  refine cf_enter0 15 [.tmp 6] Tryz.func99 rfl rfl rfl rfl ?_
  repeat' (first | with_reducible refine wo_nil ?_ | ((with_reducible refine wo_any ?_); first | ((with_reducible refine ik_move ?_); refine wo_op rfl (op_move rfl) rfl rfl ?_) | ((with_reducible refine ik_assign ?_); refine wo_op rfl (op_assign rfl) rfl rfl ?_) | ((with_reducible refine ik_box ?_); refine wo_op rfl (op_boxAgg rfl zs32 rfl) rfl rfl ?_) | ((with_reducible refine ik_load ?_); refine wo_op rfl (op_ldAgg rfl at_A Tryz.underlying32 rfl zs32 rfl rfl) rfl rfl ?_) | ((with_reducible refine ik_buildSlice ?_); refine wo_op rfl (op_buildSl rfl Tryz.underlying185 zs30 zz30 rfl rfl) rfl rfl ?_) | ((with_reducible refine ik_callv ?_); first | refine wo_op rfl (op_call rfl rfl (q109 _ gr_A)) rfl rfl ?_ | refine wo_op rfl (op_call rfl rfl (qf _ _ (Sl.ofAt (show At _ _ (.cells [.int .i64 (griE ox oy w u p q), .int .i64 (clsE cl), .int .i64 (linsN (vsOf ts))] 30 1 false) from at_A) rfl (Nat.le_refl _)))) rfl rfl ?_ | (refine wo_call rfl rfl rfl rfl (q11 _ wf_A) rfl rfl ?_; rintro _ _ ⟨rfl, hq⟩; all_goals ((try (have hqn := hq.nx)); (try simp only [H.nx_push, H.nx_set, H.nx_bump] at hqn))) | (refine wo_call rfl rfl rfl rfl (q13 _ gr_A wf_A) rfl rfl ?_; rintro _ _ ⟨rfl, hq⟩; all_goals ((try (have hqn := hq.nx)); (try simp only [H.nx_push, H.nx_set, H.nx_bump] at hqn))))) | with_reducible refine sq_norm ?_ | with_reducible refine wc_seq ?_ | with_reducible refine wc_region ?_ | with_reducible refine wc_ret ?_)
  exact rq1 rfl ⟨rfl, gr_A⟩
set_option maxHeartbeats 4000000 in
theorem c38 {ox oy w u p q : Int} {va v : Value} {m n : Nat} {cl : List Int} {ts : List LnM} (sc : Sl G h 1 va m (cl.map (.int .i64))) (hm : m < 1000000) (s : SlN G h v n ts) (hn : n < 1000000) (hr : ∀ t ∈ ts, t.V.rf.length < 1000000) (hw : Wf h) (hG : ∀ a v, laidBase a = some v → G a = some v) : Cf (mz G) (.func (.func 38) #[] #[]) [.agg ⟨[.int .i64 ox, .int .i64 oy, .int .i64 w, .int .i64 u, .int .i64 p, .int .i64 q]⟩, va, v] h fun r h' => (∃ x, r = .tuple #[x, .int .i64 (surE ox oy w u p q cl (vsOf ts))] ∧ Sl G h' 1 x (fldR ox oy w u p q cl (vsOf ts)).length ((fldR ox oy w u p q cl (vsOf ts)).map (.int .i64))) ∧ Grow h h' := by
  have q99 := fun (h' : H) (r : Grow h h') (w' : Wf h') => c99 (ox := ox) (oy := oy) (w := w) (u := u) (p := p) (q := q) (sc.grow r) hm (s.grow r) hn hr w' hG
  unfold fldR
  by_cases hz : surE ox oy w u p q cl (vsOf ts) = 0
  · obtain ⟨B, g, hB, hB1, hB2, hm1, hm8, hn32, hok, e⟩ := sur_data sc.length s.len hz
    rw [if_pos hz, e]
    have q100 := fun (h' : H) (r : Grow h h') (w' : Wf h') => c101 g hB hB1 hB2 (N := B * m) rfl (sc.grow r) hm1 hm8 (s.grow r) hn32 hok hr w'
    rw [hz] at q99 ⊢
    have hcl := sc.length
    simp at hcl
    rw [hcl]
    refine cf_enter0 20 [.tmp 6, .tmp 7] Tryz.func38 rfl rfl rfl rfl ?_
    repeat' (first | with_reducible refine wo_nil ?_ | ((with_reducible refine wo_any ?_); first | ((with_reducible refine ik_move ?_); refine wo_op rfl (op_move rfl) rfl rfl ?_) | ((with_reducible refine ik_assign ?_); refine wo_op rfl (op_assign rfl) rfl rfl ?_) | ((with_reducible refine ik_box ?_); refine wo_op rfl (op_boxAgg rfl zs32 rfl) rfl rfl ?_) | ((with_reducible refine ik_load ?_); refine wo_op rfl (op_ldAgg rfl at_A Tryz.underlying32 rfl zs32 rfl rfl) rfl rfl ?_) | ((with_reducible refine ik_bin ?_); refine wo_op rfl (op_neq rfl rfl) rfl rfl ?_) | ((with_reducible refine ik_callv ?_); first | (refine wo_call rfl rfl rfl rfl (q99 _ gr_A wf_A) rfl rfl ?_; rintro _ _ ⟨rfl, hq⟩; all_goals ((try (have hqn := hq.nx)); (try simp only [H.nx_push, H.nx_set, H.nx_bump] at hqn))) | (refine wo_call rfl rfl rfl rfl (q100 _ gr_A wf_A) rfl rfl ?_; rintro _ _ ⟨ho, hq⟩; all_goals ((try (have hqn := hq.nx)); (try simp only [H.nx_push, H.nx_set, H.nx_bump] at hqn))))) | with_reducible refine sq_norm ?_ | with_reducible refine wc_seq ?_ | with_reducible refine wc_region ?_ | with_reducible refine wc_skip ?_ | with_reducible refine wc_ret ?_ | refine wc_iff rfl ?_)
    exact rq2 rfl rfl ⟨⟨_, rfl, ho.sl⟩, gr_A⟩
  · rw [if_neg hz]
    generalize surE ox oy w u p q cl (vsOf ts) = E at q99 hz ⊢
    refine cf_enter0 20 [.tmp 6, .tmp 7] Tryz.func38 rfl rfl rfl rfl ?_
    repeat' (first | with_reducible refine wo_nil ?_ | ((with_reducible refine wo_any ?_); first | ((with_reducible refine ik_move ?_); refine wo_op rfl (op_move rfl) rfl rfl ?_) | ((with_reducible refine ik_assign ?_); refine wo_op rfl (op_assign rfl) rfl rfl ?_) | ((with_reducible refine ik_box ?_); refine wo_op rfl (op_boxAgg rfl zs32 rfl) rfl rfl ?_) | ((with_reducible refine ik_load ?_); refine wo_op rfl (op_ldAgg rfl at_A Tryz.underlying32 rfl zs32 rfl rfl) rfl rfl ?_) | ((with_reducible refine ik_bin ?_); refine wo_op rfl (op_neq rfl rfl) rfl rfl ?_) | ((with_reducible refine ik_callv ?_); (refine wo_call rfl rfl rfl rfl (q99 _ gr_A wf_A) rfl rfl ?_; rintro _ _ ⟨rfl, hq⟩; all_goals ((try (have hqn := hq.nx)); (try simp only [H.nx_push, H.nx_set, H.nx_bump] at hqn))))) | with_reducible refine sq_norm ?_ | with_reducible refine wc_seq ?_ | with_reducible refine wc_region ?_ | with_reducible refine wc_ret ?_ | with_reducible refine sq_ret ?_ | (refine wc_if rfl (fun hb => ?_) (fun hb => dead_A hb); (try simp only [decide_eq_true_eq, decide_eq_false_iff_not, Bool.not_eq_true', Bool.not_eq_false', Int.not_lt, Int.not_le, Decidable.not_not, not_true_eq_false, not_false_eq_true, beq_self_eq_true, reduceCtorEq] at hb)))
    exact rq2 rfl rfl ⟨⟨_, rfl, .nil⟩, gr_A⟩
end Go.Proofs.YtnkmencbnoipmaaGreatDoor

/- Gaps by the program. -/
namespace Go.Proofs.YtnkmencbnoipmaaGreatDoor
open Go Go.Ab Go.Fl
attribute [local irreducible] SeqQ BlkQ LpQ RetQ Wc Wo WD WX Op1 Op1q Op1a Cf Cl From
attribute [local irreducible] Ieee.Format.order Ieee.Format.read Ieee.Format.nearest Ieee.Format.write Ieee.Format.mul Ieee.Format.div Ieee.Format.sqrt Ieee.Datum.order Ieee.Datum.integral K U rngE errN cntE cmpI indE ptE plaE firstNZ numsE lnE BigP isNameB nmE ascA errL chgV chgE griE clsE clsG sqD binI covP covV hit outI plsP rowP linsE foldL surE
set_option maxRecDepth 10000
variable {G : Base} {h : H}

/-- A list of numbers that grows. -/
def OuI (lo : Nat) (h : H) (v : Value) (l : List Int) : Prop := (v = .slice none 0 0 ∧ l = []) ∨ ∃ e, lo ≤ e ∧ v = .slice (some ⟨e, 0, some 0⟩) l.length l.length ∧ At h e (.cells (l.map (.int .i64)) 3 1 true)
theorem OuI.sl {lo : Nat} {h : H} {v : Value} {l : List Int} (o : OuI lo h v l) : Sl G h 1 v l.length (l.map (.int .i64)) := by
  rcases o with ⟨rfl, rfl⟩ | ⟨e, _, rfl, a⟩
  · exact .nil
  · exact Sl.ofAt a (by simp) (Nat.le_refl _)
theorem OuI.grow {lo : Nat} {h h' : H} {v : Value} {l : List Int} (o : OuI lo h v l) (g : Grow h h') : OuI lo h' v l := by
  rcases o with o | ⟨e, h1, h2, a⟩
  · exact .inl o
  · exact .inr ⟨e, h1, h2, a.grow g⟩
theorem gapR_data {ox oy w u p q W : Int} {cl : List Int} {vs : List LnV} (h : wanE ox oy w u p q cl vs W = 0) : surE ox oy w u p q cl vs = 0 ∧ 1 ≤ W ∧ W ≤ 1000 := by
  unfold wanE at h
  exact ⟨firstNZ_zero h _ (by simp), rng_ok (firstNZ_zero h _ (by simp))⟩
end Go.Proofs.YtnkmencbnoipmaaGreatDoor
