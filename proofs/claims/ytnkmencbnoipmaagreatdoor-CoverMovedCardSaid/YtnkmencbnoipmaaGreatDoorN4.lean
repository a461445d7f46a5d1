/- Cover: the errors of a survey, the coverage by the reference. -/
import Derived.Test.YtnkmencbnoipmaaGreatDoorN3
import Derived.Test.YtnkmencbnoipmaaGreatDoorN1
import Derived.Test.YtnkmencbnoipmaaGreatDoorM1
import Derived.Test.YtnkmencbnoipmaaGreatDoorM2
set_option linter.all false
/- The survey's errors and the coverage by the reference. -/
namespace Go.Proofs.YtnkmencbnoipmaaGreatDoor
open Go Go.Ab Go.Fl
attribute [local irreducible] SeqQ BlkQ LpQ RetQ Wc Wo WD WX Op1 Op1q Op1a Cf Cl From
attribute [local irreducible] Ieee.Format.order Ieee.Format.read Ieee.Format.nearest Ieee.Format.write Ieee.Format.mul Ieee.Format.div Ieee.Format.sqrt Ieee.Datum.order Ieee.Datum.integral K U rngE errN cntE cmpI indE ptE plaE firstNZ numsE lnE BigP isNameB nmE ascA errL chgV chgE griE clsE clsG sqD binI covP covV hit outI plsP rowP linsE foldL surE
set_option maxRecDepth 10000
variable {G : Base} {h : H}

theorem c40 {ox oy w u p q : Int} {va v : Value} {m n : Nat} {cl : List Int} {ts : List LnM} (sc : Sl G h 1 va m (cl.map (.int .i64))) (hm : m < 1000000) (s : SlN G h v n ts) (hn : n < 1000000) (hr : ∀ t ∈ ts, t.V.rf.length < 1000000) (hnm : ∀ t ∈ ts, t.V.nm.size ≤ 1000000) (hw : Wf h) (hG : ∀ a v, laidBase a = some v → G a = some v) : Cf (mz G) (.func (.func 40) #[] #[]) [.agg ⟨[.int .i64 ox, .int .i64 oy, .int .i64 w, .int .i64 u, .int .i64 p, .int .i64 q]⟩, va, v] h fun r h' => r = .int .i64 (surE ox oy w u p q cl (vsOf ts)) ∧ Grow h h' := by
  have q11 := fun (h' : H) (w' : Wf h') => c12 (G := G) (h := h') (a := ox) (b := oy) (w := w) (u := u) (p := p) (q := q) w'
  have q109 := fun (h' : H) (r : Grow h h') (w' : Wf h') => c104 (sc.grow r) hm w'
  have q13 := fun (h' : H) (r : Grow h h') (w' : Wf h') => c15 (s.grow r) hn hr hnm w' hG
  rw [show (if 32 < n then (5 : Int) else linsE (vsOf ts) []) = linsN (vsOf ts) by unfold linsN; rw [vsOf_len, s.len]] at q13
  have qf := fun (h' : H) (v : Value) (s : Sl G h' 1 v 3 ([griE ox oy w u p q, clsE cl, linsN (vsOf ts)].map (.int .i64))) => c66 s (by omega)
  rw [show firstNZ [griE ox oy w u p q, clsE cl, linsN (vsOf ts)] = surE ox oy w u p q cl (vsOf ts) by unfold surE; rfl] at qf
  generalize surE ox oy w u p q cl (vsOf ts) = E at qf ⊢
  refine cf_enter0 15 [.tmp 6] Tryz.func40 rfl rfl rfl rfl ?_
  repeat' (first | with_reducible refine wo_nil ?_ | ((with_reducible refine wo_any ?_); first | ((with_reducible refine ik_move ?_); refine wo_op rfl (op_move rfl) rfl rfl ?_) | ((with_reducible refine ik_assign ?_); refine wo_op rfl (op_assign rfl) rfl rfl ?_) | ((with_reducible refine ik_box ?_); refine wo_op rfl (op_boxAgg rfl zs25 rfl) rfl rfl ?_) | ((with_reducible refine ik_load ?_); refine wo_op rfl (op_ldAgg rfl at_A Tryz.underlying25 rfl zs25 rfl rfl) rfl rfl ?_) | ((with_reducible refine ik_buildSlice ?_); refine wo_op rfl (op_buildSl rfl Tryz.underlying41 zs3 zz3 rfl rfl) rfl rfl ?_) | ((with_reducible refine ik_callv ?_); first | refine wo_op rfl (op_call rfl rfl (qf _ _ (Sl.ofAt (show At _ _ (.cells [.int .i64 (griE ox oy w u p q), .int .i64 (clsE cl), .int .i64 (linsN (vsOf ts))] 3 1 false) from at_A) rfl (Nat.le_refl _)))) rfl rfl ?_ | (refine wo_call rfl rfl rfl rfl (q11 _ wf_A) rfl rfl ?_; rintro _ _ ⟨rfl, hq⟩; all_goals ((try (have hqn := hq.nx)); (try simp only [H.nx_push, H.nx_set, H.nx_bump] at hqn))) | (refine wo_call rfl rfl rfl rfl (q109 _ gr_A wf_A) rfl rfl ?_; rintro _ _ ⟨rfl, hq⟩; all_goals ((try (have hqn := hq.nx)); (try simp only [H.nx_push, H.nx_set, H.nx_bump] at hqn))) | (refine wo_call rfl rfl rfl rfl (q13 _ gr_A wf_A) rfl rfl ?_; rintro _ _ ⟨rfl, hq⟩; all_goals ((try (have hqn := hq.nx)); (try simp only [H.nx_push, H.nx_set, H.nx_bump] at hqn))))) | with_reducible refine sq_norm ?_ | with_reducible refine wc_seq ?_ | with_reducible refine wc_region ?_ | with_reducible refine wc_ret ?_)
  exact rq1 rfl ⟨rfl, gr_A⟩
theorem c41 {ox oy w u p q : Int} {va v : Value} {m n : Nat} {cl : List Int} {ts : List LnM} {W : Int} (sc : Sl G h 1 va m (cl.map (.int .i64))) (hm : m < 1000000) (s : SlN G h v n ts) (hn : n < 1000000) (hr : ∀ t ∈ ts, t.V.rf.length < 1000000) (hnm : ∀ t ∈ ts, t.V.nm.size ≤ 1000000) (hw : Wf h) (hG : ∀ a v, laidBase a = some v → G a = some v) : Cf (mz G) (.func (.func 41) #[] #[]) [.agg ⟨[.int .i64 ox, .int .i64 oy, .int .i64 w, .int .i64 u, .int .i64 p, .int .i64 q]⟩, va, v, .int .i64 W] h fun r h' => r = .int .i64 (wanE ox oy w u p q cl (vsOf ts) W) ∧ Grow h h' := by
  have q40 := fun (h' : H) (r : Grow h h') (w' : Wf h') => c40 (ox := ox) (oy := oy) (w := w) (u := u) (p := p) (q := q) (sc.grow r) hm (s.grow r) hn hr hnm w' hG
  have qf := fun (h' : H) (v : Value) (s : Sl G h' 1 v 2 ([surE ox oy w u p q cl (vsOf ts), rngE W 1 1000].map (.int .i64))) => c66 s (by omega)
  rw [show firstNZ [surE ox oy w u p q cl (vsOf ts), rngE W 1 1000] = wanE ox oy w u p q cl (vsOf ts) W from rfl] at qf
  refine cf_enter0 17 [.tmp 8] Tryz.func41 rfl rfl rfl rfl ?_
  repeat' (first | with_reducible refine wo_nil ?_ | ((with_reducible refine wo_any ?_); first | ((with_reducible refine ik_move ?_); refine wo_op rfl (op_move rfl) rfl rfl ?_) | ((with_reducible refine ik_assign ?_); refine wo_op rfl (op_assign rfl) rfl rfl ?_) | ((with_reducible refine ik_box ?_); refine wo_op rfl (op_boxAgg rfl zs25 rfl) rfl rfl ?_) | ((with_reducible refine ik_load ?_); refine wo_op rfl (op_ldAgg rfl at_A Tryz.underlying25 rfl zs25 rfl rfl) rfl rfl ?_) | ((with_reducible refine ik_buildSlice ?_); refine wo_op rfl (op_buildSl rfl Tryz.underlying41 zs3 zz3 rfl rfl) rfl rfl ?_) | ((with_reducible refine ik_callF (f := 68) ?_); refine wo_op rfl (op_call rfl rfl (c68 _ _ _)) rfl rfl ?_) | ((with_reducible refine ik_callv ?_); first | refine wo_op rfl (op_call rfl rfl (qf _ _ (Sl.ofAt (show At _ _ (.cells [.int .i64 (surE ox oy w u p q cl (vsOf ts)), .int .i64 (rngE W 1 1000)] 3 1 false) from at_A) rfl (Nat.le_refl _)))) rfl rfl ?_ | (refine wo_call rfl rfl rfl rfl (q40 _ gr_A wf_A) rfl rfl ?_; rintro _ _ ⟨rfl, hq⟩; all_goals ((try (have hqn := hq.nx)); (try simp only [H.nx_push, H.nx_set, H.nx_bump] at hqn))))) | with_reducible refine sq_norm ?_ | with_reducible refine wc_seq ?_ | with_reducible refine wc_region ?_ | with_reducible refine wc_ret ?_)
  exact rq1 rfl ⟨rfl, gr_A⟩
theorem Sl.set_at {es es' n b : Nat} {wv : Value} {L c c' : List Value} {e : TypeId} {f : Bool} (sl : Sl G h es wv n L) (hB : At h b (.cells c e es' f)) (ne : es ≠ es') : Sl G (h.set b (.cells c' e es' f)) es wv n L := by
  cases sl with
  | nil => exact .nil
  | end' b o => exact .end' b o
  | mem a _ cc _ hl hc hnc ho =>
    have hne : a.spot = some 0 → a.block ≠ b := fun q e => by
      obtain ⟨c1, e1, s1, hg⟩ := ho q
      rw [e, hB.get] at hg
      injection hg with hg
      injection hg with _ _ hg _
      exact ne hg.symm
    have gk : ∀ m, m ≠ b → (h.set b (.cells c' e es' f)).get m = h.get m := fun m hm => by rw [H.get_set, if_neg hm]
    refine .mem a n cc L hl ⟨fun q => hc.lt q, fun i v q => ?_, hc.spot, fun q => ?_⟩ hnc fun q => ?_
    · have := hc.get i v q
      unfold acell at this ⊢
      rcases hc.spot with hs | hs
      · simp only [aadd, hs] at this ⊢; exact this
      · simp only [aadd, hs] at this ⊢
        rw [gk _ (hne hs)]; exact this
    · rw [gk _ (hne q)]; exact hc.own q
    · rw [gk _ (hne q)]; exact ho q
end Go.Proofs.YtnkmencbnoipmaaGreatDoor
