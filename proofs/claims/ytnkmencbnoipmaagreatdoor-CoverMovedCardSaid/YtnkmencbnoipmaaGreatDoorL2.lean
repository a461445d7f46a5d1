/- The law CoverFolds, walked, whose helpers are used; short jobs. -/
import Derived.Test.YtnkmencbnoipmaaGreatDoorN5
import Derived.Test.YtnkmencbnoipmaaGreatDoorM2
import Derived.Test.YtnkmencbnoipmaaGreatDoorN0
set_option linter.all false
/- The law CoverFolds. -/
namespace Go.Proofs.YtnkmencbnoipmaaGreatDoor
open Go Go.Ab Go.Fl
attribute [local irreducible] SeqQ BlkQ LpQ RetQ Wc Wo WD WX Op1 Op1q Op1a Cf Cl From
attribute [local irreducible] Ieee.Format.order Ieee.Format.read Ieee.Format.nearest Ieee.Format.write Ieee.Format.mul Ieee.Format.div Ieee.Format.sqrt Ieee.Datum.order Ieee.Datum.integral K U rngE errN cntE cmpI indE ptE plaE firstNZ numsE lnE BigP isNameB nmE ascA errL chgV chgE griE clsE clsG sqD binI covP covV hit outI plsP rowP linsE surE wanE foldL needL gapI
set_option maxRecDepth 10000
variable {G : Base} {h : H}

theorem fldR_ok {ox oy w u p q : Int} {cl : List Int} {ts : List LnM} {B m : Nat} (hz : surE ox oy w u p q cl (vsOf ts) = 0) (e : (p * q).toNat = B) (hcl : cl.length = m) : fldR ox oy w u p q cl (vsOf ts) = foldL (covV ox oy w u p q cl (B * m) (vsOf ts)) m B := by unfold fldR; rw [if_pos hz, e, hcl]
set_option maxHeartbeats 8000000 in
theorem c35 {ox oy w u p q : Int} {va v : Value} {m n : Nat} {cl : List Int} {ts : List LnM} {W : Int} (sc : Sl G h 1 va m (cl.map (.int .i64))) (hm : m ≤ maxLen) (s : SlN G h v n ts) (hn : n ≤ maxLen) (hw : Wf h) : Cf (mz G) (.func (.func 35) #[] #[]) [.agg ⟨[.int .i64 ox, .int .i64 oy, .int .i64 w, .int .i64 u, .int .i64 p, .int .i64 q, va, v, .int .i64 W]⟩] h fun r h' => ((r = .bool true ∧ m ≤ 9 ∧ n ≤ 33 ∧ ∀ t ∈ ts, t.V.rf.length ≤ 10 ∧ t.V.nm.size ≤ 40) ∨ r = .bool false) ∧ Grow h h' := by
  obtain ⟨ca, cc, rfl⟩ := sc.form
  obtain ⟨la, lc, rfl⟩ := s.sl.form
  have q8 := fun (h' : H) => c8 (G := G) (h := h') (a := ox) (b := oy) (w := w) (u := u) (p := p) (q := q)
  have q9 := fun (h' : H) (g : Grow h h') (w' : Wf h') => c9 (s.grow g) hn w'
  refine cf_enter0 17 [.tmp 2] Tryz.func35 rfl rfl rfl rfl ?_
  repeat' (first | with_reducible refine wo_nil ?_ | ((with_reducible refine wo_any ?_); first | ((with_reducible refine ik_move ?_); refine wo_op rfl (op_move rfl) rfl rfl ?_) | ((with_reducible refine ik_assign ?_); refine wo_op rfl (op_assign rfl) rfl rfl ?_) | ((with_reducible refine ik_load ?_); refine wo_op rfl (op_ldAgg (b := h.nx) (off := 0) rfl at_A Tryz.underlying25 rfl zs25 rfl rfl) rfl rfl ?_) | ((with_reducible refine ik_box ?_); refine wo_op rfl (op_boxAgg rfl zs69 rfl) rfl rfl ?_) | ((with_reducible refine ik_fieldAddr ?_); refine wo_op rfl (op_fieldAddr (o := 0) rfl Tryz.underlying69 rfl zs25 rfl) rfl rfl ?_) | ((with_reducible refine ik_pick ?_); first | refine wo_op rfl (op_pickt rfl rfl) rfl rfl ?_ | refine wo_op rfl (op_pickf rfl rfl) rfl rfl ?_) | ((with_reducible refine ik_callv ?_); (refine wo_call rfl rfl rfl rfl (q8 _) rfl rfl ?_; rintro _ _ ⟨(rfl | rfl), hq⟩; all_goals ((try (have hqn := hq.nx)); (try simp only [H.nx_push, H.nx_set, H.nx_bump] at hqn)))) | ((with_reducible refine ik_g ?_); first | refine wo_gskip rfl rfl rfl rfl rfl rfl ?_ | ((with_reducible refine ig_load ?_); first | refine wo_grun rfl rfl rfl (op_ldAt (b := h.nx) (off := 6) rfl at_A Tryz.underlying41 rfl rfl) rfl rfl ?_ | refine wo_grun rfl rfl rfl (op_ldAt (b := h.nx) (off := 7) rfl at_A Tryz.underlying26 rfl rfl) rfl rfl ?_) | ((with_reducible refine ig_fieldAddr ?_); first | refine wo_grun rfl rfl rfl (op_fieldAddr (o := 6) rfl Tryz.underlying69 rfl zs41 rfl) rfl rfl ?_ | refine wo_grun rfl rfl rfl (op_fieldAddr (o := 7) rfl Tryz.underlying69 rfl zs26 rfl) rfl rfl ?_) | ((with_reducible refine ig_callb ?_); refine wo_grun rfl rfl rfl (op_lenSl rfl Tryz.underlying41) rfl rfl ?_) | ((with_reducible refine ig_bin ?_); refine wo_grun rfl rfl rfl (op_leq rfl rfl) rfl rfl ?_) | ((with_reducible refine ig_callv ?_); (refine wo_gcall rfl rfl rfl rfl rfl rfl (q9 _ gr_A wf_A) rfl rfl ?_; rintro _ _ ⟨(⟨rfl, h33, hs⟩ | rfl), hq⟩; all_goals ((try (have hqn := hq.nx)); (try simp only [H.nx_push, H.nx_set, H.nx_bump] at hqn)))) | (refine wo_gsplit rfl rfl rfl (fun hb => ?_) (fun hb => ?_) <;> (try simp only [decide_eq_true_eq, decide_eq_false_iff_not, Bool.not_eq_true', Bool.not_eq_false', Int.not_lt, Int.not_le, Decidable.not_not, not_true_eq_false, not_false_eq_true, beq_self_eq_true, reduceCtorEq] at hb) <;> (try (exfalso; omega))))) | with_reducible refine sq_norm ?_ | with_reducible refine wc_seq ?_ | with_reducible refine wc_region ?_ | with_reducible refine wc_ret ?_)
  all_goals first
    | exact rq1 rfl ⟨.inr rfl, gr_A⟩
    | exact rq1 rfl ⟨.inl ⟨rfl, by omega, h33, hs⟩, gr_A⟩
    | trace_state
end Go.Proofs.YtnkmencbnoipmaaGreatDoor

/- The law CoverFolds. -/
namespace Go.Proofs.YtnkmencbnoipmaaGreatDoor
open Go Go.Ab Go.Fl
attribute [local irreducible] SeqQ BlkQ LpQ RetQ Wc Wo WD WX Op1 Op1q Op1a Cf Cl From
attribute [local irreducible] Ieee.Format.order Ieee.Format.read Ieee.Format.nearest Ieee.Format.write Ieee.Format.mul Ieee.Format.div Ieee.Format.sqrt Ieee.Datum.order Ieee.Datum.integral K U rngE errN cntE cmpI indE ptE plaE firstNZ numsE lnE BigP isNameB nmE ascA errL chgV chgE griE clsE clsG sqD binI covP covV hit outI plsP rowP linsE surE wanE foldL needL gapI covR fldR gapR
set_option maxRecDepth 10000
variable {G : Base} {h : H}

end Go.Proofs.YtnkmencbnoipmaaGreatDoor
