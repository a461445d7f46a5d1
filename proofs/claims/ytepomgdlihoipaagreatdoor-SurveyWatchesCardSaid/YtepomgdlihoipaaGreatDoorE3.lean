/- The statement SurveyWatchesCardSaid is proved: the law SurveyWatches returns true for all its arguments, which are a vessel, a watch and sightings, in each world in which the tables of the program hold what they were laid with. -/
import Derived.Test.YtepomgdlihoipaaGreatDoorE1
import Derived.Test.YtepomgdlihoipaaGreatDoorE2
set_option linter.all false
namespace Go.Proofs.YtepomgdlihoipaaGreatDoor
open Go Go.Ab Go.RowKit Go.ChangeShapes Go.WideShapes Go.ChangeAt

set_option maxRecDepth 100000 in
theorem said4 (walk : Walk 4 Tryz.f4 Rows.surveyWatchesRow.laid) : Rows.SurveyWatchesSaid :=
  OpenClaim.holds_of_cond 4 Tryz.f4 rfl rfl rfl rfl rfl rfl rfl ⟨rfl, rfl, rfl, rfl, rfl⟩ rfl rfl rfl rfl rfl (by kernel_rfl) Tryz.func4 joined4
    (of_decide_eq_true (by kernel_rfl)) (by unfold Func.isWrapper; first | (rw [if_pos (by decide +kernel)]; kernel_rfl) | (rw [if_neg (by decide +kernel)]; exact ⟨rfl, rfl⟩))
    (fun os started H enc _ F => by rw [OpenClaim.pre_eq_preRow]; exact lifted4 walk os started H enc F)
theorem plain4 (f : FuncId) (fn : Func) (hf : Tryz.pinned.checked.prog.funcNamed "moveout/moveoutlaw09.SurveyWatches" = some f) (hfn : Tryz.pinned.checked.prog.funcs[f]? = some fn) :
    false = Tryz.pinned.checked.prog.looks [] ∧ ∀ (j : Nat) t, fn.params[j]? = some t → Tryz.pinned.checked.prog.wantsStandIn t = false := by
  obtain rfl : f = 4 := Option.some.inj ((show Tryz.prog.funcNamed "moveout/moveoutlaw09.SurveyWatches" = some 4 by kernel_rfl).symm.trans hf) |>.symm
  obtain rfl : fn = Tryz.f4 := (Option.some.inj (Tryz.func4.symm.trans hfn)).symm
  refine ⟨by kernel_rfl, fun j t ht => ?_⟩
  have h : (Tryz.f4.params.toList.all fun t => !Tryz.prog.wantsStandIn t) = true := by decide +kernel
  have := List.all_eq_true.1 h t (Array.mem_toList_iff.2 (Array.mem_of_getElem? ht))
  show Tryz.prog.wantsStandIn t = false
  simpa using this
set_option maxHeartbeats 0 in
set_option maxRecDepth 100000 in
/-- The card, once the law's walk stands. -/
theorem card4 (walk : Walk 4 Tryz.f4 Rows.surveyWatchesRow.laid) : Rows.SurveyWatchesCardSaid :=
  Claim7.holds_tied_plain_at .later [] _ _ _ _ (said4 walk) (fun _ h => by cases h) (by decide +kernel) (fun _ h => by cases h) surveyWatches_row_tie rfl ⟨rfl, rfl⟩ (by decide +kernel) rfl plain4 (by decide +kernel)
end Go.Proofs.YtepomgdlihoipaaGreatDoor

/- SurveyWatches. -/
namespace Go.Proofs.YtepomgdlihoipaaGreatDoor
theorem surveyWatches : Rows.SurveyWatchesCardSaid := card4 walk4
end Go.Proofs.YtepomgdlihoipaaGreatDoor
