/- The statement SurveyDifferencesCardSaid is proved: the law SurveyDifferences returns true for all its arguments, which are two invoices, in each world in which the tables of the program hold what they were laid with. -/
import Derived.Test.YtepomgdlihoipaaGreatDoorE1
import Derived.Test.YtepomgdlihoipaaGreatDoorE2
set_option linter.all false
namespace Go.Proofs.YtepomgdlihoipaaGreatDoor
open Go Go.Ab Go.RowKit Go.ChangeShapes Go.WideShapes Go.ChangeAt

set_option maxRecDepth 100000 in
theorem said3 (walk : Walk 3 Tryz.f3 Rows.surveyDifferencesRow.laid) : Rows.SurveyDifferencesSaid :=
  OpenClaim.holds_of_cond 3 Tryz.f3 rfl rfl rfl rfl rfl rfl rfl ⟨rfl, rfl, rfl, rfl, rfl⟩ rfl rfl rfl rfl rfl (by kernel_rfl) Tryz.func3 joined3
    (of_decide_eq_true (by kernel_rfl)) (by unfold Func.isWrapper; first | (rw [if_pos (by decide +kernel)]; kernel_rfl) | (rw [if_neg (by decide +kernel)]; exact ⟨rfl, rfl⟩))
    (fun os started H enc _ F => by rw [OpenClaim.pre_eq_preRow]; exact lifted3 walk os started H enc F)
theorem plain3 (f : FuncId) (fn : Func) (hf : Tryz.pinned.checked.prog.funcNamed "moveout/moveoutlaw09.SurveyDifferences" = some f) (hfn : Tryz.pinned.checked.prog.funcs[f]? = some fn) :
    false = Tryz.pinned.checked.prog.looks [] ∧ ∀ (j : Nat) t, fn.params[j]? = some t → Tryz.pinned.checked.prog.wantsStandIn t = false := by
  obtain rfl : f = 3 := Option.some.inj ((show Tryz.prog.funcNamed "moveout/moveoutlaw09.SurveyDifferences" = some 3 by kernel_rfl).symm.trans hf) |>.symm
  obtain rfl : fn = Tryz.f3 := (Option.some.inj (Tryz.func3.symm.trans hfn)).symm
  refine ⟨by kernel_rfl, fun j t ht => ?_⟩
  have h : (Tryz.f3.params.toList.all fun t => !Tryz.prog.wantsStandIn t) = true := by decide +kernel
  have := List.all_eq_true.1 h t (Array.mem_toList_iff.2 (Array.mem_of_getElem? ht))
  show Tryz.prog.wantsStandIn t = false
  simpa using this
set_option maxHeartbeats 0 in
set_option maxRecDepth 100000 in
/-- The card, once the law's walk stands. -/
theorem card3 (walk : Walk 3 Tryz.f3 Rows.surveyDifferencesRow.laid) : Rows.SurveyDifferencesCardSaid :=
  Claim7.holds_tied_plain_at .later [] _ _ _ _ (said3 walk) (fun _ h => by cases h) (by decide +kernel) (fun _ h => by cases h) surveyDifferences_row_tie rfl ⟨rfl, rfl⟩ (by decide +kernel) rfl plain3 (by decide +kernel)
end Go.Proofs.YtepomgdlihoipaaGreatDoor

/- SurveyDifferences. -/
namespace Go.Proofs.YtepomgdlihoipaaGreatDoor
theorem surveyDifferences : Rows.SurveyDifferencesCardSaid := card3 walk3
end Go.Proofs.YtepomgdlihoipaaGreatDoor
