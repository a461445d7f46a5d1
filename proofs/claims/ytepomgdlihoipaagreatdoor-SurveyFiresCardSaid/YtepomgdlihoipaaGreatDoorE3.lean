/- The statement SurveyFiresCardSaid is proved: the law SurveyFires returns true for all its arguments, which are a vessel, a watch with sightings, and shots, in each world in which the tables of the program hold what they were laid with. -/
import Derived.Test.YtepomgdlihoipaaGreatDoorE1
import Derived.Test.YtepomgdlihoipaaGreatDoorE2
set_option linter.all false
namespace Go.Proofs.YtepomgdlihoipaaGreatDoor
open Go Go.Ab Go.RowKit Go.ChangeShapes Go.WideShapes Go.ChangeAt

set_option maxRecDepth 100000 in
theorem said5 (walk : Walk 5 Tryz.f5 Rows.surveyFiresRow.laid) : Rows.SurveyFiresSaid :=
  OpenClaim.holds_of_cond 5 Tryz.f5 rfl rfl rfl rfl rfl rfl rfl ⟨rfl, rfl, rfl, rfl, rfl⟩ rfl rfl rfl rfl rfl (by kernel_rfl) Tryz.func5 joined5
    (of_decide_eq_true (by kernel_rfl)) (by unfold Func.isWrapper; first | (rw [if_pos (by decide +kernel)]; kernel_rfl) | (rw [if_neg (by decide +kernel)]; exact ⟨rfl, rfl⟩))
    (fun os started H enc _ F => by rw [OpenClaim.pre_eq_preRow]; exact lifted5 walk os started H enc F)
theorem plain5 (f : FuncId) (fn : Func) (hf : Tryz.pinned.checked.prog.funcNamed "moveout/moveoutlaw09.SurveyFires" = some f) (hfn : Tryz.pinned.checked.prog.funcs[f]? = some fn) :
    false = Tryz.pinned.checked.prog.looks [] ∧ ∀ (j : Nat) t, fn.params[j]? = some t → Tryz.pinned.checked.prog.wantsStandIn t = false := by
  obtain rfl : f = 5 := Option.some.inj ((show Tryz.prog.funcNamed "moveout/moveoutlaw09.SurveyFires" = some 5 by kernel_rfl).symm.trans hf) |>.symm
  obtain rfl : fn = Tryz.f5 := (Option.some.inj (Tryz.func5.symm.trans hfn)).symm
  refine ⟨by kernel_rfl, fun j t ht => ?_⟩
  have h : (Tryz.f5.params.toList.all fun t => !Tryz.prog.wantsStandIn t) = true := by decide +kernel
  have := List.all_eq_true.1 h t (Array.mem_toList_iff.2 (Array.mem_of_getElem? ht))
  show Tryz.prog.wantsStandIn t = false
  simpa using this
set_option maxHeartbeats 0 in
set_option maxRecDepth 100000 in
/-- The card, once the law's walk stands. -/
theorem card5 (walk : Walk 5 Tryz.f5 Rows.surveyFiresRow.laid) : Rows.SurveyFiresCardSaid :=
  Claim7.holds_tied_plain_at .later [] _ _ _ _ (said5 walk) (fun _ h => by cases h) (by decide +kernel) (fun _ h => by cases h) surveyFires_row_tie rfl ⟨rfl, rfl⟩ (by decide +kernel) rfl plain5 (by decide +kernel)
end Go.Proofs.YtepomgdlihoipaaGreatDoor

/- SurveyFires. -/
namespace Go.Proofs.YtepomgdlihoipaaGreatDoor
theorem surveyFires : Rows.SurveyFiresCardSaid := card5 walk5
end Go.Proofs.YtepomgdlihoipaaGreatDoor
