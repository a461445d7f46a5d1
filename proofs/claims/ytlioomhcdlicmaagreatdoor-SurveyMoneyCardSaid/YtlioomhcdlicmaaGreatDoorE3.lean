/- The statement SurveyMoneyCardSaid is proved: the law SurveyMoney returns true for all its arguments, which are a contract, entries, and a day, in each world in which the tables of the program hold what they were laid with. -/
import Derived.Test.YtlioomhcdlicmaaGreatDoorE1
import Derived.Test.YtlioomhcdlicmaaGreatDoorE2
set_option linter.all false
namespace Go.Proofs.YtlioomhcdlicmaaGreatDoor
open Go Go.Ab Go.RowKit Go.ChangeShapes Go.WideShapes Go.ChangeAt
set_option maxRecDepth 100000 in
theorem said9 (walk : Walk 9 Tryz.f9 Rows.surveyMoneyRow.laid) : Rows.SurveyMoneySaid :=
 OpenClaim.holds_of_cond 9 Tryz.f9 rfl rfl rfl rfl rfl rfl rfl ⟨rfl, rfl, rfl, rfl, rfl⟩ rfl rfl rfl rfl rfl (by kernel_rfl) Tryz.func9 joined9
   (of_decide_eq_true (by kernel_rfl)) (by unfold Func.isWrapper; first | (rw [if_pos (by decide +kernel)]; kernel_rfl) | (rw [if_neg (by decide +kernel)]; exact ⟨rfl, rfl⟩))
   (fun os started H enc _ F => by rw [OpenClaim.pre_eq_preRow]; exact lifted9 walk os started H enc F)
theorem plain9 (f : FuncId) (fn : Func) (hf : Tryz.pinned.checked.prog.funcNamed "moveout/moveoutlaw09.SurveyMoney" = some f) (hfn : Tryz.pinned.checked.prog.funcs[f]? = some fn) :
   false = Tryz.pinned.checked.prog.looks [] ∧ ∀ (j : Nat) t, fn.params[j]? = some t → Tryz.pinned.checked.prog.wantsStandIn t = false := by
 obtain rfl : f = 9 := Option.some.inj ((show Tryz.prog.funcNamed "moveout/moveoutlaw09.SurveyMoney" = some 9 by kernel_rfl).symm.trans hf) |>.symm
 obtain rfl : fn = Tryz.f9 := (Option.some.inj (Tryz.func9.symm.trans hfn)).symm
 refine ⟨by kernel_rfl, fun j t ht => ?_⟩
 have h : (Tryz.f9.params.toList.all fun t => !Tryz.prog.wantsStandIn t) = true := by decide +kernel
 have := List.all_eq_true.1 h t (Array.mem_toList_iff.2 (Array.mem_of_getElem? ht))
 show Tryz.prog.wantsStandIn t = false
 simpa using this
set_option maxHeartbeats 0 in
set_option maxRecDepth 100000 in
theorem card9 (walk : Walk 9 Tryz.f9 Rows.surveyMoneyRow.laid) : Rows.SurveyMoneyCardSaid :=
 Claim7.holds_tied_plain_at .later [] _ _ _ _ (said9 walk) (fun _ h => by cases h) (by decide +kernel) (fun _ h => by cases h) surveyMoney_row_tie rfl ⟨rfl, rfl⟩ (by decide +kernel) rfl plain9 (by decide +kernel)
end Go.Proofs.YtlioomhcdlicmaaGreatDoor
/- SurveyMoney. -/
namespace Go.Proofs.YtlioomhcdlicmaaGreatDoor
theorem surveyMoney : Rows.SurveyMoneyCardSaid := card9 walk9
end Go.Proofs.YtlioomhcdlicmaaGreatDoor
