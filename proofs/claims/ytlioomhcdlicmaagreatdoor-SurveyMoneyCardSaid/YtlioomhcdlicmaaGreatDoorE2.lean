/- The closed cells of the row of SurveyMoney are what the program forces. -/
import Derived.Test.YtlioomhcdlicmaaGreatDoorE1
set_option linter.all false
namespace Go.Proofs.YtlioomhcdlicmaaGreatDoor
open Go Go.Ab Go.RowKit Go.ChangeShapes Go.WideShapes Go.ChangeAt
set_option maxHeartbeats 0 in
set_option maxRecDepth 100000 in
theorem joined9 : joinedFacts Tryz.pinned.checked.prog 9 Tryz.f9 (OpenSpec.ofChange Rows.surveyMoneySpec).bare Rows.surveyMoneyRow = true := by
 unfold joinedFacts
 simp only [Bool.and_eq_true]
 repeat' apply And.intro
 all_goals decide +kernel
end Go.Proofs.YtlioomhcdlicmaaGreatDoor
