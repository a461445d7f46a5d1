/- The closed cells of the row of SurveyMore are what the program forces. -/
import Derived.Test.YtlioomhcdlicmaaGreatDoorE1
set_option linter.all false
namespace Go.Proofs.YtlioomhcdlicmaaGreatDoor
open Go Go.Ab Go.RowKit Go.ChangeShapes Go.WideShapes Go.ChangeAt

set_option maxHeartbeats 0 in
set_option maxRecDepth 100000 in
theorem joined11 : joinedFacts Tryz.pinned.checked.prog 11 Tryz.f11 (OpenSpec.ofChange Rows.surveyMoreSpec).bare Rows.surveyMoreRow = true := by
  unfold joinedFacts
  simp only [Bool.and_eq_true]
  repeat' apply And.intro
  all_goals decide +kernel
end Go.Proofs.YtlioomhcdlicmaaGreatDoor
