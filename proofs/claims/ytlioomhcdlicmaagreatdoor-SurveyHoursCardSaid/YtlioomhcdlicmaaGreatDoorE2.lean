/- The closed cells of the row of SurveyHours are what the program forces. -/
import Derived.Test.YtlioomhcdlicmaaGreatDoorE1
set_option linter.all false
namespace Go.Proofs.YtlioomhcdlicmaaGreatDoor
open Go Go.Ab Go.RowKit Go.ChangeShapes Go.WideShapes Go.ChangeAt

set_option maxHeartbeats 0 in
set_option maxRecDepth 100000 in
theorem joined7 : joinedFacts Tryz.pinned.checked.prog 7 Tryz.f7 (OpenSpec.ofChange Rows.surveyHoursSpec).bare Rows.surveyHoursRow = true := by
  unfold joinedFacts
  simp only [Bool.and_eq_true]
  repeat' apply And.intro
  all_goals decide +kernel
end Go.Proofs.YtlioomhcdlicmaaGreatDoor
