/- The closed cells of the row of SurveyDifferences are what the program forces. -/
import Derived.Test.YtepomgdlihoipaaGreatDoorE1
set_option linter.all false
namespace Go.Proofs.YtepomgdlihoipaaGreatDoor
open Go Go.Ab Go.RowKit Go.ChangeShapes Go.WideShapes Go.ChangeAt

set_option maxHeartbeats 0 in
set_option maxRecDepth 100000 in
theorem joined3 : joinedFacts Tryz.pinned.checked.prog 3 Tryz.f3 (OpenSpec.ofChange Rows.surveyDifferencesSpec).bare Rows.surveyDifferencesRow = true := by
  unfold joinedFacts
  simp only [Bool.and_eq_true]
  repeat' apply And.intro
  all_goals decide +kernel
end Go.Proofs.YtepomgdlihoipaaGreatDoor
