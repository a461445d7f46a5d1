/- The closed cells of the row of SurveyWatches are what the program forces. -/
import Derived.Test.YtepomgdlihoipaaGreatDoorE1
set_option linter.all false
namespace Go.Proofs.YtepomgdlihoipaaGreatDoor
open Go Go.Ab Go.RowKit Go.ChangeShapes Go.WideShapes Go.ChangeAt

set_option maxHeartbeats 0 in
set_option maxRecDepth 100000 in
theorem joined4 : joinedFacts Tryz.pinned.checked.prog 4 Tryz.f4 (OpenSpec.ofChange Rows.surveyWatchesSpec).bare Rows.surveyWatchesRow = true := by
  unfold joinedFacts
  simp only [Bool.and_eq_true]
  repeat' apply And.intro
  all_goals decide +kernel
end Go.Proofs.YtepomgdlihoipaaGreatDoor
