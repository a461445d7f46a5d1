/- The closed cells of the row of CoverMoved are what the program forces. -/
import Derived.Test.YtnkmencbnoipmaaGreatDoorE1
set_option linter.all false
namespace Go.Proofs.YtnkmencbnoipmaaGreatDoor
open Go Go.Ab Go.RowKit Go.ChangeShapes Go.WideShapes Go.ChangeAt

set_option maxHeartbeats 0 in
set_option maxRecDepth 100000 in
theorem joined7 : joinedFacts Tryz.pinned.checked.prog 7 Tryz.f7 (OpenSpec.ofChange Rows.coverMovedSpec).bare Rows.coverMovedRow = true := by
  unfold joinedFacts
  simp only [Bool.and_eq_true]
  repeat' apply And.intro
  all_goals decide +kernel
end Go.Proofs.YtnkmencbnoipmaaGreatDoor
