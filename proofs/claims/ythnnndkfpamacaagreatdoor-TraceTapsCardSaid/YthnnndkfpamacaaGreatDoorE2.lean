/- The closed cells of the row of TraceTaps are what the program forces. -/
import Derived.Test.YthnnndkfpamacaaGreatDoorE1
set_option linter.all false
namespace Go.Proofs.YthnnndkfpamacaaGreatDoor
open Go Go.Ab Go.RowKit Go.ChangeShapes Go.WideShapes Go.ChangeAt

set_option maxHeartbeats 0 in
set_option maxRecDepth 100000 in
theorem joined12 : joinedFacts Tryz.pinned.checked.prog 12 Tryz.f12 (OpenSpec.ofChange Rows.traceTapsSpec).bare Rows.traceTapsRow = true := by
  unfold joinedFacts
  simp only [Bool.and_eq_true]
  repeat' apply And.intro
  all_goals decide +kernel
end Go.Proofs.YthnnndkfpamacaaGreatDoor
