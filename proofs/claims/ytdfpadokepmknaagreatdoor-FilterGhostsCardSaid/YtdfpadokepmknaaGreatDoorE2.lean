/- The closed cells of the row of FilterGhosts are what the program forces. -/
import Derived.Test.YtdfpadokepmknaaGreatDoorE1
set_option linter.all false
namespace Go.Proofs.YtdfpadokepmknaaGreatDoor
open Go Go.Ab Go.RowKit Go.ChangeShapes Go.WideShapes Go.ChangeAt

set_option maxHeartbeats 0 in
set_option maxRecDepth 100000 in
theorem joined5 : joinedFacts Tryz.pinned.checked.prog 5 Tryz.f5 (OpenSpec.ofChange Rows.filterGhostsSpec).bare Rows.filterGhostsRow = true := by
  unfold joinedFacts
  simp only [Bool.and_eq_true]
  repeat' apply And.intro
  all_goals decide +kernel
end Go.Proofs.YtdfpadokepmknaaGreatDoor
