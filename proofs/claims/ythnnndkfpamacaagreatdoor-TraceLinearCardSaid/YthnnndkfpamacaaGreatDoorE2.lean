/- The closed cells of the row of TraceLinear are what the program forces. -/
import Derived.Test.YthnnndkfpamacaaGreatDoorE1
set_option linter.all false
namespace Go.Proofs.YthnnndkfpamacaaGreatDoor
open Go Go.Ab Go.RowKit Go.ChangeShapes Go.WideShapes Go.ChangeAt
set_option maxHeartbeats 0 in
set_option maxRecDepth 100000 in
theorem joined11 : joinedFacts Tryz.pinned.checked.prog 11 Tryz.f11 (OpenSpec.ofChange Rows.traceLinearSpec).bare Rows.traceLinearRow = true := by
 unfold joinedFacts
 simp only [Bool.and_eq_true]
 repeat' apply And.intro
 all_goals decide +kernel
end Go.Proofs.YthnnndkfpamacaaGreatDoor
