/- The function awake of the law answers true: one of its stretches. -/
import Derived.Test.YtnkmencbnoipmaaGreatDoorW3
set_option linter.all false
namespace Go.Proofs.YtnkmencbnoipmaaGreatDoor
open Go Go.Ab Go.RowKit
set_option maxRecDepth 1000000
theorem aw_s19 : Ab.seen aw_t19 aw_n19 (evPieces Tryz.prog laidBase aw_rec aw_c 18 1 aw_e18 aw_h18) = some (aw_v19, aw_o19.map some, 312, 9991) := by kernel_rfl
end Go.Proofs.YtnkmencbnoipmaaGreatDoor
