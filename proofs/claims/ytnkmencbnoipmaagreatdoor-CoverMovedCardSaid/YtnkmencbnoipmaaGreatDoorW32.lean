/- The function awake of the law answers true: one of its stretches. -/
import Derived.Test.YtnkmencbnoipmaaGreatDoorW3
set_option linter.all false
namespace Go.Proofs.YtnkmencbnoipmaaGreatDoor
open Go Go.Ab Go.RowKit
set_option maxRecDepth 1000000
theorem aw_s17 : Ab.seen aw_t17 aw_n17 (evPieces Tryz.prog laidBase aw_rec aw_c 16 1 aw_e16 aw_h16) = some (aw_v17, aw_o17.map some, 312, 6118) := by kernel_rfl
end Go.Proofs.YtnkmencbnoipmaaGreatDoor
