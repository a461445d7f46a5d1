/- The function awake of the law answers true: one of its stretches. -/
import Derived.Test.YtnkmencbnoipmaaGreatDoorW3
set_option linter.all false
namespace Go.Proofs.YtnkmencbnoipmaaGreatDoor
open Go Go.Ab Go.RowKit
set_option maxRecDepth 1000000
theorem aw_s18 : Ab.seen aw_t18 aw_n18 (evPieces Tryz.prog laidBase aw_rec aw_c 17 1 aw_e17 aw_h17) = some (aw_v18, aw_o18.map some, 312, 8075) := by kernel_rfl
end Go.Proofs.YtnkmencbnoipmaaGreatDoor
