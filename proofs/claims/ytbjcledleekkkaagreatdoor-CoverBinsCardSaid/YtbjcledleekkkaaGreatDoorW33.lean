/- The function awake of the law answers true: one of its stretches. -/
import Derived.Test.YtbjcledleekkkaaGreatDoorW3
set_option linter.all false
namespace Go.Proofs.YtbjcledleekkkaaGreatDoor
open Go Go.Ab Go.RowKit
set_option maxRecDepth 1000000
theorem aw_s20 : Ab.seen aw_t20 aw_n20 (evPieces Tryz.prog laidBase aw_rec aw_c 19 1 aw_e19 aw_h19) = some (aw_v20, aw_o20.map some, 312, 10416) := by kernel_rfl
end Go.Proofs.YtbjcledleekkkaaGreatDoor
