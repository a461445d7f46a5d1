/- Short shots. -/
import Derived.Test.YthnnndkfpamacaaGreatDoorM4
set_option linter.all false
/- What short shots are. -/
namespace Go.Proofs.YthnnndkfpamacaaGreatDoor
open Go Go.Ab Go.Fl
variable {G : Base} {h : H}
end Go.Proofs.YthnnndkfpamacaaGreatDoor
