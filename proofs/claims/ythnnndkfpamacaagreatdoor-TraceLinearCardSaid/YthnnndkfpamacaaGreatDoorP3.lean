/- Shots summed by the reference. -/
import Derived.Test.YthnnndkfpamacaaGreatDoorP2
import Derived.Test.YthnnndkfpamacaaGreatDoorM4
set_option linter.all false
/- Shots summed by the reference. -/
namespace Go.Proofs.YthnnndkfpamacaaGreatDoor
open Go Go.Ab Go.Fl
attribute [local irreducible] SeqQ BlkQ LpQ RetQ Wc Wo WD WX Op1 Op1q Op1a Cf Cl From
attribute [local irreducible] Ieee.Format.order Ieee.Format.read Ieee.Format.nearest Ieee.Format.write Ieee.Format.mul Ieee.Format.div Ieee.Datum.order Ieee.Datum.integral smpE smp smpW K J U trE hdrE lchk firstNZ isNameB wid mism shE offs shortB anyLarge spanE folE rngE
set_option maxRecDepth 10000
variable {G : Base} {h : H}
end Go.Proofs.YthnnndkfpamacaaGreatDoor
