/- Contracts of functions on lists of samples: energy, peak, correlations by the reference. -/
import Derived.Test.YthnnndkfpamacaaGreatDoorL2
import Derived.Test.YthnnndkfpamacaaGreatDoorK2
set_option linter.all false
/- Energy and peak. -/
namespace Go.Proofs.YthnnndkfpamacaaGreatDoor
open Go Go.Ab Go.Fl
attribute [local irreducible] SeqQ BlkQ LpQ RetQ Wc Wo WD WX Op1 Op1q Op1a Cf Cl From
attribute [local irreducible] Ieee.Format.order Ieee.Format.read Ieee.Format.nearest Ieee.Format.write Ieee.Format.mul Ieee.Format.div Ieee.Datum.order Ieee.Datum.integral smpE smp smpW K J U spread sumN
set_option maxRecDepth 10000
variable {G : Base} {h : H}
/- What the functions on lists answer, in one form; the reference's correlation. -/
end Go.Proofs.YthnnndkfpamacaaGreatDoor
/- What the functions on lists answer, in one form. -/
namespace Go.Proofs.YthnnndkfpamacaaGreatDoor
open Go Go.Ab Go.Fl
variable {G : Base} {h : H}
end Go.Proofs.YthnnndkfpamacaaGreatDoor
