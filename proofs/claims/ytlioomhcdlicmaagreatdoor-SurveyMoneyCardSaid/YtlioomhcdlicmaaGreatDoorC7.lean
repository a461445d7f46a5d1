/- Survey: silent spans by the program and by the reference; spans compared. -/
import Derived.Test.YtlioomhcdlicmaaGreatDoorC6
set_option linter.all false
/- Survey: the silent spans by the program. -/
namespace Go.Proofs.YtlioomhcdlicmaaGreatDoor
open Go Go.Ab Go.Fl
attribute [local irreducible] SeqQ BlkQ LpQ RetQ Wc Wo WD WX Op1 Op1q Op1a Cf Cl From
attribute [local irreducible] Ieee.Format.order Ieee.Format.read Ieee.Format.nearest Ieee.Format.write Ieee.Format.mul Ieee.Format.div Ieee.Format.sqrt Ieee.Datum.order Ieee.Datum.integral K U rngE errN ptE firstNZ vesE watE sgE sgsE allE hitB sqD insB qsL lvl rn rl
set_option maxRecDepth 10000
variable {G : Base} {h : H}
def silB (cl so : Int) (I : Nat → Bool) (i : Nat) : Bool := decide (lvl cl so (qt I (i + 1) : Int) = 0)
def silN (x y u v t r sp lo cl so : Int) (l : List Sg) : List Spn := if allE x y u v t r sp lo cl so l = 0 then fl (silB cl so (insB x y u v r sp lo l)) t.toNat else []
/- Survey: the silent spans by the reference; spans compared. -/
end Go.Proofs.YtlioomhcdlicmaaGreatDoor
