/- Contracts of functions on shots: the check by the reference, short shots, copies. -/
import Derived.Test.YthnnndkfpamacaaGreatDoorN1
set_option linter.all false
/- A shot, checked by the reference; short shots. -/
namespace Go.Proofs.YthnnndkfpamacaaGreatDoor
open Go Go.Ab Go.Fl
attribute [local irreducible] SeqQ BlkQ LpQ RetQ Wc Wo WD WX Op1 Op1q Op1a Cf Cl From
attribute [local irreducible] Ieee.Format.order Ieee.Format.read Ieee.Format.nearest Ieee.Format.write Ieee.Format.mul Ieee.Format.div Ieee.Datum.order Ieee.Datum.integral smpE smp smpW K J U trE hdrE lchk firstNZ isNameB wid mism
set_option maxRecDepth 10000
variable {G : Base} {h : H}

def shortT (t : Trc) : Bool := decide (t.n ≤ 32 ∨ t.n = 1025)
def shortB (nm : ByteArray) (ts : List Trc) : Bool := decide (nm.size ≤ 60) && decide (ts.length ≤ 6 ∨ ts.length = 65) && ts.all shortT
end Go.Proofs.YthnnndkfpamacaaGreatDoor

/- A shot, copied. -/
namespace Go.Proofs.YthnnndkfpamacaaGreatDoor
open Go Go.Ab Go.Fl
attribute [local irreducible] SeqQ BlkQ LpQ RetQ Wc Wo WD WX Op1 Op1q Op1a Cf Cl From
attribute [local irreducible] Ieee.Format.order Ieee.Format.read Ieee.Format.nearest Ieee.Format.write Ieee.Format.mul Ieee.Format.div Ieee.Datum.order Ieee.Datum.integral smpE smp smpW K J U trE hdrE lchk firstNZ isNameB wid mism
set_option maxRecDepth 10000
variable {G : Base} {h : H}

def Trc.key (t : Trc) : (Nat → Int) × Bool × Nat × List Nat := (t.hd, t.hole, t.n, t.l)
end Go.Proofs.YthnnndkfpamacaaGreatDoor
