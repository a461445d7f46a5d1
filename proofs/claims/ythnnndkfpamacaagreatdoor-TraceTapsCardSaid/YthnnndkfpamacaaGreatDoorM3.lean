/- Two shots merged, what follows a shot, shots joined by the program. -/
import Derived.Test.YthnnndkfpamacaaGreatDoorM2
set_option linter.all false
/- Two shots merged by the program. -/
namespace Go.Proofs.YthnnndkfpamacaaGreatDoor
open Go Go.Ab Go.Fl
attribute [local irreducible] SeqQ BlkQ LpQ RetQ Wc Wo WD WX Op1 Op1q Op1a Cf Cl From
attribute [local irreducible] Ieee.Format.order Ieee.Format.read Ieee.Format.nearest Ieee.Format.write Ieee.Format.mul Ieee.Format.div Ieee.Datum.order Ieee.Datum.integral smpE smp smpW K J U trE hdrE lchk firstNZ isNameB wid mism shE offs shortB anyLarge spanE
set_option maxRecDepth 10000
variable {G : Base} {h : H}

end Go.Proofs.YthnnndkfpamacaaGreatDoor

/- What follows a shot, by the program. -/
namespace Go.Proofs.YthnnndkfpamacaaGreatDoor
open Go Go.Ab Go.Fl
attribute [local irreducible] SeqQ BlkQ LpQ RetQ Wc Wo WD WX Op1 Op1q Op1a Cf Cl From
attribute [local irreducible] Ieee.Format.order Ieee.Format.read Ieee.Format.nearest Ieee.Format.write Ieee.Format.mul Ieee.Format.div Ieee.Datum.order Ieee.Datum.integral smpE smp smpW K J U trE hdrE lchk firstNZ isNameB wid mism shE offs shortB anyLarge spanE
set_option maxRecDepth 10000
variable {G : Base} {h : H}

def hdB (x y : Nat → Int) : Bool := decide (x 0 = y 0) && (decide (x 1 = y 1) && (decide (x 2 = y 2) && (decide (x 3 = y 3) && (decide (x 4 = y 4) && (decide (x 5 = y 5) && (decide (x 6 = y 6) && (decide (x 7 = y 7) && true)))))))
/-- A header, later, as the machine adds. -/
def ltrW (hd : Nat → Int) (w : Int) : Nat → Int := fun i => if i = 4 then IntKind.wrap .i64 (hd 4 + w) else hd i
def folM (w : Int) : List Trc → List Trc → Bool
  | t :: ts, u :: us => !hdB (ltrW t.hd w) u.hd || folM w ts us
  | _, _ => false
def bigM : List Trc → List Trc → Bool
  | t :: ts, u :: us => (!t.hole && !u.hole && decide (1024 < t.n + u.n)) || bigM ts us
  | _, _ => false
def folE (ts us : List Trc) : Int := if ts.length ≠ us.length then 2 else if folM (wid ts : Nat) ts us = true then 24 else if bigM ts us = true then 5 else 0
end Go.Proofs.YthnnndkfpamacaaGreatDoor

/- Lists joined by the program. -/
namespace Go.Proofs.YthnnndkfpamacaaGreatDoor
open Go Go.Ab Go.Fl
attribute [local irreducible] SeqQ BlkQ LpQ RetQ Wc Wo WD WX Op1 Op1q Op1a Cf Cl From
attribute [local irreducible] Ieee.Format.order Ieee.Format.read Ieee.Format.nearest Ieee.Format.write Ieee.Format.mul Ieee.Format.div Ieee.Datum.order Ieee.Datum.integral smpE smp smpW K J U trE hdrE lchk firstNZ isNameB wid mism shE offs shortB anyLarge spanE
set_option maxRecDepth 10000
variable {G : Base} {h : H}

end Go.Proofs.YthnnndkfpamacaaGreatDoor

/- Shots joined by the program. -/
namespace Go.Proofs.YthnnndkfpamacaaGreatDoor
open Go Go.Ab Go.Fl
attribute [local irreducible] SeqQ BlkQ LpQ RetQ Wc Wo WD WX Op1 Op1q Op1a Cf Cl From
attribute [local irreducible] Ieee.Format.order Ieee.Format.read Ieee.Format.nearest Ieee.Format.write Ieee.Format.mul Ieee.Format.div Ieee.Datum.order Ieee.Datum.integral smpE smp smpW K J U trE hdrE lchk firstNZ isNameB wid mism shE offs shortB anyLarge spanE folE
set_option maxRecDepth 10000
variable {G : Base} {h : H}
end Go.Proofs.YthnnndkfpamacaaGreatDoor

/- What is made: two shots held against one another, with their errors. -/
namespace Go.Proofs.YthnnndkfpamacaaGreatDoor
open Go Go.Ab Go.Fl
attribute [local irreducible] SeqQ BlkQ LpQ RetQ Wc Wo WD WX Op1 Op1q Op1a Cf Cl From
attribute [local irreducible] Ieee.Format.order Ieee.Format.read Ieee.Format.nearest Ieee.Format.write Ieee.Format.mul Ieee.Format.div Ieee.Datum.order Ieee.Datum.integral smpE smp smpW K J U trE hdrE lchk firstNZ isNameB wid mism shE offs shortB anyLarge spanE folE
set_option maxRecDepth 10000
variable {G : Base} {h : H}
/-! what the program and the reference make is the same -/
end Go.Proofs.YthnnndkfpamacaaGreatDoor
