/- Survey: whether an animal may be inside; the states of a watch at the ticks of a vessel; levels. -/
import Derived.Test.YtlioomhcdlicmaaGreatDoorC2
import Derived.Test.YtlioomhcdlicmaaGreatDoorK4
set_option linter.all false
/- Survey: whether an animal may be inside; the states of a watch. -/
namespace Go.Proofs.YtlioomhcdlicmaaGreatDoor
open Go Go.Ab Go.Fl
attribute [local irreducible] SeqQ BlkQ LpQ RetQ Wc Wo WD WX Op1 Op1q Op1a Cf Cl From
attribute [local irreducible] Ieee.Format.order Ieee.Format.read Ieee.Format.nearest Ieee.Format.write Ieee.Format.mul Ieee.Format.div Ieee.Format.sqrt Ieee.Datum.order Ieee.Datum.integral K U rngE errN ptE firstNZ vesE watE sgE sgsE allE
set_option maxRecDepth 10000
variable {G : Base} {h : H}

def sqD (a b c d : Int) : Int := (c - a) * (c - a) + (d - b) * (d - b)
/-- Whether an animal that was sighted may be inside. -/
def hitB (r sp lo px py k : Int) (s : Sg) : Bool := decide ((0 ≤ k - s.t ∧ k - s.t ≤ lo) ∧ sqD s.x s.y px py ≤ (r + sp * (k - s.t)) * (r + sp * (k - s.t)))
end Go.Proofs.YtlioomhcdlicmaaGreatDoor

/- Survey: the states of a watch at the ticks of a vessel. -/
namespace Go.Proofs.YtlioomhcdlicmaaGreatDoor
open Go Go.Ab Go.Fl
attribute [local irreducible] SeqQ BlkQ LpQ RetQ Wc Wo WD WX Op1 Op1q Op1a Cf Cl From
attribute [local irreducible] Ieee.Format.order Ieee.Format.read Ieee.Format.nearest Ieee.Format.write Ieee.Format.mul Ieee.Format.div Ieee.Format.sqrt Ieee.Datum.order Ieee.Datum.integral K U rngE errN ptE firstNZ vesE watE sgE sgsE allE hitB sqD
set_option maxRecDepth 10000
variable {G : Base} {h : H}

/-- For how many ticks no animal may have been inside. -/
def qt (I : Nat → Bool) : Nat → Nat
  | 0 => 0
  | k + 1 => if I k then 0 else qt I k + 1
def insB (x y u v r sp lo : Int) (l : List Sg) (k : Nat) : Bool := l.any (hitB r sp lo (x + (k : Int) * u) (y + (k : Int) * v) (k : Int))
def qsL (I : Nat → Bool) (T : Nat) : List Int := (List.range T).map fun i => (qt I (i + 1) : Int)
end Go.Proofs.YtlioomhcdlicmaaGreatDoor

/- Survey: levels of states; states mapped. -/
namespace Go.Proofs.YtlioomhcdlicmaaGreatDoor
open Go Go.Ab Go.Fl
attribute [local irreducible] SeqQ BlkQ LpQ RetQ Wc Wo WD WX Op1 Op1q Op1a Cf Cl From
attribute [local irreducible] Ieee.Format.order Ieee.Format.read Ieee.Format.nearest Ieee.Format.write Ieee.Format.mul Ieee.Format.div Ieee.Format.sqrt Ieee.Datum.order Ieee.Datum.integral K U rngE errN ptE firstNZ vesE watE sgE sgsE allE hitB sqD insB qsL
set_option maxRecDepth 10000
variable {G : Base} {h : H}

/-- The level of a quiet. -/
def lvl (cl so q : Int) : Int := min (max (q - cl) 0) (so + 1)
end Go.Proofs.YtlioomhcdlicmaaGreatDoor
