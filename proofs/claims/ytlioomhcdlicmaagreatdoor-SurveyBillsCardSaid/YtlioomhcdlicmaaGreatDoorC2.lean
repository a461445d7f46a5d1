/- Survey: sightings, by the program and by the reference. -/
import Derived.Test.YtlioomhcdlicmaaGreatDoorC1
set_option linter.all false
/- Sightings: their errors by the program and by the reference. -/
namespace Go.Proofs.YtlioomhcdlicmaaGreatDoor
open Go Go.Ab Go.Fl
attribute [local irreducible] SeqQ BlkQ LpQ RetQ Wc Wo WD WX Op1 Op1q Op1a Cf Cl From
attribute [local irreducible] Ieee.Format.order Ieee.Format.read Ieee.Format.nearest Ieee.Format.write Ieee.Format.mul Ieee.Format.div Ieee.Format.sqrt Ieee.Datum.order Ieee.Datum.integral K U rngE errN ptE firstNZ vesE watE
set_option maxRecDepth 10000
variable {G : Base} {h : H}

/-- The error of the i-th record in a list whose records must follow one another. -/
def sucA {α : Type} (d : α) (e : α → Int) (ok : α → α → Bool) (l : List α) (i : Nat) : Int := if e (l.getD i d) ≠ 0 then e (l.getD i d) else if 0 < i ∧ ok (l.getD i d) (l.getD (i - 1) d) = false then 11 else 0

structure Sg where
  t : Int
  x : Int
  y : Int
@[reducible] def Sg.cells (p : Sg) : List Value := [.int .i64 p.t, .int .i64 p.x, .int .i64 p.y]
theorem Sg.len (p : Sg) : p.cells.length = 3 := rfl
theorem Sg.flat {l : List Sg} : (l.flatMap Sg.cells).length = l.length * 3 := flat_len Sg.len l

def sgE (p : Sg) : Int := firstNZ [rngE p.t 0 100000, ptE p.x p.y 100000]
def sgsE (l : List Sg) : Int := if 64 < l.length then 5 else errN (sucA ⟨0, 0, 0⟩ sgE (fun a b => decide (b.t ≤ a.t)) l) l.length
end Go.Proofs.YtlioomhcdlicmaaGreatDoor

/- Sightings by the reference; a vessel, a watch and sightings. -/
namespace Go.Proofs.YtlioomhcdlicmaaGreatDoor
open Go Go.Ab Go.Fl
attribute [local irreducible] SeqQ BlkQ LpQ RetQ Wc Wo WD WX Op1 Op1q Op1a Cf Cl From
attribute [local irreducible] Ieee.Format.order Ieee.Format.read Ieee.Format.nearest Ieee.Format.write Ieee.Format.mul Ieee.Format.div Ieee.Format.sqrt Ieee.Datum.order Ieee.Datum.integral K U rngE errN ptE firstNZ vesE watE sgE sgsE
set_option maxRecDepth 10000
variable {G : Base} {h : H}
def allE (x y u v t r sp lo cl so : Int) (l : List Sg) : Int := firstNZ [vesE x y u v t, watE r sp lo cl so, sgsE l]
end Go.Proofs.YtlioomhcdlicmaaGreatDoor
