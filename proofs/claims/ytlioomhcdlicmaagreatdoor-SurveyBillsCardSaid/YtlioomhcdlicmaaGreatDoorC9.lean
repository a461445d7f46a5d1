/- Survey: windows told by a relation; runs of words. -/
import Derived.Test.YtlioomhcdlicmaaGreatDoorC8
import Derived.Test.YtlioomhcdlicmaaGreatDoorL0
set_option linter.all false
/- Survey: windows both ways. -/
namespace Go.Proofs.YtlioomhcdlicmaaGreatDoor
open Go Go.Ab Go.Fl
attribute [local irreducible] SeqQ BlkQ LpQ RetQ Wc Wo WD WX Op1 Op1q Op1a Cf Cl From
attribute [local irreducible] Ieee.Format.order Ieee.Format.read Ieee.Format.nearest Ieee.Format.write Ieee.Format.mul Ieee.Format.div Ieee.Format.sqrt Ieee.Datum.order Ieee.Datum.integral K U rngE errN ptE firstNZ vesE watE sgE sgsE allE hitB sqD insB qsL lvl rn rl
set_option maxRecDepth 10000
variable {G : Base} {h : H}

attribute [local irreducible] fl silN insN levN inL leL
end Go.Proofs.YtlioomhcdlicmaaGreatDoor

/- Survey: runs of words; the cause of a tick. -/
namespace Go.Proofs.YtlioomhcdlicmaaGreatDoor
open Go Go.Ab Go.Fl
attribute [local irreducible] SeqQ BlkQ LpQ RetQ Wc Wo WD WX Op1 Op1q Op1a Cf Cl From
attribute [local irreducible] Ieee.Format.order Ieee.Format.read Ieee.Format.nearest Ieee.Format.write Ieee.Format.mul Ieee.Format.div Ieee.Format.sqrt Ieee.Datum.order Ieee.Datum.integral K U rngE errN ptE firstNZ vesE watE sgE sgsE allE hitB sqD insB qsL lvl
set_option maxRecDepth 10000
variable {G : Base} {h : H}

attribute [local irreducible] fl silN insN levN inL leL
theorem op_snes {M : Mc} {l : KL} {h : H} {t ty : TypeId} {x y : Operand} {a : ByteArray} (hx : val l x = some (.string a)) (hy : val l y = some (.string a)) : Op1 M (.binOp .neq t x y ty) l h (.bool false) h := by
  have := op_sne (M := M) (h := h) (t := t) (ty := ty) hx hy
  simpa using this
/-- Turns where the words do. -/
def altB (W : Nat → ByteArray) : Nat → Bool
  | 0 => false
  | k + 1 => if W (k + 1) = W k then altB W k else !altB W k
def wWe : ByteArray := ⟨⟨[119, 101, 97, 116, 104, 101, 114]⟩⟩
def wSh : ByteArray := ⟨⟨[115, 104, 97, 114, 101]⟩⟩
def wAn : ByteArray := ⟨⟨[97, 110, 105, 109, 97, 108]⟩⟩
def wSo : ByteArray := ⟨⟨[115, 104, 111, 111, 116]⟩⟩

/-- The cause of a tick. -/
def cauS (wk sk si : Bool) : ByteArray := if wk then wWe else if sk then (if si then wAn else wSo) else wSh
end Go.Proofs.YtlioomhcdlicmaaGreatDoor
