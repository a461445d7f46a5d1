/- Survey: the diary by the program; what entries are. -/
import Derived.Test.YtlioomhcdlicmaaGreatDoorC9
set_option linter.all false
/- Survey: the diary by the program. -/
namespace Go.Proofs.YtlioomhcdlicmaaGreatDoor
open Go Go.Ab Go.Fl
attribute [local irreducible] SeqQ BlkQ LpQ RetQ Wc Wo WD WX Op1 Op1q Op1a Cf Cl From
attribute [local irreducible] Ieee.Format.order Ieee.Format.read Ieee.Format.nearest Ieee.Format.write Ieee.Format.mul Ieee.Format.div Ieee.Format.sqrt Ieee.Datum.order Ieee.Datum.integral K U rngE errN ptE firstNZ vesE watE sgE sgsE allE hitB sqD insB qsL lvl rn rl altB cauS
set_option maxRecDepth 10000
variable {G : Base} {h : H}

attribute [local irreducible] fl silN insN levN inL leL
structure En where
  f : Int
  t : Int
  c : ByteArray
@[reducible] def En.cells (p : En) : List Value := [.int .i64 p.f, .int .i64 p.t, .string p.c]
theorem En.len (p : En) : p.cells.length = 3 := rfl
theorem En.flat {l : List En} : (l.flatMap En.cells).length = l.length * 3 := flat_len En.len l
end Go.Proofs.YtlioomhcdlicmaaGreatDoor

/- Survey: entries by the reference. -/
namespace Go.Proofs.YtlioomhcdlicmaaGreatDoor
open Go Go.Ab Go.Fl
attribute [local irreducible] SeqQ BlkQ LpQ RetQ Wc Wo WD WX Op1 Op1q Op1a Cf Cl From
attribute [local irreducible] Ieee.Format.order Ieee.Format.read Ieee.Format.nearest Ieee.Format.write Ieee.Format.mul Ieee.Format.div Ieee.Format.sqrt Ieee.Datum.order Ieee.Datum.integral K U rngE errN ptE firstNZ vesE watE sgE sgsE allE hitB sqD insB qsL lvl
set_option maxRecDepth 10000
variable {G : Base} {h : H}

attribute [local irreducible] fl silN insN levN inL leL cauS
theorem op_seqE {M : Mc} {l : KL} {h : H} {t ty : TypeId} {x y : Operand} {a b : ByteArray} (hx : val l x = some (.string a)) (hy : val l y = some (.string b)) (hab : a = b) : Op1 M (.binOp .eql t x y ty) l h (.bool true) h := by
  have := op_seq (M := M) (h := h) (t := t) (ty := ty) hx hy
  rwa [decide_eq_true hab] at this
theorem op_seqN {M : Mc} {l : KL} {h : H} {t ty : TypeId} {x y : Operand} {a b : ByteArray} (hx : val l x = some (.string a)) (hy : val l y = some (.string b)) (hab : ¬a = b) : Op1 M (.binOp .eql t x y ty) l h (.bool false) h := by
  have := op_seq (M := M) (h := h) (t := t) (ty := ty) hx hy
  rwa [decide_eq_false hab] at this
end Go.Proofs.YtlioomhcdlicmaaGreatDoor
