/- Rounding; lists by the reference; taps undone. -/
import Derived.Test.YtdfpadokepmknaaGreatDoorL1
set_option linter.all false
/- Rounding; lists of integers by the reference; ghosts. -/
namespace Go.Proofs.YtdfpadokepmknaaGreatDoor
open Go Go.Ab Go.Fl
attribute [local irreducible] SeqQ BlkQ LpQ RetQ Wc Wo WD WX Op1 Op1q Op1a Cf Cl From
attribute [local irreducible] Ieee.Format.order Ieee.Format.read Ieee.Format.nearest Ieee.Format.write Ieee.Format.mul Ieee.Format.div Ieee.Datum.order Ieee.Datum.integral smpE smp smpW K J U sumN lchk tchk trE hdrE appL
set_option maxRecDepth 10000
variable {G : Base} {h : H}
/-- A quotient, rounded: from the middle to the greater integer. -/
def rnd (a b : Int) : Int := (2 * a + b) / (2 * b)
theorem op_quoV {M : Mc} {l : KL} {x y : Operand} {t ty : TypeId} {a b v : Int} {k : IntKind} (hx : val l x = some (.int k a)) (hy : val l y = some (.int k b)) (h0 : b ≠ 0) (hv : k.wrap (a.tdiv b) = v) : Op1 M (.binOp .quo t x y ty) l h (.int k v) h := by
  subst hv; exact op_quo hx hy h0
theorem op_remV {M : Mc} {l : KL} {x y : Operand} {t ty : TypeId} {a b v : Int} {k : IntKind} (hx : val l x = some (.int k a)) (hy : val l y = some (.int k b)) (h0 : b ≠ 0) (hv : a.tmod b = v) : Op1 M (.binOp .rem t x y ty) l h (.int k v) h := by
  subst hv; exact op_rem hx hy h0
/-! lists of integers, made one by one -/
/-! ghosts -/
def ghoL (l : List Int) (d : Nat) : List Int := (List.range l.length).map fun i => l.getD i 0 - (if d ≤ i then l.getD (i - d) 0 else 0)
end Go.Proofs.YtdfpadokepmknaaGreatDoor

/- Taps undone; ghosts by the program. -/
namespace Go.Proofs.YtdfpadokepmknaaGreatDoor
open Go Go.Ab Go.Fl
attribute [local irreducible] SeqQ BlkQ LpQ RetQ Wc Wo WD WX Op1 Op1q Op1a Cf Cl From
attribute [local irreducible] Ieee.Format.order Ieee.Format.read Ieee.Format.nearest Ieee.Format.write Ieee.Format.mul Ieee.Format.div Ieee.Datum.order Ieee.Datum.integral smpE smp smpW K J U sumN lchk tchk trE hdrE appL
set_option maxRecDepth 10000
variable {G : Base} {h : H}

/-- What an integer of 64 bits holds. -/
def wr (x : Int) : Int := IntKind.wrap .i64 x
def undI (t o : List Int) (i : Nat) (x : Int) : Nat → Int
  | 0 => x
  | j + 1 => wr (undI t o i x j - wr (t.getD (j + 1) 0 * o.getD (i - j - 1) 0))
def undA (t l : List Int) : Nat → List Int
  | 0 => []
  | i + 1 => undA t l i ++ [wr (undI t (undA t l i) i (l.getD i 0) (min (t.length - 1) i) * t.getD 0 0)]
def undL (t l : List Int) : List Int := undA t l l.length
end Go.Proofs.YtdfpadokepmknaaGreatDoor
