/- Ghosts, multiples, notches, by the program and by the reference. -/
import Derived.Test.YtdfpadokepmknaaGreatDoorG1
set_option linter.all false
/- Ghosts, by the program and by the reference. -/
namespace Go.Proofs.YtdfpadokepmknaaGreatDoor
open Go Go.Ab Go.Fl
set_option maxRecDepth 10000
variable {G : Base} {h : H}
/-! without the ghost -/
def dghA (l : List Int) (d : Nat) : Nat → List Int
  | 0 => []
  | i + 1 => dghA l d i ++ [l.getD i 0 + (if d ≤ i then (dghA l d i).getD (i - d) 0 else 0)]
def dghL (l : List Int) (d : Nat) : List Int := dghA l d l.length
attribute [local irreducible] SeqQ BlkQ LpQ RetQ Wc Wo WD WX Op1 Op1q Op1a Cf Cl From
attribute [local irreducible] Ieee.Format.order Ieee.Format.read Ieee.Format.nearest Ieee.Format.write Ieee.Format.mul Ieee.Format.div Ieee.Datum.order Ieee.Datum.integral smpE smp smpW K J U sumN lchk tchk trE hdrE appL undL undA undI wr ghoL
set_option maxRecDepth 10000

end Go.Proofs.YtdfpadokepmknaaGreatDoor

/- Multiples; lists without their ghosts by the reference; notches. -/
namespace Go.Proofs.YtdfpadokepmknaaGreatDoor
open Go Go.Ab Go.Fl
attribute [local irreducible] SeqQ BlkQ LpQ RetQ Wc Wo WD WX Op1 Op1q Op1a Cf Cl From
attribute [local irreducible] Ieee.Format.order Ieee.Format.read Ieee.Format.nearest Ieee.Format.write Ieee.Format.mul Ieee.Format.div Ieee.Datum.order Ieee.Datum.integral smpE smp smpW K J U sumN lchk tchk trE hdrE appL undL undA undI wr ghoL dghL rnd
set_option maxRecDepth 10000
variable {G : Base} {h : H}
def mulF (l : List Int) (d i : Nat) : Int := if i < d then 0 else -rnd (sumN (i - d + 1) (fun j => l.getD j 0 * l.getD (i - d - j) 0)) 1024
def mulL (l : List Int) (d : Nat) : List Int := (List.range l.length).map (mulF l d)
end Go.Proofs.YtdfpadokepmknaaGreatDoor

/- Lists without their ghosts by the reference; notches; what is heard. -/
namespace Go.Proofs.YtdfpadokepmknaaGreatDoor
open Go Go.Ab Go.Fl
attribute [local irreducible] SeqQ BlkQ LpQ RetQ Wc Wo WD WX Op1 Op1q Op1a Cf Cl From
attribute [local irreducible] Ieee.Format.order Ieee.Format.read Ieee.Format.nearest Ieee.Format.write Ieee.Format.mul Ieee.Format.div Ieee.Datum.order Ieee.Datum.integral smpE smp smpW K J U sumN lchk tchk trE hdrE appL undL undA undI wr ghoL rnd mulL
set_option maxRecDepth 10000
variable {G : Base} {h : H}

end Go.Proofs.YtdfpadokepmknaaGreatDoor

/- Notches; the law FilterGhosts. -/
namespace Go.Proofs.YtdfpadokepmknaaGreatDoor
open Go Go.Ab Go.Fl
attribute [local irreducible] SeqQ BlkQ LpQ RetQ Wc Wo WD WX Op1 Op1q Op1a Cf Cl From
attribute [local irreducible] Ieee.Format.order Ieee.Format.read Ieee.Format.nearest Ieee.Format.write Ieee.Format.mul Ieee.Format.div Ieee.Datum.order Ieee.Datum.integral smpE smp smpW K J U sumN lchk tchk trE hdrE appL undL undA undI wr ghoL rnd mulL dghL dghA madeE anyLarge rngE
set_option maxRecDepth 10000
variable {G : Base} {h : H}

def notN (d : Nat) : Nat → List Int
  | 0 => []
  | k + 1 => if k * d % 4 = 0 then notN d k ++ [(k : Int)] else notN d k
end Go.Proofs.YtdfpadokepmknaaGreatDoor
