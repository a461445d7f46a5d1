/- Shares removed; the reference. -/
import Derived.Test.YtdfpadokepmknaaGreatDoorH1
set_option linter.all false
/- Shares removed; lists less multiples by the reference; numbers and ratios held against one another. -/
namespace Go.Proofs.YtdfpadokepmknaaGreatDoor
open Go Go.Ab Go.Fl
attribute [local irreducible] SeqQ BlkQ LpQ RetQ Wc Wo WD WX Op1 Op1q Op1a Cf Cl From
attribute [local irreducible] Ieee.Format.order Ieee.Format.read Ieee.Format.nearest Ieee.Format.write Ieee.Format.mul Ieee.Format.div Ieee.Datum.order Ieee.Datum.integral smpE smp smpW K J U sumN lchk tchk trE hdrE appL undL undA undI wr ghoL rnd mulL dghL dghA rngE notN innL lowN lowD madeE pairE subL subF
set_option maxRecDepth 10000
variable {G : Base} {h : H}

def difL (x y : List Int) : List Int := (List.range x.length).map fun i => x.getD i 0 - y.getD i 0
def remE (P : Int) (x : List Int) : Int := if P ≠ 0 then P else if innL x x = 0 then 6 else 0
end Go.Proofs.YtdfpadokepmknaaGreatDoor
