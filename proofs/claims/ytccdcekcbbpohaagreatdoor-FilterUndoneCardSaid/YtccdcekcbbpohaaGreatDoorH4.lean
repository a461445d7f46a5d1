/- Taps applied by the reference, and their adjoint. -/
import Derived.Test.YtccdcekcbbpohaaGreatDoorH1
import Derived.Test.YtccdcekcbbpohaaGreatDoorH0
import Derived.Test.YtccdcekcbbpohaaGreatDoorH3
set_option linter.all false
/- Taps applied, by the reference. -/
namespace Go.Proofs.YtccdcekcbbpohaaGreatDoor
open Go Go.Ab Go.Fl
attribute [local irreducible] SeqQ BlkQ LpQ RetQ Wc Wo WD WX Op1 Op1q Op1a Cf Cl From
attribute [local irreducible] Ieee.Format.order Ieee.Format.read Ieee.Format.nearest Ieee.Format.write Ieee.Format.mul Ieee.Format.div Ieee.Datum.order Ieee.Datum.integral smpE smp smpW K J U sumN lchk tchk trE hdrE appL
set_option maxRecDepth 10000
variable {G : Base} {h : H}

end Go.Proofs.YtccdcekcbbpohaaGreatDoor

/- The law FilterTaps, walked. -/
namespace Go.Proofs.YtccdcekcbbpohaaGreatDoor
open Go Go.Ab Go.Fl
attribute [local irreducible] SeqQ BlkQ LpQ RetQ Wc Wo WD WX Op1 Op1q Op1a Cf Cl From
attribute [local irreducible] Ieee.Format.order Ieee.Format.read Ieee.Format.nearest Ieee.Format.write Ieee.Format.mul Ieee.Format.div Ieee.Datum.order Ieee.Datum.integral smpE smp smpW K J U sumN lchk tchk trE hdrE appL undL undA undI wr ghoL rnd mulL dghL dghA rngE notN pR pI resR resI tR tI rowE allE fz
set_option maxRecDepth 10000
variable {G : Base} {h : H}

section
variable {v w : Value} {n m : Nat} {t : List Int} {l : List Nat}
end
end Go.Proofs.YtccdcekcbbpohaaGreatDoor
