/- Facts about ranges. -/
import Derived.Test.YtdfpadokepmknaaGreatDoorT1
set_option linter.all false
/- Tides: the level at a tick, by the reference. -/
namespace Go.Proofs.YtdfpadokepmknaaGreatDoor
open Go Go.Ab Go.Fl
attribute [local irreducible] SeqQ BlkQ LpQ RetQ Wc Wo WD WX Op1 Op1q Op1a Cf Cl From
attribute [local irreducible] Ieee.Format.order Ieee.Format.read Ieee.Format.nearest Ieee.Format.write Ieee.Format.mul Ieee.Format.div Ieee.Datum.order Ieee.Datum.integral smpE smp smpW K J U sumN lchk tchk trE hdrE appL undL undA undI wr ghoL rnd mulL dghL dghA rngE notN innL lowN lowD madeE pairE subL subF anyLarge subE remE difL rowE tidE errT
set_option maxRecDepth 10000
variable {G : Base} {h : H}

theorem rng_ok {x lo hi : Int} (h : rngE x lo hi = 0) : lo ≤ x ∧ x ≤ hi := by
  unfold rngE at h
  split at h
  · exact absurd h (by decide)
  · omega
end Go.Proofs.YtdfpadokepmknaaGreatDoor
