/- Taps applied: their sums; samples that are made. -/
import Derived.Test.YtccdcekcbbpohaaGreatDoorC2
import Derived.Test.YtccdcekcbbpohaaGreatDoorC3
set_option linter.all false
/- Taps applied: their sums. -/
namespace Go.Proofs.YtccdcekcbbpohaaGreatDoor
open Go Go.Ab Go.Fl
attribute [local irreducible] SeqQ BlkQ LpQ RetQ Wc Wo WD WX Op1 Op1q Op1a Cf Cl From
attribute [local irreducible] Ieee.Format.order Ieee.Format.read Ieee.Format.nearest Ieee.Format.write Ieee.Format.mul Ieee.Format.div Ieee.Datum.order Ieee.Datum.integral smpE smp smpW K J U lchk tchk trE hdrE
set_option maxRecDepth 10000
variable {G : Base} {h : H}

end Go.Proofs.YtccdcekcbbpohaaGreatDoor

/- FilterAdjoint: what the walk reads. -/
namespace Go.Proofs.YtccdcekcbbpohaaGreatDoor
open Go Go.Ab Go.Fl
attribute [local irreducible] SeqQ BlkQ LpQ RetQ Wc Wo WD WX Op1 Op1q Op1a Cf Cl From
attribute [local irreducible] Ieee.Format.order Ieee.Format.read Ieee.Format.nearest Ieee.Format.write Ieee.Format.mul Ieee.Format.div Ieee.Datum.order Ieee.Datum.integral smpE smp smpW K J U sumN lchk tchk trE hdrE appL
set_option maxRecDepth 10000
variable {G : Base} {h : H}
theorem large_no {L : List Int} (h : ∀ x ∈ L, x.natAbs ≤ 16384) : anyLarge L = false := by
  unfold anyLarge
  rw [List.any_eq_false]
  intro x hx
  have := h x hx
  have : isLargeB x = false := decide_eq_false (by omega)
  simp [this]
section
variable {v w : Value} {n m : Nat} {t : List Int} {l : List Nat}
end
/-! the law's own lists: a sum of floats, and a list backwards -/
theorem smp_getD {l : List Nat} {i : Nat} (h : i < l.length) : smp l[i] = (l.map smp).getD i 0 := by simp [List.getD, List.getElem?_eq_getElem h]
end Go.Proofs.YtccdcekcbbpohaaGreatDoor
