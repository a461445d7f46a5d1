/- Cover: reversed and cut lines are lines; lines changed by the reference. -/
import Derived.Test.YtnkmencbnoipmaaGreatDoorC7
import Derived.Test.YtnkmencbnoipmaaGreatDoorK2
set_option linter.all false
/- Reversed and cut lines are lines. -/
namespace Go.Proofs.YtnkmencbnoipmaaGreatDoor
open Go Go.Ab Go.Fl
attribute [local irreducible] SeqQ BlkQ LpQ RetQ Wc Wo WD WX Op1 Op1q Op1a Cf Cl From
attribute [local irreducible] Ieee.Format.order Ieee.Format.read Ieee.Format.nearest Ieee.Format.write Ieee.Format.mul Ieee.Format.div Ieee.Format.sqrt Ieee.Datum.order Ieee.Datum.integral K U rngE errN cntE cmpI plaE firstNZ numsE lnE BigP isNameB nmE ascA errL chgV chgE
set_option maxRecDepth 10000
variable {G : Base} {h : H}

theorem asc_pair {l : List Int} (h : ∀ i, i < l.length → 0 < i → l.getD (i - 1) 0 < l.getD i 0) : l.Pairwise (· < ·) := by
  rw [List.pairwise_iff_getElem]
  intro i j hi hj hij
  rw [getElem_getD hi, getElem_getD hj]
  induction j with
  | zero => omega
  | succ j ih =>
    have q := h (j + 1) hj (by omega)
    rw [Nat.add_sub_cancel] at q
    by_cases e : i = j
    · rw [e]; exact q
    · have := ih (by omega) (by omega)
      omega
end Go.Proofs.YtnkmencbnoipmaaGreatDoor

/- Lines moved, by the reference. -/
namespace Go.Proofs.YtnkmencbnoipmaaGreatDoor
open Go Go.Ab Go.Fl
attribute [local irreducible] SeqQ BlkQ LpQ RetQ Wc Wo WD WX Op1 Op1q Op1a Cf Cl From
attribute [local irreducible] Ieee.Format.order Ieee.Format.read Ieee.Format.nearest Ieee.Format.write Ieee.Format.mul Ieee.Format.div Ieee.Format.sqrt Ieee.Datum.order Ieee.Datum.integral K U rngE errN cntE cmpI indE ptE plaE firstNZ numsE lnE BigP isNameB nmE ascA errL chgV chgE
set_option maxRecDepth 10000
variable {G : Base} {h : H}

end Go.Proofs.YtnkmencbnoipmaaGreatDoor

/- Lines reversed and cut, by the reference. -/
namespace Go.Proofs.YtnkmencbnoipmaaGreatDoor
open Go Go.Ab Go.Fl
attribute [local irreducible] SeqQ BlkQ LpQ RetQ Wc Wo WD WX Op1 Op1q Op1a Cf Cl From
attribute [local irreducible] Ieee.Format.order Ieee.Format.read Ieee.Format.nearest Ieee.Format.write Ieee.Format.mul Ieee.Format.div Ieee.Format.sqrt Ieee.Datum.order Ieee.Datum.integral K U rngE errN cntE cmpI indE ptE plaE firstNZ numsE lnE BigP isNameB nmE ascA errL chgV chgE
set_option maxRecDepth 10000
variable {G : Base} {h : H}

end Go.Proofs.YtnkmencbnoipmaaGreatDoor

/- Lines cut, by the reference. -/
namespace Go.Proofs.YtnkmencbnoipmaaGreatDoor
open Go Go.Ab Go.Fl
attribute [local irreducible] SeqQ BlkQ LpQ RetQ Wc Wo WD WX Op1 Op1q Op1a Cf Cl From
attribute [local irreducible] Ieee.Format.order Ieee.Format.read Ieee.Format.nearest Ieee.Format.write Ieee.Format.mul Ieee.Format.div Ieee.Format.sqrt Ieee.Datum.order Ieee.Datum.integral K U rngE errN cntE cmpI indE ptE plaE firstNZ numsE lnE BigP isNameB nmE ascA errL chgV chgE
set_option maxRecDepth 10000
variable {G : Base} {h : H}

end Go.Proofs.YtnkmencbnoipmaaGreatDoor
