/- Cover: classes and bins. -/
import Derived.Test.YtnkmencbnoipmaaGreatDoorC2
set_option linter.all false
/- Cover: classes and bins, by the program and by the reference. -/
namespace Go.Proofs.YtnkmencbnoipmaaGreatDoor
open Go Go.Ab Go.Fl
attribute [local irreducible] SeqQ BlkQ LpQ RetQ Wc Wo WD WX Op1 Op1q Op1a Cf Cl From
attribute [local irreducible] Ieee.Format.order Ieee.Format.read Ieee.Format.nearest Ieee.Format.write Ieee.Format.mul Ieee.Format.div Ieee.Format.sqrt Ieee.Datum.order Ieee.Datum.integral K U rngE firstNZ ptE errN cntE cmpI plaE griE sqD clsE
set_option maxRecDepth 10000
variable {G : Base} {h : H}

theorem in_atG {v : Value} {n : Nat} {l : List Int} (s : Sl G h 1 v n (l.map (.int .i64))) {i : Int} {q : Nat} (hq : q < n) (hi : i = q) : ∃ ad, aindexAddr Tryz.prog 41 v (.int .i64 i) = some (.pointer (some ad)) ∧ ∀ h', Grow h h' → acell G h' ad = some (.int .i64 (l.getD q 0)) := by
  obtain ⟨ad, h1, h2⟩ := in_at s hq hi
  refine ⟨ad, h1, fun h' g => ?_⟩
  obtain ⟨ad', k1, k2⟩ := in_at (s.grow g) hq hi
  rw [h1] at k1
  cases k1
  exact k2

/-! bins -/
def inB (r c p q : Int) : Prop := 0 ≤ c ∧ c < p ∧ 0 ≤ r ∧ r < q
instance (r c p q : Int) : Decidable (inB r c p q) := by unfold inB; exact inferInstance
end Go.Proofs.YtnkmencbnoipmaaGreatDoor
