/- Cover: folds, needs and gaps by the reference. -/
import Derived.Test.YtnkmencbnoipmaaGreatDoorN4
set_option linter.all false
/- Fold, needs and gaps by the reference. -/
namespace Go.Proofs.YtnkmencbnoipmaaGreatDoor
open Go Go.Ab Go.Fl
attribute [local irreducible] SeqQ BlkQ LpQ RetQ Wc Wo WD WX Op1 Op1q Op1a Cf Cl From
attribute [local irreducible] Ieee.Format.order Ieee.Format.read Ieee.Format.nearest Ieee.Format.write Ieee.Format.mul Ieee.Format.div Ieee.Format.sqrt Ieee.Datum.order Ieee.Datum.integral K U rngE errN cntE cmpI indE ptE plaE firstNZ numsE lnE BigP isNameB nmE ascA errL chgV chgE griE clsE clsG sqD binI covP covV hit outI plsP rowP linsE surE
set_option maxRecDepth 10000
variable {G : Base} {h : H}

theorem op_quoN {M : Mc} {l : KL} {h : H} {x y : Operand} {t : TypeId} {ty : TypeId} {A B : Int} (p q r : Nat) (hx : val l x = some (.int .i64 A)) (hy : val l y = some (.int .i64 B)) (hA : A = p) (hB : B = q) (h0 : 0 < q) (hr : p / q = r) (hs : r < 1000000) : Op1 M (.binOp .quo t x y ty) l h (.int .i64 (r : Int)) h := by
  subst hA hB hr
  refine op_quoV hx hy (by omega) ?_
  rw [Int.tdiv_eq_ediv_of_nonneg (by omega), ← Int.natCast_ediv]
  generalize p / q = r at hs ⊢
  exact w64 (by omega) (by omega)
end Go.Proofs.YtnkmencbnoipmaaGreatDoor
