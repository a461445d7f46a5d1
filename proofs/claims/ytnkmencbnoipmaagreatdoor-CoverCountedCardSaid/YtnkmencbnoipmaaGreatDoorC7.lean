/- Cover: lines that are changed, by the program. -/
import Derived.Test.YtnkmencbnoipmaaGreatDoorC6
set_option linter.all false
/- A line that is changed. -/
namespace Go.Proofs.YtnkmencbnoipmaaGreatDoor
open Go Go.Ab Go.Fl
attribute [local irreducible] SeqQ BlkQ LpQ RetQ Wc Wo WD WX Op1 Op1q Op1a Cf Cl From
attribute [local irreducible] Ieee.Format.order Ieee.Format.read Ieee.Format.nearest Ieee.Format.write Ieee.Format.mul Ieee.Format.div Ieee.Format.sqrt Ieee.Datum.order Ieee.Datum.integral K U rngE errN cntE cmpI indE ptE plaE firstNZ numsE lnE BigP isNameB nmE ascA
set_option maxRecDepth 10000
variable {G : Base} {h : H}

theorem at_C {h : H} {b : Nat} {o : AObj} (q : At h b o := by (first | refine At.lay ?_ | refine At.set_ne (At.lay ?_) ?_ _); all_goals ((try dsimp only); simp only [H.nx_push, H.nx_set]; omega)) : At h b o := q
end Go.Proofs.YtnkmencbnoipmaaGreatDoor

/- What a line is changed by. -/
namespace Go.Proofs.YtnkmencbnoipmaaGreatDoor
open Go Go.Ab Go.Fl
attribute [local irreducible] SeqQ BlkQ LpQ RetQ Wc Wo WD WX Op1 Op1q Op1a Cf Cl From
attribute [local irreducible] Ieee.Format.order Ieee.Format.read Ieee.Format.nearest Ieee.Format.write Ieee.Format.mul Ieee.Format.div Ieee.Format.sqrt Ieee.Datum.order Ieee.Datum.integral K U rngE errN cntE cmpI indE ptE plaE firstNZ numsE lnE BigP isNameB nmE ascA
set_option maxRecDepth 10000
variable {G : Base} {h : H}
end Go.Proofs.YtnkmencbnoipmaaGreatDoor

/- Lines moved, by the program. -/
namespace Go.Proofs.YtnkmencbnoipmaaGreatDoor
open Go Go.Ab Go.Fl
attribute [local irreducible] SeqQ BlkQ LpQ RetQ Wc Wo WD WX Op1 Op1q Op1a Cf Cl From
attribute [local irreducible] Ieee.Format.order Ieee.Format.read Ieee.Format.nearest Ieee.Format.write Ieee.Format.mul Ieee.Format.div Ieee.Format.sqrt Ieee.Datum.order Ieee.Datum.integral K U rngE errN cntE cmpI indE ptE plaE firstNZ numsE lnE BigP isNameB nmE ascA
set_option maxRecDepth 10000
variable {G : Base} {h : H}

structure LnV where
  nm : ByteArray
  (x y tx ty sh nx ny px py ch : Int)
  rf : List Int
@[reducible] def vC (L : LnV) (a : Option Addr) (n c : Nat) : List Value := lnC L.nm L.x L.y L.tx L.ty L.sh L.nx L.ny L.px L.py L.ch a n c
def zL : LnV := ⟨.empty, 0, 0, 0, 0, 0, 0, 0, 0, 0, 0, []⟩
noncomputable def errL (L : LnV) : Int := lnE L.nm L.x L.y L.tx L.ty L.sh L.nx L.ny L.px L.py L.ch L.rf
noncomputable def chgV (L : LnV) : LnV := if errL L = 0 then L else zL
noncomputable def chgE (L : LnV) : Int := if errL L = 0 then 0 else 4
/-- A line with an error, as a result. -/
def LnRes (G : Base) (h' : H) (r : Value) (V : LnV) (e : Int) : Prop := ∃ a c, r = .tuple #[.agg ⟨vC V a V.rf.length c⟩, .int .i64 e] ∧ Sl G h' 1 (.slice a V.rf.length c) V.rf.length (V.rf.map (.int .i64))
theorem LnRes.zero {h' : H} {e : Int} : LnRes G h' (.tuple #[.agg ⟨vC zL none 0 0⟩, .int .i64 e]) zL e := ⟨none, 0, rfl, .nil⟩
theorem lnE_inv {nm : ByteArray} {x y tx ty sh nx ny px py ch : Int} {rf : List Int} (h : lnE nm x y tx ty sh nx ny px py ch rf = 0) : isNameB nm = true ∧ numsE [x, y, tx, ty, sh, nx, ny, px, py, ch] = 0 ∧ indE rf sh = 0 ∧ ¬BigP x y tx ty nx ny px py sh.toNat ch.toNat := by
  unfold lnE at h
  split at h
  · rename_i h1
    split at h
    · rename_i h2; exact absurd h h2
    · rename_i h2
      split at h
      · rename_i h3; exact absurd h h3
      · rename_i h3
        split at h
        · cases h
        · rename_i h4
          exact ⟨h1, Decidable.not_not.1 h2, Decidable.not_not.1 h3, h4⟩
  · cases h
theorem errL_eq {nm : ByteArray} {x y tx ty sh nx ny px py ch : Int} {rf : List Int} : errL ⟨nm, x, y, tx, ty, sh, nx, ny, px, py, ch, rf⟩ = lnE nm x y tx ty sh nx ny px py ch rf := rfl
attribute [local irreducible] errL chgV chgE

end Go.Proofs.YtnkmencbnoipmaaGreatDoor

/- Lines reversed and cut, by the program. -/
namespace Go.Proofs.YtnkmencbnoipmaaGreatDoor
open Go Go.Ab Go.Fl
attribute [local irreducible] SeqQ BlkQ LpQ RetQ Wc Wo WD WX Op1 Op1q Op1a Cf Cl From
attribute [local irreducible] Ieee.Format.order Ieee.Format.read Ieee.Format.nearest Ieee.Format.write Ieee.Format.mul Ieee.Format.div Ieee.Format.sqrt Ieee.Datum.order Ieee.Datum.integral K U rngE errN cntE cmpI indE ptE plaE firstNZ numsE lnE BigP isNameB nmE ascA errL chgV chgE
set_option maxRecDepth 10000
variable {G : Base} {h : H}

theorem ind_mem {l : List Int} {m : Int} (h : indE l m = 0) : ∀ i, i < l.length → (0 ≤ l.getD i 0 ∧ l.getD i 0 < m) ∧ (0 < i → l.getD (i - 1) 0 < l.getD i 0) := by
  intro i hi
  have q : ascA (fun x => idxE x m) l i = 0 := by
    unfold indE at h
    by_cases q : errN (ascA (fun x => idxE x m) l) (i + 1) = 0
    · by_cases r : errN (ascA (fun x => idxE x m) l) i = 0
      · rw [errN_next r] at q; exact q
      · rw [errN_hit (k := i) (by omega) r] at q; exact absurd q r
    · rw [errN_hit (k := i + 1) (by omega) q] at h
      exact absurd h q
  rw [asc_val rfl] at q
  split at q
  · cases q
  · rename_i h1
    split at q
    · cases q
    · rename_i h2
      exact ⟨by omega, fun h3 => by omega⟩
end Go.Proofs.YtnkmencbnoipmaaGreatDoor
