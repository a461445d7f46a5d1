/- The law CoverChanges, walked. -/
import Derived.Test.YtnkmencbnoipmaaGreatDoorC8
set_option linter.all false
/- The law CoverChanges. -/
namespace Go.Proofs.YtnkmencbnoipmaaGreatDoor
open Go Go.Ab Go.Fl
attribute [local irreducible] SeqQ BlkQ LpQ RetQ Wc Wo WD WX Op1 Op1q Op1a Cf Cl From
attribute [local irreducible] Ieee.Format.order Ieee.Format.read Ieee.Format.nearest Ieee.Format.write Ieee.Format.mul Ieee.Format.div Ieee.Format.sqrt Ieee.Datum.order Ieee.Datum.integral K U rngE errN cntE cmpI indE ptE plaE firstNZ numsE lnE BigP isNameB nmE ascA errL chgV chgE
set_option maxRecDepth 10000
variable {G : Base} {h : H}

/-- A middle condition behind code that may return. -/
theorem wc_midR {M : Mc} {ro : Option Nat} {a b : Code} {sz : Nat} {l : KL} {h : H} {Q : X → KL → H → Prop} {ι : Type} (L : ι → KL) (I : ι → H → Prop) (hA : Wc M ro a sz l h (fun x l' h' => (x = .norm ∧ ∃ i, (∀ t v, lk (L i) t = some v → lk l' t = some v) ∧ I i h') ∨ (x = .ret ∧ Q .ret l' h'))) (hB : ∀ i h, I i h → Wc M ro b sz (L i) h Q) : Wc M ro (a.seq b) sz l h Q :=
  wc_seq (wc_mono hA fun x l' h' q => by
    rcases q with ⟨e, i, hl, hi⟩ | ⟨e, q⟩
    · subst e
      exact sq_norm (wc_less hl (hB i h' hi))
    · subst e
      exact sq_ret q)
def Fre (h : H) (B : Nat) : Prop := ∀ c e es s, h.get B = some (.cells c e es s) → es = 12
theorem Fre.new {h h' : H} {k i : Nat} (w : Wf h) (g : Grow (h.bump k) h') (hi : i < k) : Fre h' (h.nx + i) := fun c e es s q => by
  rw [g.get _ (by rw [H.nx_bump]; omega)] at q
  have : (h.bump k).get (h.nx + i) = none := w _ (by omega)
  rw [this] at q
  cases q
theorem Fre.at {h : H} {B : Nat} {c : List Value} {e : TypeId} {s : Bool} (a : At h B (.cells c e 12 s)) : Fre h B := fun c e es s q => by
  rw [a.get] at q
  cases q
  rfl
theorem Sl.setG {es n B : Nat} {w : Value} {L : List Value} (sl : Sl G h es w n L) (hf : Fre h B) (hne : es ≠ 12) (o : AObj) : Sl G (h.set B o) es w n L := by
  cases sl with
  | nil => exact .nil
  | end' b o => exact .end' b o
  | mem a _ cc _ hl hc hnc ho =>
    have hb : a.spot = some 0 → a.block ≠ B := fun q e => by
      obtain ⟨c1, e1, s1, hg⟩ := ho q
      rw [e] at hg
      exact hne (hf _ _ _ _ hg)
    refine .mem a n cc L hl ⟨fun q => hc.lt q, fun i v q => ?_, hc.spot, fun q => ?_⟩ hnc fun q => ?_
    · have := hc.get i v q
      unfold acell at this ⊢
      rcases hc.spot with hs | hs
      · simp only [aadd, hs] at this ⊢; exact this
      · simp only [aadd, hs] at this ⊢
        rw [H.get_set, if_neg (hb hs)]; exact this
    · rw [H.get_set, if_neg (hb q)]; exact hc.own q
    · rw [H.get_set, if_neg (hb q)]; exact ho q/-- A line that lies in a block. -/
def LnAt (G : Base) (h' : H) (b ty : Nat) (V : LnV) : Prop := ∃ a c, At h' b (.cells (vC V a V.rf.length c) ty 12 false) ∧ Sl G h' 1 (.slice a V.rf.length c) V.rf.length (V.rf.map (.int .i64))
theorem LnAt.grow {h1 h2 : H} {b ty : Nat} {V : LnV} (q : LnAt G h1 b ty V) (g : Grow h1 h2) : LnAt G h2 b ty V := by
  obtain ⟨a, c, h3, h4⟩ := q
  exact ⟨a, c, h3.grow g, h4.grow g⟩
theorem LnAt.lt {h1 : H} {b ty : Nat} {V : LnV} (q : LnAt G h1 b ty V) : b < h1.nx := by
  obtain ⟨a, c, h3, _⟩ := q
  exact h3.lt
theorem LnAt.set {h1 : H} {b p ty ty2 : Nat} {V : LnV} {cs : List Value} {sf : Bool} (q : LnAt G h1 b ty V) (hp : At h1 p (.cells cs ty2 12 sf)) (hne : b ≠ p) (o : AObj) : LnAt G (h1.set p o) b ty V := by
  obtain ⟨a, c, h3, h4⟩ := q
  exact ⟨a, c, h3.set_ne hne _, Sl.set_ne h4 hp (by decide) _⟩
theorem revL_len {L : LnV} : (revL L).rf.length = L.rf.length := by unfold revL; simp
theorem cutL_len {L : LnV} {f t : Int} : (cutL L f t).rf.length ≤ L.rf.length := by
  unfold cutL
  exact Nat.le_trans keep_len (by simp)
end Go.Proofs.YtnkmencbnoipmaaGreatDoor
