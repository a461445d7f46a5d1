/- Shots joined by the reference; what is made, told of copies. -/
import Derived.Test.YthnnndkfpamacaaGreatDoorM3
set_option linter.all false
/- Shots joined by the reference (unfinished: two goals left open). -/
namespace Go.Proofs.YthnnndkfpamacaaGreatDoor
open Go Go.Ab Go.Fl
attribute [local irreducible] SeqQ BlkQ LpQ RetQ Wc Wo WD WX Op1 Op1q Op1a Cf Cl From
attribute [local irreducible] Ieee.Format.order Ieee.Format.read Ieee.Format.nearest Ieee.Format.write Ieee.Format.mul Ieee.Format.div Ieee.Datum.order Ieee.Datum.integral smpE smp smpW K J U trE hdrE lchk firstNZ isNameB wid mism shE offs shortB anyLarge spanE folE
set_option maxRecDepth 10000
variable {G : Base} {h : H}

end Go.Proofs.YthnnndkfpamacaaGreatDoor

/- What the law of cuts asks: the same from copies. -/
namespace Go.Proofs.YthnnndkfpamacaaGreatDoor
open Go Go.Ab Go.Fl
variable {G : Base} {h : H}
end Go.Proofs.YthnnndkfpamacaaGreatDoor

/- The law of cuts: what is made from copies. -/
namespace Go.Proofs.YthnnndkfpamacaaGreatDoor
open Go Go.Ab Go.Fl
attribute [local irreducible] SeqQ BlkQ LpQ RetQ Wc Wo WD WX Op1 Op1q Op1a Cf Cl From
attribute [local irreducible] Ieee.Format.order Ieee.Format.read Ieee.Format.nearest Ieee.Format.write Ieee.Format.mul Ieee.Format.div Ieee.Datum.order Ieee.Datum.integral smpE smp smpW K J U trE hdrE lchk firstNZ isNameB wid mism shE offs shortB anyLarge spanE folE
set_option maxRecDepth 10000
variable {G : Base} {h : H}
/-- A shot that was made, with her error; Z: what holds of her traces. -/
def MadeR (G : Base) (h : H) (C : Int) (nm : ByteArray) (n : Nat) (Z : List Trc → Prop) (nmR : ByteArray) (aR : Option Addr) (nR cR : Nat) : Prop :=
  (C ≠ 0 ∧ nmR = .empty ∧ aR = none ∧ nR = 0 ∧ cR = 0) ∨ (C = 0 ∧ nmR = nm ∧ nR = n ∧ ∃ vs : List Trc, SlT G h (.slice aR n cR) n vs ∧ Z vs)
theorem MadeR.grow {h h' : H} {C : Int} {nm : ByteArray} {n : Nat} {Z : List Trc → Prop} {nmR : ByteArray} {aR : Option Addr} {nR cR : Nat} (m : MadeR G h C nm n Z nmR aR nR cR) (g : Grow h h') : MadeR G h' C nm n Z nmR aR nR cR :=
  m.imp id fun ⟨e, e1, e2, vs, st, z⟩ => ⟨e, e1, e2, vs, st.grow g, z⟩
end Go.Proofs.YthnnndkfpamacaaGreatDoor

/- The law of cuts: what the program and the reference make, held against one another. -/
namespace Go.Proofs.YthnnndkfpamacaaGreatDoor
open Go Go.Ab Go.Fl
attribute [local irreducible] SeqQ BlkQ LpQ RetQ Wc Wo WD WX Op1 Op1q Op1a Cf Cl From
attribute [local irreducible] Ieee.Format.order Ieee.Format.read Ieee.Format.nearest Ieee.Format.write Ieee.Format.mul Ieee.Format.div Ieee.Datum.order Ieee.Datum.integral smpE smp smpW K J U trE hdrE lchk firstNZ isNameB wid mism shE offs shortB anyLarge spanE folE
set_option maxRecDepth 10000
variable {G : Base} {h : H}
/-- A block that holds no list's cells of the widths 1 and 10. -/
def Free (h : H) (B : Nat) : Prop := ∀ c e es s, h.get B = some (.cells c e es s) → es = 2
theorem Free.new {h h' : H} {k i : Nat} (w : Wf h) (g : Grow (h.bump k) h') (hi : i < k) : Free h' (h.nx + i) := fun c e es s q => by
  rw [g.get _ (by rw [H.nx_bump]; omega)] at q
  have : (h.bump k).get (h.nx + i) = none := w _ (by omega)
  rw [this] at q
  cases q
theorem Free.at {h : H} {B : Nat} {c : List Value} {e : TypeId} {s : Bool} (a : At h B (.cells c e 2 s)) : Free h B := fun c e es s q => by
  rw [a.get] at q
  cases q
  rfl
theorem Sl.setF {es n B : Nat} {w : Value} {L : List Value} (sl : Sl G h es w n L) (hf : Free h B) (hne : es ≠ 2) (o : AObj) : Sl G (h.set B o) es w n L := by
  cases sl with
  | nil => exact .nil
  | end' b o => exact .end' b o
  | mem a _ cc _ hl hc hnc ho =>
    have hb : a.spot = some 0 → a.block ≠ B := fun q e => by
      obtain ⟨c1, e1, s1, hg⟩ := ho q
      rw [e] at hg
      exact hne (hf _ _ _ _ hg)
    refine .mem a n cc L hl ⟨fun q => hc.lt q, fun i v q => ?_, hc.spot, fun q => ?_⟩ hnc fun q => ?_
    · have := hc.get i v q
      unfold acell at this ⊢
      rcases hc.spot with hs | hs
      · simp only [aadd, hs] at this ⊢; exact this
      · simp only [aadd, hs] at this ⊢
        rw [H.get_set, if_neg (hb hs)]; exact this
    · rw [H.get_set, if_neg (hb q)]; exact hc.own q
    · rw [H.get_set, if_neg (hb q)]; exact ho q
theorem SlT.setF {n B : Nat} {v : Value} {ts : List Trc} (s : SlT G h v n ts) (hf : Free h B) (o : AObj) : SlT G (h.set B o) v n ts := ⟨Sl.setF s.sl hf (by decide) o, s.len, fun t ht => ⟨Sl.setF (s.ok t ht).sl hf (by decide) o⟩⟩
theorem MadeR.setF {B : Nat} {C : Int} {nm : ByteArray} {n : Nat} {Z : List Trc → Prop} {nmR : ByteArray} {aR : Option Addr} {nR cR : Nat} (m : MadeR G h C nm n Z nmR aR nR cR) (hf : Free h B) (o : AObj) : MadeR G (h.set B o) C nm n Z nmR aR nR cR :=
  m.imp id fun ⟨e, e1, e2, vs, st, z⟩ => ⟨e, e1, e2, vs, st.setF hf o, z⟩
end Go.Proofs.YthnnndkfpamacaaGreatDoor
