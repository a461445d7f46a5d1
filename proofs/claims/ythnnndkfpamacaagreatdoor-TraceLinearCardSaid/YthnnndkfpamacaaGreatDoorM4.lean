/- Shots joined by the reference; what is made, told of copies. -/
import Derived.Test.YthnnndkfpamacaaGreatDoorM3
set_option linter.all false
/- Shots joined by the reference (unfinished: two goals left open). -/
namespace Go.Proofs.YthnnndkfpamacaaGreatDoor
open Go Go.Ab Go.Fl
attribute [local irreducible] SeqQ BlkQ LpQ RetQ Wc Wo WD WX Op1 Op1q Op1a Cf Cl From
attribute [local irreducible] Ieee.Format.order Ieee.Format.read Ieee.Format.nearest Ieee.Format.write Ieee.Format.mul Ieee.Format.div Ieee.Datum.order Ieee.Datum.integral smpE smp smpW K J U trE hdrE lchk firstNZ isNameB wid mism shE offs shortB anyLarge spanE folE
set_option maxRecDepth 10000
variable {G : Base} {h : H}
end Go.Proofs.YthnnndkfpamacaaGreatDoor
/- What the law of cuts asks: the same from copies. -/
namespace Go.Proofs.YthnnndkfpamacaaGreatDoor
open Go Go.Ab Go.Fl
variable {G : Base} {h : H}
theorem keys_at {ts us : List Trc} (q : us.map Trc.key = ts.map Trc.key) {i : Nat} (h1 : i < us.length) (h2 : i < ts.length) : (us[i]).key = (ts[i]).key := (keys_of q).2 i h1 h2
theorem keyAll_keys {vs ts us : List Trc} {K : Nat → Trc → Key} (q : us.map Trc.key = ts.map Trc.key) (hK : ∀ i t u, t.key = u.key → K i t = K i u) (h : KeyAll vs us K) : KeyAll vs ts K := by
 have hl : us.length = ts.length := by simpa using congrArg List.length q
 refine ⟨h.1.trans hl, fun i q1 q2 => ?_⟩
 rw [h.2 i q1 (by omega)]
 exact hK i _ _ (keys_at q (by omega) q2)
theorem chKey_key (F : Nat → List Int → List Int) (i : Nat) (t u : Trc) (q : t.key = u.key) : chKey F i t = chKey F i u := by
 obtain ⟨e1, e2, e3, e4⟩ := cD_ q
 unfold chKey
 rw [e1, e2, e4]
theorem keys_getL {ts us : List Trc} (q : us.map Trc.key = ts.map Trc.key) (i : Nat) : getL us i = getL ts i := by
 have hl : us.length = ts.length := by simpa using congrArg List.length q
 by_cases h1 : i < us.length
 · rw [getL_eq h1, getL_eq (by omega), (cD_ (keys_at q h1 (by omega))).2.2.2]
 · unfold getL
   rw [List.getElem?_eq_none (by omega), List.getElem?_eq_none (by omega)]
theorem keys_msk {ts us ts' us' : List Trc} (q : us.map Trc.key = ts.map Trc.key) (q' : us'.map Trc.key = ts'.map Trc.key) : (mskL us us').map Trc.key = (mskL ts ts').map Trc.key := by
 have hl : us.length = ts.length := by simpa using congrArg List.length q
 have hl' : us'.length = ts'.length := by simpa using congrArg List.length q'
 refine List.ext_getElem (by unfold mskL; simp [hl, hl']) fun i h1 h2 => ?_
 have a1 : i < us.length ∧ i < us'.length := by unfold mskL at h1; simp at h1; omega
 rw [List.getElem_map, List.getElem_map, mskL_get (by simpa using h1) a1.1 a1.2, mskL_get (by simpa using h2) (by omega) (by omega)]
 obtain ⟨e1, e2, e3, e4⟩ := cD_ (keys_at q a1.1 (by omega))
 obtain ⟨_, f2, _, _⟩ := cD_ (keys_at q' a1.2 (by omega))
 unfold msk Trc.key
 simp only [e1, e2, e3, e4, f2]
/- The law of cuts: what is made from copies. -/
attribute [local irreducible] SeqQ BlkQ LpQ RetQ Wc Wo WD WX Op1 Op1q Op1a Cf Cl From
attribute [local irreducible] Ieee.Format.order Ieee.Format.read Ieee.Format.nearest Ieee.Format.write Ieee.Format.mul Ieee.Format.div Ieee.Datum.order Ieee.Datum.integral smpE smp smpW K J U trE hdrE lchk firstNZ isNameB wid mism shE offs shortB anyLarge spanE folE
set_option maxRecDepth 10000
def MadeR (G : Base) (h : H) (C : Int) (nm : ByteArray) (n : Nat) (Z : List Trc → Prop) (nmR : ByteArray) (aR : Option Addr) (nR cR : Nat) : Prop :=
 (C ≠ 0 ∧ nmR = .empty ∧ aR = none ∧ nR = 0 ∧ cR = 0) ∨ (C = 0 ∧ nmR = nm ∧ nR = n ∧ ∃ vs : List Trc, SlT G h (.slice aR n cR) n vs ∧ Z vs)
theorem MadeR.grow {h h' : H} {C : Int} {nm : ByteArray} {n : Nat} {Z : List Trc → Prop} {nmR : ByteArray} {aR : Option Addr} {nR cR : Nat} (m : MadeR G h C nm n Z nmR aR nR cR) (g : Grow h h') : MadeR G h' C nm n Z nmR aR nR cR :=
 m.imp id fun ⟨e, e1, e2, vs, st, z⟩ => ⟨e, e1, e2, vs, st.grow g, z⟩
theorem keyAll_len {vs ts : List Trc} {K : Nat → Trc → Key} (h : KeyAll vs ts K) : vs.length = ts.length := h.1
/- The law of cuts: what the program and the reference make, held against one another. -/
def Free (h : H) (B : Nat) : Prop := ∀ c e es s, h.get B = some (.cells c e es s) → es = 2
theorem Free.new {h h' : H} {k i : Nat} (w : Wf h) (g : Grow (h.bump k) h') (hi : i < k) : Free h' (h.nx + i) := fun c e es s q => by
 rw [g.get _ (by rw [H.nx_bump]; omega)] at q
 have : (h.bump k).get (h.nx + i) = none := w _ (by omega)
 rw [this] at q
 cases q
theorem Free.at {h : H} {B : Nat} {c : List Value} {e : TypeId} {s : Bool} (a : At h B (.cells c e 2 s)) : Free h B := fun c e es s q => by
 rw [a.get] at q
 cases q
 rfl
theorem Sl.setF {es n B : Nat} {w : Value} {L : List Value} (sl : Sl G h es w n L) (hf : Free h B) (hne : es ≠ 2) (o : AObj) : Sl G (h.set B o) es w n L := by
 cases sl with
 | nil => exact .nil
 | end' b o => exact .end' b o
 | mem a _ cc _ hl hc hnc ho =>
   have hb : a.spot = some 0 → a.block ≠ B := fun q e => by
     obtain ⟨c1, e1, s1, hg⟩ := ho q
     rw [e] at hg
     exact hne (hf _ _ _ _ hg)
   refine .mem a n cc L hl ⟨fun q => hc.lt q, fun i v q => ?_, hc.spot, fun q => ?_⟩ hnc fun q => ?_
   · have := hc.get i v q
     unfold acell at this ⊢
     rcases hc.spot with hs | hs
     · simp only [aadd, hs] at this ⊢; exact this
     · simp only [aadd, hs] at this ⊢
       rw [H.get_set, if_neg (hb hs)]; exact this
   · rw [H.get_set, if_neg (hb q)]; exact hc.own q
   · rw [H.get_set, if_neg (hb q)]; exact ho q
theorem SlT.setF {n B : Nat} {v : Value} {ts : List Trc} (s : SlT G h v n ts) (hf : Free h B) (o : AObj) : SlT G (h.set B o) v n ts := ⟨Sl.setF s.sl hf (by decide) o, s.len, fun t ht => ⟨Sl.setF (s.ok t ht).sl hf (by decide) o⟩⟩
theorem MadeR.setF {B : Nat} {C : Int} {nm : ByteArray} {n : Nat} {Z : List Trc → Prop} {nmR : ByteArray} {aR : Option Addr} {nR cR : Nat} (m : MadeR G h C nm n Z nmR aR nR cR) (hf : Free h B) (o : AObj) : MadeR G (h.set B o) C nm n Z nmR aR nR cR :=
 m.imp id fun ⟨e, e1, e2, vs, st, z⟩ => ⟨e, e1, e2, vs, st.setF hf o, z⟩
theorem wid_le {ts : List Trc} (z : ∀ t ∈ ts, t.n ≤ 1024) : wid ts ≤ 1024 := by
 induction ts with
 | nil => unfold wid; omega
 | cons t us ih =>
   unfold wid
   split
   · exact ih (fun t ht => z t (List.mem_cons_of_mem _ ht))
   · exact z t List.mem_cons_self
end Go.Proofs.YthnnndkfpamacaaGreatDoor
