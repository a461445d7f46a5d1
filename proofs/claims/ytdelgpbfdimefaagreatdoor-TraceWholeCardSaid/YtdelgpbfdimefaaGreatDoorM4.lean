/- Shots joined by the reference; what is made, told of copies. -/
import Derived.Test.YtdelgpbfdimefaaGreatDoorM3
set_option linter.all false
/- Shots joined by the reference (unfinished: two goals left open). -/
namespace Go.Proofs.YtdelgpbfdimefaaGreatDoor
open Go Go.Ab Go.Fl
attribute [local irreducible] SeqQ BlkQ LpQ RetQ Wc Wo WD WX Op1 Op1q Op1a Cf Cl From
attribute [local irreducible] Ieee.Format.order Ieee.Format.read Ieee.Format.nearest Ieee.Format.write Ieee.Format.mul Ieee.Format.div Ieee.Datum.order Ieee.Datum.integral smpE smp smpW K J U trE hdrE lchk firstNZ isNameB wid mism shE offs shortB anyLarge spanE folE
set_option maxRecDepth 10000
variable {G : Base} {h : H}

theorem ltrW_eq {hd : Nat → Int} {w : Int} (h1 : (hd 4).natAbs ≤ 1000000000) (h2 : w.natAbs ≤ 1000000000) : ltrW hd w = ltr hd w := by
  funext i
  unfold ltrW ltr
  split
  · exact w64 (by omega) (by omega)
  · rfl
end Go.Proofs.YtdelgpbfdimefaaGreatDoor

/- What the law of cuts asks: the same from copies. -/
namespace Go.Proofs.YtdelgpbfdimefaaGreatDoor
open Go Go.Ab Go.Fl
variable {G : Base} {h : H}
theorem keys_at {ts us : List Trc} (q : us.map Trc.key = ts.map Trc.key) {i : Nat} (h1 : i < us.length) (h2 : i < ts.length) : (us[i]).key = (ts[i]).key := (keys_of q).2 i h1 h2
theorem keyAll_keys {vs ts us : List Trc} {K : Nat → Trc → Key} (q : us.map Trc.key = ts.map Trc.key) (hK : ∀ i t u, t.key = u.key → K i t = K i u) (h : KeyAll vs us K) : KeyAll vs ts K := by
  have hl : us.length = ts.length := by simpa using congrArg List.length q
  refine ⟨h.1.trans hl, fun i q1 q2 => ?_⟩
  rw [h.2 i q1 (by omega)]
  exact hK i _ _ (keys_at q (by omega) q2)
theorem chKey_key (F : Nat → List Int → List Int) (i : Nat) (t u : Trc) (q : t.key = u.key) : chKey F i t = chKey F i u := by
  obtain ⟨e1, e2, e3, e4⟩ := key_eq q
  unfold chKey
  rw [e1, e2, e4]
theorem cutKey_key (lo hi i : Nat) (t u : Trc) (q : t.key = u.key) : cutKey lo hi i t = cutKey lo hi i u := by
  unfold cutKey
  rw [chKey_key _ i t u q, (key_eq q).1]
theorem keys_late {x : Int} : ∀ {ts us : List Trc}, us.map Trc.key = ts.map Trc.key → lateB x us = lateB x ts
  | [], [], _ => rfl
  | t :: ts, u :: us, q => by
    obtain ⟨q1, q2⟩ := keys_cons q
    have := keys_late (x := x) q2
    unfold lateB at this ⊢
    rw [List.any_cons, List.any_cons, this, (key_eq q1).1]
  | [], _ :: _, q => by simp at q
  | _ :: _, [], q => by simp at q
theorem keys_cutC {nm : ByteArray} {ts us : List Trc} {x y : Int} (q : us.map Trc.key = ts.map Trc.key) : cutC nm us x y = cutC nm ts x y := by
  unfold cutC
  rw [keys_shE q, keys_wid q, keys_late q]
theorem keys_folM {w : Int} : ∀ {ts us ts' us' : List Trc}, us.map Trc.key = ts.map Trc.key → us'.map Trc.key = ts'.map Trc.key → folM w us us' = folM w ts ts'
  | [], [], _, _, _, _ => by unfold folM; rfl
  | t :: ts, u :: us, [], [], _, _ => by unfold folM; rfl
  | t :: ts, u :: us, t' :: ts', u' :: us', q, q' => by
    obtain ⟨q1, q2⟩ := keys_cons q
    obtain ⟨q3, q4⟩ := keys_cons q'
    unfold folM
    rw [(key_eq q1).1, (key_eq q3).1, keys_folM q2 q4]
  | [], _ :: _, _, _, q, _ => by simp at q
  | _ :: _, [], _, _, q, _ => by simp at q
  | _ :: _, _ :: _, [], _ :: _, _, q => by simp at q
  | _ :: _, _ :: _, _ :: _, [], _, q => by simp at q
theorem keys_bigM : ∀ {ts us ts' us' : List Trc}, us.map Trc.key = ts.map Trc.key → us'.map Trc.key = ts'.map Trc.key → bigM us us' = bigM ts ts'
  | [], [], _, _, _, _ => by unfold bigM; rfl
  | t :: ts, u :: us, [], [], _, _ => by unfold bigM; rfl
  | t :: ts, u :: us, t' :: ts', u' :: us', q, q' => by
    obtain ⟨q1, q2⟩ := keys_cons q
    obtain ⟨q3, q4⟩ := keys_cons q'
    unfold bigM
    rw [(key_eq q1).2.1, (key_eq q3).2.1, (key_eq q1).2.2.1, (key_eq q3).2.2.1, keys_bigM q2 q4]
  | [], _ :: _, _, _, q, _ => by simp at q
  | _ :: _, [], _, _, q, _ => by simp at q
  | _ :: _, _ :: _, [], _ :: _, _, q => by simp at q
  | _ :: _, _ :: _, _ :: _, [], _, q => by simp at q
theorem keys_folE {ts us ts' us' : List Trc} (q : us.map Trc.key = ts.map Trc.key) (q' : us'.map Trc.key = ts'.map Trc.key) : folE us us' = folE ts ts' := by
  have hl : us.length = ts.length := by simpa using congrArg List.length q
  have hl' : us'.length = ts'.length := by simpa using congrArg List.length q'
  unfold folE
  rw [hl, hl', keys_wid q, keys_folM q q', keys_bigM q q']
theorem keys_joinC {nm nm' : ByteArray} {ts us ts' us' : List Trc} (q : us.map Trc.key = ts.map Trc.key) (q' : us'.map Trc.key = ts'.map Trc.key) : joinC nm us nm' us' = joinC nm ts nm' ts' := by
  unfold joinC
  rw [keys_shE q, keys_shE q', keys_folE q q']
theorem keys_getL {ts us : List Trc} (q : us.map Trc.key = ts.map Trc.key) (i : Nat) : getL us i = getL ts i := by
  have hl : us.length = ts.length := by simpa using congrArg List.length q
  by_cases h1 : i < us.length
  · rw [getL_eq h1, getL_eq (by omega), (key_eq (keys_at q h1 (by omega))).2.2.2]
  · unfold getL
    rw [List.getElem?_eq_none (by omega), List.getElem?_eq_none (by omega)]
theorem keys_msk {ts us ts' us' : List Trc} (q : us.map Trc.key = ts.map Trc.key) (q' : us'.map Trc.key = ts'.map Trc.key) : (mskL us us').map Trc.key = (mskL ts ts').map Trc.key := by
  have hl : us.length = ts.length := by simpa using congrArg List.length q
  have hl' : us'.length = ts'.length := by simpa using congrArg List.length q'
  refine List.ext_getElem (by unfold mskL; simp [hl, hl']) fun i h1 h2 => ?_
  have a1 : i < us.length ∧ i < us'.length := by unfold mskL at h1; simp at h1; omega
  rw [List.getElem_map, List.getElem_map, mskL_get (by simpa using h1) a1.1 a1.2, mskL_get (by simpa using h2) (by omega) (by omega)]
  obtain ⟨e1, e2, e3, e4⟩ := key_eq (keys_at q a1.1 (by omega))
  obtain ⟨_, f2, _, _⟩ := key_eq (keys_at q' a1.2 (by omega))
  unfold msk Trc.key
  simp only [e1, e2, e3, e4, f2]
end Go.Proofs.YtdelgpbfdimefaaGreatDoor

/- The law of cuts: what is made from copies. -/
namespace Go.Proofs.YtdelgpbfdimefaaGreatDoor
open Go Go.Ab Go.Fl
attribute [local irreducible] SeqQ BlkQ LpQ RetQ Wc Wo WD WX Op1 Op1q Op1a Cf Cl From
attribute [local irreducible] Ieee.Format.order Ieee.Format.read Ieee.Format.nearest Ieee.Format.write Ieee.Format.mul Ieee.Format.div Ieee.Datum.order Ieee.Datum.integral smpE smp smpW K J U trE hdrE lchk firstNZ isNameB wid mism shE offs shortB anyLarge spanE folE
set_option maxRecDepth 10000
variable {G : Base} {h : H}
/-- A shot that was made, with her error; Z: what holds of her traces. -/
def MadeR (G : Base) (h : H) (C : Int) (nm : ByteArray) (n : Nat) (Z : List Trc → Prop) (nmR : ByteArray) (aR : Option Addr) (nR cR : Nat) : Prop :=
  (C ≠ 0 ∧ nmR = .empty ∧ aR = none ∧ nR = 0 ∧ cR = 0) ∨ (C = 0 ∧ nmR = nm ∧ nR = n ∧ ∃ vs : List Trc, SlT G h (.slice aR n cR) n vs ∧ Z vs)
theorem MadeR.grow {h h' : H} {C : Int} {nm : ByteArray} {n : Nat} {Z : List Trc → Prop} {nmR : ByteArray} {aR : Option Addr} {nR cR : Nat} (m : MadeR G h C nm n Z nmR aR nR cR) (g : Grow h h') : MadeR G h' C nm n Z nmR aR nR cR :=
  m.imp id fun ⟨e, e1, e2, vs, st, z⟩ => ⟨e, e1, e2, vs, st.grow g, z⟩
theorem keyAll_len {vs ts : List Trc} {K : Nat → Trc → Key} (h : KeyAll vs ts K) : vs.length = ts.length := h.1
theorem c42m {nm : ByteArray} {a : Option Addr} {n c : Nat} {ts us : List Trc} {x y : Int} (st : SlT G h (.slice a n c) n us) (q : us.map Trc.key = ts.map Trc.key) (hn : n ≤ 65) (hl : ∀ t ∈ ts, t.n < 1000000) (hw : Wf h) (hG : ∀ a v, laidBase a = some v → G a = some v) :
    Cf (mz G) (.func (.func 42) #[] #[]) [.agg ⟨shC nm a n c⟩, .agg ⟨[.int .i64 x, .int .i64 y]⟩] h fun r h' => (∃ nmR aR nR cR, r = .tuple #[.agg ⟨shC nmR aR nR cR⟩, .int .i64 (cutC nm ts x y)] ∧ MadeR G h' (cutC nm ts x y) nm n (fun vs => ∀ lo hi : Nat, x = lo → y = hi → KeyAll vs ts (cutKey lo hi)) nmR aR nR cR) ∧ Grow h h' := by
  refine (c42 (nm := nm) (x := x) (y := y) st hn (keys_n q hl) hw hG).mono fun r h' ⟨p, g⟩ => ⟨?_, g⟩
  rw [keys_cutC q] at p
  rcases p with ⟨h1, rfl⟩ | ⟨h1, lo, hi, B, vs, e1, e2, _, _, rfl, _, hat, hvs, ka⟩
  · exact ⟨.empty, none, 0, 0, rfl, .inl ⟨h1, rfl, rfl, rfl, rfl⟩⟩
  · refine ⟨nm, some ⟨B, 0, some 0⟩, n, n, by rw [h1], .inr ⟨h1, rfl, rfl, vs, ⟨Sl.ofAt hat (by rw [flat_len, keyAll_len ka, st.len]) (Nat.le_refl _), by rw [keyAll_len ka, st.len], fun t ht => (hvs t ht).ok⟩, fun lo' hi' f1 f2 => ?_⟩⟩
    have z1 : lo' = lo := by omega
    have z2 : hi' = hi := by omega
    subst z1 z2
    exact keyAll_keys q (cutKey_key _ _) ka
theorem c43m {nm nm' : ByteArray} {a a' : Option Addr} {n m c c' : Nat} {ts us ts' us' : List Trc} (st : SlT G h (.slice a n c) n us) (st' : SlT G h (.slice a' m c') m us') (q : us.map Trc.key = ts.map Trc.key) (q' : us'.map Trc.key = ts'.map Trc.key) (hn : n ≤ 65) (hm : m ≤ 65) (hl : ∀ t ∈ ts, t.n < 1000000) (hl' : ∀ t ∈ ts', t.n < 1000000) (hw : Wf h) (hG : ∀ a v, laidBase a = some v → G a = some v) :
    Cf (mz G) (.func (.func 43) #[] #[]) [.agg ⟨shC nm a n c⟩, .agg ⟨shC nm' a' m c'⟩] h fun r h' => (∃ nmR aR nR cR, r = .tuple #[.agg ⟨shC nmR aR nR cR⟩, .int .i64 (joinC nm ts nm' ts')] ∧ MadeR G h' (joinC nm ts nm' ts') nm n (fun vs => KeyAll vs (mskL ts ts') (chKey (mrgF catF ts'))) nmR aR nR cR) ∧ Grow h h' := by
  refine (c43 (nm := nm) (nm' := nm') st st' hn hm (keys_n q hl) (keys_n q' hl') hw hG).mono fun r h' ⟨p, g⟩ => ⟨?_, g⟩
  rw [keys_joinC q q'] at p
  rcases p with ⟨h1, rfl⟩ | ⟨h1, B, vs, rfl, _, hat, hvs, ka⟩
  · exact ⟨.empty, none, 0, 0, rfl, .inl ⟨h1, rfl, rfl, rfl, rfl⟩⟩
  · have hj : folE ts ts' = 0 := (first3_zero h1).2.2
    have hlt := (folE_ok hj).1
    have hu : us.length = ts.length := by simpa using congrArg List.length q
    have hu' : us'.length = ts'.length := by simpa using congrArg List.length q'
    have hvl : vs.length = n := by rw [keyAll_len ka, mskL_len (by omega), st.len]
    refine ⟨nm, some ⟨B, 0, some 0⟩, n, n, by rw [h1], .inr ⟨h1, rfl, rfl, vs, ⟨Sl.ofAt hat (by rw [flat_len, hvl]) (Nat.le_refl _), hvl, fun t ht => (hvs t ht).ok⟩, ?_⟩⟩
    have hF : mrgF catF us' = mrgF catF ts' := by
      funext i l
      unfold mrgF
      rw [keys_getL q']
    rw [hF] at ka
    exact keyAll_keys (keys_msk q q') (fun i t u e => chKey_key _ i t u e) ka
end Go.Proofs.YtdelgpbfdimefaaGreatDoor

/- The law of cuts: what the program and the reference make, held against one another. -/
namespace Go.Proofs.YtdelgpbfdimefaaGreatDoor
open Go Go.Ab Go.Fl
attribute [local irreducible] SeqQ BlkQ LpQ RetQ Wc Wo WD WX Op1 Op1q Op1a Cf Cl From
attribute [local irreducible] Ieee.Format.order Ieee.Format.read Ieee.Format.nearest Ieee.Format.write Ieee.Format.mul Ieee.Format.div Ieee.Datum.order Ieee.Datum.integral smpE smp smpW K J U trE hdrE lchk firstNZ isNameB wid mism shE offs shortB anyLarge spanE folE
set_option maxRecDepth 10000
variable {G : Base} {h : H}
/-- A block that holds no list's cells of the widths 1 and 10. -/
def Free (h : H) (B : Nat) : Prop := ∀ c e es s, h.get B = some (.cells c e es s) → es = 2
theorem Free.new {h h' : H} {k i : Nat} (w : Wf h) (g : Grow (h.bump k) h') (hi : i < k) : Free h' (h.nx + i) := fun c e es s q => by
  rw [g.get _ (by rw [H.nx_bump]; omega)] at q
  have : (h.bump k).get (h.nx + i) = none := w _ (by omega)
  rw [this] at q
  cases q
theorem Free.at {h : H} {B : Nat} {c : List Value} {e : TypeId} {s : Bool} (a : At h B (.cells c e 2 s)) : Free h B := fun c e es s q => by
  rw [a.get] at q
  cases q
  rfl
theorem Sl.setF {es n B : Nat} {w : Value} {L : List Value} (sl : Sl G h es w n L) (hf : Free h B) (hne : es ≠ 2) (o : AObj) : Sl G (h.set B o) es w n L := by
  cases sl with
  | nil => exact .nil
  | end' b o => exact .end' b o
  | mem a _ cc _ hl hc hnc ho =>
    have hb : a.spot = some 0 → a.block ≠ B := fun q e => by
      obtain ⟨c1, e1, s1, hg⟩ := ho q
      rw [e] at hg
      exact hne (hf _ _ _ _ hg)
    refine .mem a n cc L hl ⟨fun q => hc.lt q, fun i v q => ?_, hc.spot, fun q => ?_⟩ hnc fun q => ?_
    · have := hc.get i v q
      unfold acell at this ⊢
      rcases hc.spot with hs | hs
      · simp only [aadd, hs] at this ⊢; exact this
      · simp only [aadd, hs] at this ⊢
        rw [H.get_set, if_neg (hb hs)]; exact this
    · rw [H.get_set, if_neg (hb q)]; exact hc.own q
    · rw [H.get_set, if_neg (hb q)]; exact ho q
theorem SlT.setF {n B : Nat} {v : Value} {ts : List Trc} (s : SlT G h v n ts) (hf : Free h B) (o : AObj) : SlT G (h.set B o) v n ts := ⟨Sl.setF s.sl hf (by decide) o, s.len, fun t ht => ⟨Sl.setF (s.ok t ht).sl hf (by decide) o⟩⟩
theorem MadeR.setF {B : Nat} {C : Int} {nm : ByteArray} {n : Nat} {Z : List Trc → Prop} {nmR : ByteArray} {aR : Option Addr} {nR cR : Nat} (m : MadeR G h C nm n Z nmR aR nR cR) (hf : Free h B) (o : AObj) : MadeR G (h.set B o) C nm n Z nmR aR nR cR :=
  m.imp id fun ⟨e, e1, e2, vs, st, z⟩ => ⟨e, e1, e2, vs, st.setF hf o, z⟩
theorem cutC_L {nm : ByteArray} {ts : List Trc} {x y : Int} (h : shE nm ts = 0) (h2 : spanE x y (wid ts : Nat) = 0) : cutC nm ts x y = if lateB x ts then 4 else 0 := by unfold cutC; rw [if_neg (by simp [h]), if_neg (by simp [h2])]
end Go.Proofs.YtdelgpbfdimefaaGreatDoor
