/- Shots scaled and delayed by the reference. -/
import Derived.Test.YthnnndkfpamacaaGreatDoorP1
set_option linter.all false
/- Rounding by the reference; samples changed in their place. -/
namespace Go.Proofs.YthnnndkfpamacaaGreatDoor
open Go Go.Ab Go.Fl
attribute [local irreducible] SeqQ BlkQ LpQ RetQ Wc Wo WD WX Op1 Op1q Op1a Cf Cl From
attribute [local irreducible] Ieee.Format.order Ieee.Format.read Ieee.Format.nearest Ieee.Format.write Ieee.Format.mul Ieee.Format.div Ieee.Datum.order Ieee.Datum.integral smpE smp smpW K J U trE hdrE lchk firstNZ isNameB wid mism shE offs shortB anyLarge spanE folE rngE
set_option maxRecDepth 10000
variable {G : Base} {h : H}
def putL (t : Trc) (l : List Nat) : Trc := ⟨t.hd, t.hole, t.sa, t.n, t.c, l⟩
structure OwnT (h : H) (lo : Nat) (us : List Trc) : Prop where
 at' : ∀ t ∈ us, TrAt h lo t
 pw : us.Pairwise fun t u => t.sa ≠ u.sa
theorem OwnT.grow {g : H} {lo : Nat} {us : List Trc} (o : OwnT h lo us) (gg : Grow h g) : OwnT g lo us := ⟨fun t ht => (o.at' t ht).grow gg, o.pw⟩
theorem OwnT.ne {lo : Nat} {us : List Trc} (o : OwnT h lo us) {i j : Nat} (hi : i < us.length) (hj : j < us.length) (hn : i ≠ j) : (us[i]).sa ≠ (us[j]).sa := by
 rcases Nat.lt_or_gt_of_ne hn with q | q
 · exact List.pairwise_iff_getElem.1 o.pw i j hi hj q
 · exact fun e => List.pairwise_iff_getElem.1 o.pw j i hj hi q e.symm
theorem OwnT.put {lo j b : Nat} {us : List Trc} {sf : Bool} (o : OwnT h lo us) (hj : j < us.length) (hb : (us[j]).sa = some ⟨b, 0, some 0⟩) (hat : ∃ c, At h b (.cells c 23 1 sf)) {l : List Nat} (hl : l.length = (us[j]).n) : OwnT (h.set b (.cells (l.map (.float .f32)) 23 1 sf)) lo (us.set j (putL us[j] l)) := by
 obtain ⟨c, hat⟩ := hat
 refine ⟨fun t ht => ?_, ?_⟩
 · obtain ⟨i, hi, rfl⟩ := List.mem_iff_getElem.1 ht
   have hi' : i < us.length := by simpa using hi
   rw [List.getElem_set]
   split
   · obtain ⟨b0, sf0, e1, e2, e3⟩ := (o.at' _ (List.getElem_mem hj)).at'
     rw [hb] at e1
     cases e1
     exact ⟨⟨b, sf, hb, e2, hat.set _⟩, hl, (o.at' _ (List.getElem_mem hj)).cap⟩
   · rename_i hne
     obtain ⟨b0, sf0, e1, e2, e3⟩ := (o.at' _ (List.getElem_mem hi')).at'
     have : b0 ≠ b := fun q => by
       subst q
       exact o.ne hi' hj (fun e => hne e.symm) (e1.trans hb.symm)
     exact ⟨⟨b0, sf0, e1, e2, e3.set_ne this _⟩, (o.at' _ (List.getElem_mem hi')).len, (o.at' _ (List.getElem_mem hi')).cap⟩
 · rw [List.pairwise_iff_getElem]
   intro i k hi hk hik
   have hi' : i < us.length := by simpa using hi
   have hk' : k < us.length := by simpa using hk
   have e : ∀ m (q : m < (us.set j (putL us[j] l)).length) (q' : m < us.length), ((us.set j (putL us[j] l))[m]).sa = (us[m]).sa := fun m q q' => by
     rw [List.getElem_set]
     split
     · subst m; rfl
     · rfl
   rw [e i hi hi', e k hk hk']
   exact o.ne hi' hk' (by omega)
theorem OwnT.nil {lo : Nat} : OwnT h lo [] := ⟨fun t ht => (by cases ht), List.Pairwise.nil⟩
theorem OwnT.bumpB {lo k : Nat} {us : List Trc} (o : OwnT h lo us) : OwnT (h.bump k) lo us := o.grow ((Grow.refl _).bumpB _)
theorem OwnT.pushB {lo : Nat} {us : List Trc} (o : OwnT h lo us) (ob : AObj) : OwnT (h.push ob) lo us := o.grow ((Grow.refl _).push _)
theorem OwnT.set {lo B : Nat} {us : List Trc} (o : OwnT h lo us) (hB : B < lo) (ob : AObj) : OwnT (h.set B ob) lo us := ⟨fun t ht => (o.at' t ht).set hB ob, o.pw⟩
theorem OwnT.ok {lo : Nat} {us : List Trc} (o : OwnT h lo us) : ∀ t ∈ us, TrOk G h t := fun t ht => (o.at' t ht).ok
/- Shots scaled by the reference. -/
/- Shots delayed by the reference. -/
end Go.Proofs.YthnnndkfpamacaaGreatDoor
