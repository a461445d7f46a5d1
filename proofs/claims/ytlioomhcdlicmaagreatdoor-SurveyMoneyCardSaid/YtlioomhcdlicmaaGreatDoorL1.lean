/- The law SurveyMoney: what merging keeps, what a diary is, what an invoice is made of. -/
import Derived.Test.YtlioomhcdlicmaaGreatDoorC20
import Derived.Test.YtlioomhcdlicmaaGreatDoorC15
import Derived.Test.YtlioomhcdlicmaaGreatDoorC10
import Derived.Test.YtlioomhcdlicmaaGreatDoorL01
set_option linter.all false
/- Survey: what merging keeps; what a diary is: facts of lists alone. -/
namespace Go.Proofs.YtlioomhcdlicmaaGreatDoor
open Go Go.Ab Go.Fl
attribute [local irreducible] SeqQ BlkQ LpQ RetQ Wc Wo WD WX Op1 Op1q Op1a Cf Cl From
attribute [local irreducible] Ieee.Format.order Ieee.Format.read Ieee.Format.nearest Ieee.Format.write Ieee.Format.mul Ieee.Format.div Ieee.Format.sqrt Ieee.Datum.order Ieee.Datum.integral K U rngE errN ptE firstNZ vesE watE sgE sgsE allE hitB sqD insB qsL lvl rn rl altB isNameB nmE foE clE accL othL rtE ctE
set_option maxRecDepth 10000
variable {G : Base} {h : H}
attribute [local irreducible] spE numM cauW cnum cauN enE hrK rssE lowN lowD
def okL : List En → Prop
 | [] => True
 | e :: l => enE e = 0 ∧ (∀ x ∈ l.head?, e.t ≤ x.f) ∧ okL l
theorem errN_all0 {f : Nat → Int} : ∀ {n : Nat}, (∀ k, k < n → f k = 0) → errN f n = 0
 | 0, _ => cM_ f
 | n + 1, hh => by
   have ih := errN_all0 (f := f) (n := n) fun k hk => hh k (by omega)
   rw [cB_ ih]
   exact hh n (by omega)
theorem okL_at : ∀ {l : List En}, okL l ↔ ∀ k, k < l.length → enE (l.getD k ⟨0, 0, .empty⟩) = 0 ∧ (0 < k → (l.getD (k - 1) ⟨0, 0, .empty⟩).t ≤ (l.getD k ⟨0, 0, .empty⟩).f)
 | [] => ⟨fun _ k hk => by simp at hk, fun _ => trivial⟩
 | e :: l => by
   constructor
   · rintro ⟨h1, h2, h3⟩ k hk
     have ih := okL_at.1 h3
     match k with
     | 0 => exact ⟨h1, fun q => by omega⟩
     | 1 =>
       have hl : 0 < l.length := by simp at hk; omega
       refine ⟨(ih 0 hl).1, fun _ => ?_⟩
       refine h2 _ ?_
       rw [List.head?_eq_getElem?, List.getElem?_eq_getElem hl]
       simp [List.getD, List.getElem?_eq_getElem hl]
     | k + 2 =>
       have hl : k + 1 < l.length := by simp at hk; omega
       exact ⟨(ih (k + 1) hl).1, fun _ => (ih (k + 1) hl).2 (by omega)⟩
   · intro hh
     refine ⟨(hh 0 (by simp)).1, fun x hx => ?_, okL_at.2 fun k hk => ?_⟩
     · cases l with
       | nil => cases hx
       | cons y l =>
         cases hx
         exact (hh 1 (by simp)).2 (by omega)
     · have a := hh (k + 1) (by simp; omega)
       refine ⟨a.1, fun q => ?_⟩
       have b := a.2 (by omega)
       obtain ⟨j, rfl⟩ : ∃ j, k = j + 1 := ⟨k - 1, by omega⟩
       exact b
theorem ensE_iff {l : List En} : ensE l = 0 ↔ l.length ≤ 64 ∧ okL l := by
 unfold ensE
 constructor
 · intro hh
   by_cases h64 : 64 < l.length
   · rw [if_pos h64] at hh; cases hh
   rw [if_neg h64] at hh
   refine ⟨by omega, okL_at.2 fun k hk => ?_⟩
   have a := errN_all hh hk
   unfold sucA at a
   by_cases h0 : enE (l.getD k ⟨0, 0, .empty⟩) = 0
   · rw [if_neg (by simpa using h0)] at a
     refine ⟨h0, fun q => ?_⟩
     by_cases h1 : 0 < k ∧ enO (l.getD k ⟨0, 0, .empty⟩) (l.getD (k - 1) ⟨0, 0, .empty⟩) = false
     · rw [if_pos h1] at a; cases a
     · have h2 : enO (l.getD k ⟨0, 0, .empty⟩) (l.getD (k - 1) ⟨0, 0, .empty⟩) = true := by
         cases hq : enO (l.getD k ⟨0, 0, .empty⟩) (l.getD (k - 1) ⟨0, 0, .empty⟩) with
         | true => rfl
         | false => exact absurd ⟨q, hq⟩ h1
       exact of_decide_eq_true h2
   · rw [if_pos h0] at a; exact absurd a h0
 · rintro ⟨h1, h2⟩
   rw [if_neg (by omega)]
   refine errN_all0 fun k hk => ?_
   obtain ⟨a, b⟩ := okL_at.1 h2 k hk
   unfold sucA
   rw [if_neg (by simpa using a), if_neg ?_]
   rintro ⟨q, r⟩
   have := b q
   unfold enO at r
   rw [decide_eq_true this] at r
   cases r
theorem enE_of {e : En} (h1 : 0 ≤ e.f ∧ e.f < e.t ∧ e.t ≤ 100000) (h2 : 0 ≤ cauN e.c) : enE e = 0 := by
 rw [enE_def]
 have h3 : spE ⟨e.f, e.t⟩ = 0 := by unfold spE; rw [if_pos h1]
 rw [if_neg (by simpa using h3), if_pos h2]
theorem okL_rm : ∀ {l : List En}, okL l → okL (rm l)
 | [], _ => trivial
 | e :: l, ⟨h1, h2, h3⟩ => by
   have ih := okL_rm h3
   obtain ⟨⟨a1, a2, a3⟩, a4⟩ := enE_ok h1
   rw [rm]
   cases hr : rm l with
   | nil => exact ⟨h1, (fun x hx => by cases hx), trivial⟩
   | cons x r =>
     rw [hr] at ih
     obtain ⟨b1, b2, b3⟩ := ih
     obtain ⟨⟨d1, d2, d3⟩, d4⟩ := enE_ok b1
     have hx : e.t ≤ x.f := by
       cases l with
       | nil => rw [rm] at hr; cases hr
       | cons y l =>
         obtain ⟨z, r', q, _⟩ := rm_cons y l
         rw [q] at hr
         cases hr
         exact h2 y rfl
     by_cases q : x.c = e.c ∧ x.f = e.t
     · show okL (if x.c = e.c ∧ x.f = e.t then ⟨e.f, x.t, e.c⟩ :: r else e :: x :: r)
       rw [if_pos q]
       exact ⟨enE_of ⟨a1, by show e.f < x.t; omega, d3⟩ a4, b2, b3⟩
     · show okL (if x.c = e.c ∧ x.f = e.t then ⟨e.f, x.t, e.c⟩ :: r else e :: x :: r)
       rw [if_neg q]
       exact ⟨h1, fun y hy => by cases hy; exact hx, b1, b2, b3⟩
def hj (j : Nat) : List En → Int
 | [] => 0
 | e :: l => (if cauN e.c = (j : Int) then e.t - e.f else 0) + hj j l
theorem hj_app (j : Nat) : ∀ (a b : List En), hj j (a ++ b) = hj j a + hj j b
 | [], b => by simp [hj]
 | e :: a, b => by rw [List.cons_append, hj, hj, hj_app j a b]; omega
theorem hj_rm (j : Nat) : ∀ (l : List En), hj j (rm l) = hj j l
 | [] => rfl
 | e :: l => by
   have ih := hj_rm j l
   rw [rm, hj]
   cases hr : rm l with
   | nil => rw [hr] at ih; rw [← ih]; rfl
   | cons x r =>
     rw [hr, hj] at ih
     show hj j (if x.c = e.c ∧ x.f = e.t then ⟨e.f, x.t, e.c⟩ :: r else e :: x :: r) = _
     by_cases q : x.c = e.c ∧ x.f = e.t
     · rw [if_pos q, hj]
       rw [q.1] at ih
       dsimp only
       split at ih <;> simp_all <;> omega
     · rw [if_neg q, hj, hj]
       omega
theorem hrK_hj {l : List En} (hv : ∀ e ∈ l, enE e = 0) {j : Nat} (hj6 : j < 6) : ∀ k, k ≤ l.length → (hrK l k).getD j 0 = hj j (l.take k)
 | 0, _ => by
   rw [hrK_zero, List.take_zero]
   match j, hj6 with
   | 0, _ | 1, _ | 2, _ | 3, _ | 4, _ | 5, _ => rfl
 | k + 1, hk => by
   have ih := hrK_hj hv hj6 k (by omega)
   have hm : l.getD k ⟨0, 0, .empty⟩ ∈ l := by simp [List.getD, List.getElem?_eq_getElem (show k < l.length by omega)]
   obtain ⟨⟨a, b, c⟩, d⟩ := enE_ok (hv _ hm)
   have c6 := cauN_lt (s := (l.getD k ⟨0, 0, .empty⟩).c)
   rw [hrK_next (by omega), cf_ ⟨0, 0, .empty⟩ (by omega), hj_app, ← ih]
   have hlen := hrK_len (l := l) k
   generalize hrK l k = H at hlen
   generalize l.getD k ⟨0, 0, .empty⟩ = e at a b c d c6
   obtain ⟨q, hq⟩ : ∃ q : Nat, cauN e.c = (q : Int) := ⟨(cauN e.c).toNat, by omega⟩
   unfold addH
   rw [hj, hj, hq, Int.toNat_natCast, List.getD_eq_getElem?_getD, List.getElem?_set, List.getD_eq_getElem?_getD]
   by_cases hqj : q = j
   · subst hqj
     rw [if_pos rfl, if_pos (by omega), if_pos rfl]
     simp only [Option.getD_some, List.getD_eq_getElem?_getD]
     omega
   · rw [if_neg hqj, if_neg (by omega)]
     simp only [List.getD_eq_getElem?_getD]
     omega
theorem hrK_six {l : List En} (hv : ∀ e ∈ l, enE e = 0) : hrK l l.length = [hj 0 l, hj 1 l, hj 2 l, hj 3 l, hj 4 l, hj 5 l] := by
 have e := fun j (q : j < 6) => hrK_hj hv q l.length (Nat.le_refl _)
 rw [List.take_length] at e
 have e0 := e 0 (by decide)
 have e1 := e 1 (by decide)
 have e2 := e 2 (by decide)
 have e3 := e 3 (by decide)
 have e4 := e 4 (by decide)
 have e5 := e 5 (by decide)
 obtain ⟨z0, z1, z2, z3, z4, z5, hz⟩ := six (hrK_len (l := l) l.length)
 rw [hz] at e0 e1 e2 e3 e4 e5 ⊢
 simp only [List.getD, List.getElem?_cons_zero, List.getElem?_cons_succ, Option.getD_some] at e0 e1 e2 e3 e4 e5
 rw [e0, e1, e2, e3, e4, e5]
theorem rm_len (l : List En) : (rm l).length ≤ l.length := by rw [← mgL_rm]; exact mg_le l
theorem rm_good {l : List En} (hh : ensE l = 0) : ensE (rm l) = 0 ∧ hrK (rm l) (rm l).length = hrK l l.length := by
 obtain ⟨h1, h2⟩ := ensE_iff.1 hh
 have a : ensE (rm l) = 0 := ensE_iff.2 ⟨by have := rm_len l; omega, okL_rm h2⟩
 refine ⟨a, ?_⟩
 rw [hrK_six (ens_ok a).2, hrK_six (ens_ok hh).2]
 simp only [hj_rm]
def dOk : List En → Int → Option ByteArray → Int → Prop
 | [], a, _, T => a = T
 | e :: l, a, pc, T => e.f = a ∧ a < e.t ∧ pc ≠ some e.c ∧ dOk l e.t (some e.c) T
def lastC : List En → Option ByteArray → Option ByteArray
 | [], p => p
 | e :: l, _ => lastC l (some e.c)
theorem lastC_snoc (e : En) : ∀ (D : List En) (p : Option ByteArray), lastC (D ++ [e]) p = some e.c
 | [], _ => rfl
 | x :: D, p => lastC_snoc e D _
theorem dOk_snoc (e : En) (T : Int) : ∀ (D : List En) (a : Int) (pc : Option ByteArray), dOk (D ++ [e]) a pc T ↔ dOk D a pc e.f ∧ e.f < e.t ∧ lastC D pc ≠ some e.c ∧ e.t = T
 | [], a, pc => by
   constructor
   · rintro ⟨h1, h2, h3, h4⟩
     exact ⟨h1.symm, by omega, h3, h4⟩
   · rintro ⟨h1, h2, h3, h4⟩
     have h1 : a = e.f := h1
     exact ⟨h1.symm, by omega, h3, h4⟩
 | x :: D, a, pc => by
   have ih := dOk_snoc e T D x.t (some x.c)
   constructor
   · rintro ⟨h1, h2, h3, h4⟩
     obtain ⟨b1, b2, b3, b4⟩ := ih.1 h4
     exact ⟨⟨h1, h2, h3, b1⟩, b2, b3, b4⟩
   · rintro ⟨⟨h1, h2, h3, b1⟩, b2, b3, b4⟩
     exact ⟨h1, h2, h3, ih.2 ⟨b1, b2, b3, b4⟩⟩
theorem diL_ok {W : Nat → ByteArray} : ∀ T : Nat, dOk (diL W T) 0 none (T : Int)
 | 0 => by
   have : diL W 0 = [] := by have := diL_le (W := W) (k := 0); exact List.eq_nil_of_length_eq_zero (by omega)
   rw [this]; rfl
 | T + 1 => by
   have ih := diL_ok (W := W) T
   by_cases h0 : T = 0
   · subst h0
     rw [diL_new (.inl rfl)]
     exact (dOk_snoc _ _ _ _ _).2 ⟨ih, (by show (((0 : Nat) : Int)) < ((0 + 1 : Nat) : Int); omega), (by
       have : diL W 0 = [] := by have := diL_le (W := W) (k := 0); exact List.eq_nil_of_length_eq_zero (by omega)
       rw [this]; intro q; cases q), rfl⟩
   · obtain ⟨D, f, e1, e2, e3⟩ := diL_old (W := W) (k := T) (by omega)
     by_cases q : W T = W (T - 1)
     · rw [e3 q]
       rw [e1] at ih
       obtain ⟨b1, b2, b3, b4⟩ := (dOk_snoc _ _ _ _ _).1 ih
       exact (dOk_snoc _ _ _ _ _).2 ⟨b1, (by show ((f : Nat) : Int) < ((T + 1 : Nat) : Int); omega), b3, rfl⟩
     · rw [diL_new (.inr q)]
       refine (dOk_snoc _ _ _ _ _).2 ⟨ih, (by show ((T : Nat) : Int) < ((T + 1 : Nat) : Int); omega), ?_, rfl⟩
       rw [e1, lastC_snoc]
       intro z
       injection z with z
       exact q z.symm
theorem dOk_le : ∀ {D : List En} {a : Int} {pc : Option ByteArray} {T : Int}, dOk D a pc T → a ≤ T
 | [], a, _, T, hh => by have hh : a = T := hh; omega
 | e :: D, a, pc, T, ⟨h1, h2, h3, h4⟩ => by have := dOk_le h4; omega
theorem dOk_okL : ∀ {D : List En} {a : Int} {pc : Option ByteArray} {T : Int}, dOk D a pc T → 0 ≤ a → T ≤ 100000 → (∀ e ∈ D, 0 ≤ cauN e.c) → okL D
 | [], _, _, _, _, _, _, _ => trivial
 | e :: D, a, pc, T, ⟨h1, h2, h3, h4⟩, h0, hT, hc => by
   have b := dOk_le h4
   refine ⟨enE_of ⟨by omega, by omega, by omega⟩ (hc e (by simp)), fun x hx => ?_, dOk_okL h4 (by omega) hT fun y hy => hc y (by simp [hy])⟩
   cases D with
   | nil => cases hx
   | cons y D =>
     cases hx
     obtain ⟨q, _⟩ := h4
     omega
theorem dOk_sum : ∀ {D : List En} {a : Int} {pc : Option ByteArray} {T : Int}, dOk D a pc T → (∀ e ∈ D, 0 ≤ cauN e.c) → hj 0 D + hj 1 D + hj 2 D + hj 3 D + hj 4 D + hj 5 D = T - a
 | [], a, _, T, hh, _ => by have hh : a = T := hh; simp [hj]; omega
 | e :: D, a, pc, T, ⟨h1, h2, h3, h4⟩, hc => by
   have ih := dOk_sum h4 fun y hy => hc y (by simp [hy])
   have c1 := hc e (by simp)
   have c2 := cauN_lt (s := e.c)
   simp only [hj]
   have : cauN e.c = 0 ∨ cauN e.c = 1 ∨ cauN e.c = 2 ∨ cauN e.c = 3 ∨ cauN e.c = 4 ∨ cauN e.c = 5 := by omega
   rcases this with q | q | q | q | q | q <;> rw [q] <;> simp <;> omega
theorem hj_none {j : Nat} : ∀ {D : List En}, (∀ e ∈ D, cauN e.c ≠ (j : Int)) → hj j D = 0
 | [], _ => rfl
 | e :: D, hh => by
   rw [hj, if_neg (hh e (by simp)), hj_none fun y hy => hh y (by simp [hy])]
   rfl
theorem cauS_of (a b c : Bool) : 0 ≤ cauN (cauS a b c) ∧ cauN (cauS a b c) ≠ ((1 : Nat) : Int) ∧ cauN (cauS a b c) ≠ ((4 : Nat) : Int) := by
 have e0 : cauN wSo = 0 := cau_k0
 have e2 : cauN wWe = 2 := cau_k2
 have e3 : cauN wAn = 3 := cau_k3
 have e5 : cauN wSh = 5 := cau_k5
 unfold cauS
 cases a <;> cases b <;> cases c <;> simp [e0, e2, e3, e5]
theorem diL_caus {W : Nat → ByteArray} {T : Nat} {e : En} (he : e ∈ diL W T) : ∃ k, e.c = W k := by
 unfold diL at he
 obtain ⟨s, _, rfl⟩ := List.mem_map.1 he
 exact ⟨_, rfl⟩
theorem diL_good {cl so : Int} {I : Nat → Bool} {L M : List Spn} {T : Nat} (hT : T ≤ 4096) (h64 : (diL (cawB cl so I L M) T).length ≤ 64) : ensE (diL (cawB cl so I L M) T) = 0 ∧ ∃ z0 z2 z3 z5 : Int, hrK (diL (cawB cl so I L M) T) (diL (cawB cl so I L M) T).length = [z0, 0, z2, z3, 0, z5] ∧ 0 + z0 + 0 + z2 + z3 + 0 + z5 = (T : Int) := by
 have hc : ∀ e ∈ diL (cawB cl so I L M) T, 0 ≤ cauN e.c ∧ cauN e.c ≠ ((1 : Nat) : Int) ∧ cauN e.c ≠ ((4 : Nat) : Int) := fun e he => by
   obtain ⟨k, q⟩ := diL_caus he
   rw [q]
   unfold cawB
   exact cauS_of _ _ _
 have hd := diL_ok (W := cawB cl so I L M) T
 generalize diL (cawB cl so I L M) T = D at hc hd h64 ⊢
 have ho : ensE D = 0 := ensE_iff.2 ⟨h64, dOk_okL hd (by omega) (by omega) fun e he => (hc e he).1⟩
 refine ⟨ho, hj 0 D, hj 2 D, hj 3 D, hj 5 D, ?_, ?_⟩
 · rw [hrK_six (ens_ok ho).2, hj_none (j := 1) fun e he => (hc e he).2.1, hj_none (j := 4) fun e he => (hc e he).2.2]
 · have a := dOk_sum hd fun e he => (hc e he).1
   rw [hj_none (j := 1) fun e he => (hc e he).2.1, hj_none (j := 4) fun e he => (hc e he).2.2] at a
   omega
theorem difL_self {A : List Int} {p r : Int} : difL A A p p r r = [] := by
 unfold difL
 rw [if_neg (by simp), if_neg (by simp)]
 have : difK A A 6 = [] := by
   unfold difK
   rw [List.filter_eq_nil_iff.2 (fun a _ => by simp)]
   rfl
 rw [this]
 rfl
end Go.Proofs.YtlioomhcdlicmaaGreatDoor
/- Survey: what an invoice is made of; one free tick more. -/
namespace Go.Proofs.YtlioomhcdlicmaaGreatDoor
open Go Go.Ab Go.Fl
attribute [local irreducible] SeqQ BlkQ LpQ RetQ Wc Wo WD WX Op1 Op1q Op1a Cf Cl From
attribute [local irreducible] Ieee.Format.order Ieee.Format.read Ieee.Format.nearest Ieee.Format.write Ieee.Format.mul Ieee.Format.div Ieee.Format.sqrt Ieee.Datum.order Ieee.Datum.integral K U rngE errN ptE firstNZ vesE watE sgE sgsE allE hitB sqD insB qsL lvl rn rl altB isNameB nmE foE clE accL othL rtE ctE
set_option maxRecDepth 10000
variable {G : Base} {h : H}
attribute [local irreducible] spE numM cauW cnum cauN enE hrK ensE rssE lowN lowD
theorem fz0 : firstNZ [] = 0 := by unfold firstNZ; rfl
theorem ctE_more {c0 c1 c2 c3 c4 c5 c6 c7 c8 : Int} (hh : ctE c0 c1 c2 c3 c4 c5 c6 c7 c8 = 0) (h6 : c6 < 100000) : ctE c0 c1 c2 c3 c4 c5 (c6 + 1) c7 c8 = 0 := by
 obtain ⟨_, _, _, _, _, _, ⟨r6, s6⟩, _⟩ := ct_ok hh
 unfold ctE at hh ⊢
 have e := bX_ hh
 have e1 := e (rtE c0 c1 c2 c3 c4 c5) (by simp)
 have e2 := e (rngE c7 0 10000) (by simp)
 have e3 := e (rngE c8 0 10000) (by simp)
 rw [e1, e2, e3, rng_of (show (0 : Int) ≤ c6 + 1 by omega) (show c6 + 1 ≤ 100000 by omega)]
 simp only [cm_]
 exact fz0
theorem pred_mul {a b y : Int} (hh : a * b = y) : (a - 1) * b = y - b := by rw [Int.sub_mul, Int.one_mul, hh]
theorem bil_facts {c0 c1 c2 c3 c4 c5 c6 c7 c8 : Int} {l : List En} {rs : List Rs} (hE : bilE c0 c1 c2 c3 c4 c5 c6 c7 c8 l rs = 0) : ∃ i0 i1 i2 i3 i4 i5 i6 i7 : Int, bilC c0 c1 c2 c3 c4 c5 c6 c7 c8 l rs = [.int .i64 i0, .int .i64 i1, .int .i64 i2, .int .i64 i3, .int .i64 i4, .int .i64 i5, .int .i64 i6, .int .i64 i7] ∧ i7 = i6 + i0 + i1 + i2 + i3 + i4 + i5 ∧ ((-130000000000 ≤ i0 ∧ i0 ≤ 130000000000) ∧ (-130000000000 ≤ i1 ∧ i1 ≤ 130000000000) ∧ (-130000000000 ≤ i2 ∧ i2 ≤ 130000000000) ∧ (-130000000000 ≤ i3 ∧ i3 ≤ 130000000000) ∧ (-130000000000 ≤ i4 ∧ i4 ≤ 130000000000) ∧ (-130000000000 ≤ i5 ∧ i5 ≤ 130000000000) ∧ (-130000000000 ≤ i6 ∧ i6 ≤ 130000000000)) ∧ ((hrK l l.length).getD 2 0 > c6 → c6 < 100000 → bilE c0 c1 c2 c3 c4 c5 (c6 + 1) c7 c8 l rs = 0 ∧ bilC c0 c1 c2 c3 c4 c5 (c6 + 1) c7 c8 l rs = [.int .i64 i0, .int .i64 i1, .int .i64 (i2 - c2), .int .i64 i3, .int .i64 i4, .int .i64 i5, .int .i64 i6, .int .i64 (i7 - c2)]) := by
 obtain ⟨hc, he, hr⟩ := bilE_parts hE
 obtain ⟨h64, hv⟩ := ens_ok he
 obtain ⟨z0, z1, z2, z3, z4, z5, hz⟩ := six (hrK_len (l := l) l.length)
 obtain ⟨⟨p0, q0⟩, ⟨p1, q1⟩, ⟨p2, q2⟩, ⟨p3, q3⟩, ⟨p4, q4⟩, p5, q5⟩ := six_bd hv (n := l.length) (by omega) hz
 obtain ⟨⟨r0, s0⟩, ⟨r1, s1⟩, ⟨r2, s2⟩, ⟨r3, s3⟩, ⟨r4, s4⟩, ⟨r5, s5⟩, ⟨r6, s6⟩, ⟨r7, s7⟩, r8, s8⟩ := ct_ok hc
 have hbl : bilL (hrK l l.length) c0 c1 c2 c3 c4 c5 c6 c7 c8 (accL rs).length (othL rs).length = [z0 * c0, z1 * c1, max (z2 - c6) 0 * c2, z3 * c3, z4 * c4, z5 * c5, ((accL rs).length : Int) * c7 - ((othL rs).length : Int) * c8, (((accL rs).length : Int) * c7 - ((othL rs).length : Int) * c8) + z0 * c0 + z1 * c1 + max (z2 - c6) 0 * c2 + z3 * c3 + z4 * c4 + z5 * c5] := by rw [hz, bilL_eq]
 obtain ⟨P, hP⟩ : ∃ P, max (z2 - c6) 0 = P := ⟨_, rfl⟩
 have hPb : 0 ≤ P ∧ P ≤ 6400000 := by omega
 have h64r := rss_len hr
 have na := acc_len rs
 have no := oth_len rs
 have lb := lin_bd (a := (accL rs).length) (b := (othL rs).length) (c7 := c7) (c8 := c8) (by omega) (by omega) (by omega) (by omega)
 have m0 := cg_ (a := z0) (b := c0) (by omega) (by omega)
 have m1 := cg_ (a := z1) (b := c1) (by omega) (by omega)
 have m2 := cg_ (a := P) (b := c2) (by omega) (by omega)
 have m3 := cg_ (a := z3) (b := c3) (by omega) (by omega)
 have m4 := cg_ (a := z4) (b := c4) (by omega) (by omega)
 have m5 := cg_ (a := z5) (b := c5) (by omega) (by omega)
 have hbl2 : c6 < z2 → bilL (hrK l l.length) c0 c1 c2 c3 c4 c5 (c6 + 1) c7 c8 (accL rs).length (othL rs).length = [z0 * c0, z1 * c1, P * c2 - c2, z3 * c3, z4 * c4, z5 * c5, ((accL rs).length : Int) * c7 - ((othL rs).length : Int) * c8, (((accL rs).length : Int) * c7 - ((othL rs).length : Int) * c8) + z0 * c0 + z1 * c1 + (P * c2 - c2) + z3 * c3 + z4 * c4 + z5 * c5] := fun q => by
   rw [hz, bilL_eq, show max (z2 - (c6 + 1)) 0 = P - 1 by omega, pred_mul rfl]
 rw [hP] at hbl
 rw [bilC_good hE, hbl]
 dsimp only [List.map]
 have hg2 : (hrK l l.length).getD 2 0 = z2 := by rw [hz]; rfl
 rw [hg2]
 refine ⟨_, _, _, _, _, _, _, _, rfl, ?_, ⟨by omega, by omega, by omega, by omega, by omega, by omega, by omega⟩, fun q1 q2 => ?_⟩
 · generalize z0 * c0 = a0
   generalize z1 * c1 = a1
   generalize P * c2 = a2
   generalize z3 * c3 = a3
   generalize z4 * c4 = a4
   generalize z5 * c5 = a5
   rfl
 · have e1 : bilE c0 c1 c2 c3 c4 c5 (c6 + 1) c7 c8 l rs = 0 := by
     unfold bilE
     rw [ctE_more hc q2, he, hr]
     simp only [cm_]
     exact fz0
   refine ⟨e1, ?_⟩
   rw [bilC_good e1, hbl2 q1]
   dsimp only [List.map]
   generalize ((accL rs).length : Int) * c7 - ((othL rs).length : Int) * c8 = Lx
   generalize z0 * c0 = a0
   generalize z1 * c1 = a1
   generalize P * c2 = a2
   generalize z3 * c3 = a3
   generalize z4 * c4 = a4
   generalize z5 * c5 = a5
   rw [show Lx + a0 + a1 + (a2 - c2) + a3 + a4 + a5 = Lx + a0 + a1 + a2 + a3 + a4 + a5 - c2 by omega]
theorem bilC_rm {c0 c1 c2 c3 c4 c5 c6 c7 c8 : Int} {l : List En} {rs : List Rs} (hE : bilE c0 c1 c2 c3 c4 c5 c6 c7 c8 l rs = 0) : bilE c0 c1 c2 c3 c4 c5 c6 c7 c8 (rm l) rs = 0 ∧ bilC c0 c1 c2 c3 c4 c5 c6 c7 c8 (rm l) rs = bilC c0 c1 c2 c3 c4 c5 c6 c7 c8 l rs := by
 obtain ⟨hc, he, hr⟩ := bilE_parts hE
 obtain ⟨g1, g2⟩ := rm_good he
 have e1 : bilE c0 c1 c2 c3 c4 c5 c6 c7 c8 (rm l) rs = 0 := by
   unfold bilE
   rw [hc, g1, hr]
   simp only [cm_]
   exact fz0
 refine ⟨e1, ?_⟩
 rw [bilC_good e1, bilC_good hE, g2]
end Go.Proofs.YtlioomhcdlicmaaGreatDoor
