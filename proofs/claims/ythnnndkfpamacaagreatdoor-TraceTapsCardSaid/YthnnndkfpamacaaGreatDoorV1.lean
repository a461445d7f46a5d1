/- Samples of cuts. -/
import Derived.Test.YthnnndkfpamacaaGreatDoorM6
set_option linter.all false
/- Shots with small samples. -/
namespace Go.Proofs.YthnnndkfpamacaaGreatDoor
open Go Go.Ab Go.Fl
attribute [local irreducible] SeqQ BlkQ LpQ RetQ Wc Wo WD WX Op1 Op1q Op1a Cf Cl From
attribute [local irreducible] Ieee.Format.order Ieee.Format.read Ieee.Format.nearest Ieee.Format.write Ieee.Format.mul Ieee.Format.div Ieee.Datum.order Ieee.Datum.integral smpE smp smpW K J U trE hdrE lchk firstNZ isNameB wid mism shE offs shortB
set_option maxRecDepth 10000
variable {G : Base} {h : H}
end Go.Proofs.YthnnndkfpamacaaGreatDoor

/- Cuts of shots, told as lists of traces: facts without a machine. -/
namespace Go.Proofs.YthnnndkfpamacaaGreatDoor
open Go Go.Ab Go.Fl
variable {G : Base} {h : H}
theorem smpW_ok {n : Int} (h : n.natAbs ≤ 16384) : smpE (smpW n) = 0 ∧ smp (smpW n) = n := by
  obtain ⟨_, v, ⟨s, m, e, hr, _, hv⟩, h2⟩ := div16 h
  have hu := U_pos
  have h3 : 16 * Ieee.signed s m (e + 1074).toNat = n * U := by rw [← hv] at h2; exact h2
  constructor
  · unfold smpE
    rw [hr]
    simp only [h3]
    rw [if_pos]
    refine ⟨Int.mul_emod_left _ _, ?_, ?_⟩
    · rw [← Int.neg_mul]; exact Int.mul_le_mul_of_nonneg_right (by omega) (by omega)
    · exact Int.mul_le_mul_of_nonneg_right (by omega) (by omega)
  · unfold smp
    rw [hr]
    simp only [h3]
    exact Int.mul_tdiv_cancel _ (by omega)
attribute [local irreducible] smpE smp smpW isNameB
theorem firstNZ_all {l : List Int} (h : ∀ e ∈ l, e = 0) : firstNZ l = 0 := by
  induction l with
  | nil => rfl
  | cons a l ih =>
    unfold firstNZ
    rw [h a List.mem_cons_self, if_pos rfl]
    exact ih fun e he => h e (List.mem_cons_of_mem _ he)
theorem hdr_of {hd : Nat → Int} (h : ∀ i, i < 8 → hlo i ≤ hd i ∧ hd i ≤ hhi i) : hdrE hd = 0 := by
  unfold hdrE
  refine firstNZ_all fun e he => ?_
  obtain ⟨i, hi, rfl⟩ := List.mem_map.1 he
  have := h i (List.mem_range.1 hi)
  unfold hdE
  rcases rng_cases (hd i) (hlo i) (hhi i) with ⟨e, _, _⟩ | ⟨_, q⟩
  · exact e
  · omega
theorem hdr_ltr {hd : Nat → Int} {x : Int} (h : hdrE hd = 0) (h1 : 0 ≤ hd 4 + x) (h2 : hd 4 + x ≤ 100000) : hdrE (ltr hd x) = 0 := by
  refine hdr_of fun i hi => ?_
  have := hdr_ok h hi
  unfold ltr
  split
  · subst i
    exact ⟨by rw [show hlo 4 = 0 from rfl]; exact h1, by rw [show hhi 4 = 100000 from rfl]; exact h2⟩
  · exact this
/-- What makes a shot valid. -/
structure Val (nm : ByteArray) (ts : List Trc) : Prop where
  name : isNameB nm = true
  pos : 0 < ts.length
  most : ts.length ≤ 64
  tr : ∀ t ∈ ts, hdrE t.hd = 0 ∧ (t.hole = true → t.n = 0) ∧ t.l.length = t.n ∧ t.n ≤ 1024 ∧ ∀ x ∈ t.l, smpE x = 0
  wide : ∀ t ∈ ts, t.hole = false → t.n = wid ts
theorem wid_hole : ∀ {ts : List Trc}, (∀ t ∈ ts, t.hole = true) → wid ts = 0
  | [], _ => rfl
  | t :: ts, q => by
    unfold wid
    rw [q t List.mem_cons_self]
    exact wid_hole fun t ht => q t (List.mem_cons_of_mem _ ht)
theorem wid_same : ∀ {ts : List Trc} {w : Nat}, (∀ t ∈ ts, t.hole = false → t.n = w) → (∃ t ∈ ts, t.hole = false) → wid ts = w
  | [], _, _, ⟨_, q, _⟩ => by cases q
  | t :: ts, w, q, ⟨u, hu, hh⟩ => by
    unfold wid
    cases ht : t.hole with
    | true =>
      rw [if_pos rfl]
      rcases List.mem_cons.1 hu with rfl | hu
      · rw [ht] at hh; cases hh
      · exact wid_same (fun t ht => q t (List.mem_cons_of_mem _ ht)) ⟨u, hu, hh⟩
    | false => rw [if_neg (by simp)]; exact q t List.mem_cons_self ht
/-- A trace with a key. -/
def ofKey (k : Key) : Trc := ⟨k.1, k.2.1, none, k.2.2.1, 0, k.2.2.2⟩
def cutT (lo hi : Nat) (t : Trc) : Trc := ofKey (cutKey lo hi 0 t)
def cutTs (lo hi : Nat) (ts : List Trc) : List Trc := ts.map (cutT lo hi)
theorem cutT_hole {lo hi : Nat} {t : Trc} (hh : t.hole = true) : cutT lo hi t = ⟨ltr t.hd lo, true, none, 0, 0, []⟩ := by
  unfold cutT ofKey cutKey chKey
  rw [if_pos hh]
theorem cutT_live {lo hi : Nat} {t : Trc} (hh : t.hole = false) : cutT lo hi t = ⟨ltr t.hd lo, false, none, (((t.l.map smp).drop lo).take (hi - lo)).length, 0, (((t.l.map smp).drop lo).take (hi - lo)).map smpW⟩ := by
  unfold cutT ofKey cutKey chKey
  rw [if_neg (by simp [hh])]
  rfl
theorem cutT_holes {lo hi : Nat} {t : Trc} : (cutT lo hi t).hole = t.hole := by
  cases hh : t.hole with
  | true => rw [cutT_hole hh]
  | false => rw [cutT_live hh]
theorem cutT_hd {lo hi : Nat} {t : Trc} : (cutT lo hi t).hd = ltr t.hd lo := by
  cases hh : t.hole with
  | true => rw [cutT_hole hh]
  | false => rw [cutT_live hh]
theorem Val.smp_le {nm : ByteArray} {ts : List Trc} (v : Val nm ts) {t : Trc} (ht : t ∈ ts) {z : Int} (hz : z ∈ t.l.map smp) : z.natAbs ≤ 16384 := by
  obtain ⟨x, hx, rfl⟩ := List.mem_map.1 hz
  exact Go.Proofs.YthnnndkfpamacaaGreatDoor.smp_le ((v.tr t ht).2.2.2.2 x hx)
theorem cut_wid {nm : ByteArray} {ts : List Trc} {lo hi : Nat} (v : Val nm ts) (h1 : lo ≤ hi) (h2 : hi ≤ wid ts) : (∀ t ∈ cutTs lo hi ts, t.hole = false → t.n = hi - lo) ∧ wid (cutTs lo hi ts) = hi - lo := by
  have key : ∀ t ∈ cutTs lo hi ts, t.hole = false → t.n = hi - lo := by
    intro t ht hh
    obtain ⟨u, hu, rfl⟩ := List.mem_map.1 ht
    rw [cutT_holes] at hh
    have e1 := v.wide u hu hh
    have e2 := (v.tr u hu).2.2.1
    rw [cutT_live hh]
    simp
    omega
  refine ⟨key, ?_⟩
  by_cases hx : ∃ t ∈ cutTs lo hi ts, t.hole = false
  · exact wid_same key hx
  · have : ∀ t ∈ ts, t.hole = true := fun t ht => by
      cases hh : t.hole with
      | true => rfl
      | false => exact absurd ⟨cutT lo hi t, List.mem_map_of_mem ht, by rw [cutT_holes, hh]⟩ hx
    have e0 := wid_hole this
    rw [wid_hole]
    · omega
    · intro t ht
      obtain ⟨u, hu, rfl⟩ := List.mem_map.1 ht
      rw [cutT_holes, this u hu]
theorem Val.cut {nm : ByteArray} {ts : List Trc} {lo hi : Nat} (v : Val nm ts) (h1 : lo ≤ hi) (h2 : hi ≤ wid ts) (hl : ∀ t ∈ ts, t.hd 4 + lo ≤ 100000) : Val nm (cutTs lo hi ts) := by
  obtain ⟨w1, w2⟩ := cut_wid v h1 h2
  refine ⟨v.name, by simpa [cutTs] using v.pos, by simpa [cutTs] using v.most, fun t ht => ?_, by rw [w2]; exact w1⟩
  obtain ⟨u, hu, rfl⟩ := List.mem_map.1 ht
  obtain ⟨a, b, c, d, e⟩ := v.tr u hu
  have hh4 := hdr_ok a (i := 4) (by omega)
  rw [show hlo 4 = 0 from rfl] at hh4
  have hlu := hl u hu
  refine ⟨by rw [cutT_hd]; exact hdr_ltr a (by omega) (by omega), ?_⟩
  cases hh : u.hole with
  | true => rw [cutT_hole hh]; simp
  | false =>
    rw [cutT_live hh]
    refine ⟨fun q => (by cases q), by simp, (by simp; omega), fun x hx => ?_⟩
    obtain ⟨z, hz, rfl⟩ := List.mem_map.1 hx
    exact (smpW_ok (v.smp_le hu (List.mem_of_mem_drop (List.mem_of_mem_take hz)))).1
theorem map_smp_W {l : List Int} (h : ∀ z ∈ l, z.natAbs ≤ 16384) : (l.map smpW).map smp = l := by
  rw [List.map_map]
  conv => rhs; rw [← List.map_id l]
  exact List.map_congr_left fun z hz => (smpW_ok (h z hz)).2
end Go.Proofs.YthnnndkfpamacaaGreatDoor
