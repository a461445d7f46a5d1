/- Taps applied: their sums; samples that are made. -/
import Derived.Test.YtccdcekcbbpohaaGreatDoorC2
import Derived.Test.YtccdcekcbbpohaaGreatDoorC3
set_option linter.all false
/- Taps applied: their sums. -/
namespace Go.Proofs.YtccdcekcbbpohaaGreatDoor
open Go Go.Ab Go.Fl
attribute [local irreducible] SeqQ BlkQ LpQ RetQ Wc Wo WD WX Op1 Op1q Op1a Cf Cl From
attribute [local irreducible] Ieee.Format.order Ieee.Format.read Ieee.Format.nearest Ieee.Format.write Ieee.Format.mul Ieee.Format.div Ieee.Datum.order Ieee.Datum.integral smpE smp smpW K J U lchk tchk trE hdrE
set_option maxRecDepth 10000
variable {G : Base} {h : H}

theorem getD_row {n : Nat} {f : Nat → Int} {k : Nat} (hk : k < n) : ((List.range n).map f).getD k 0 = f k := by
  simp [List.getD, List.getElem?_map, List.getElem?_range hk]
theorem getD_out {l : List Int} {i : Nat} (hi : l.length ≤ i) : l.getD i 0 = 0 := by simp [List.getD, List.getElem?_eq_none hi]
theorem getD_ext {a b : List Int} (hl : a.length = b.length) (h : ∀ k, k < a.length → a.getD k 0 = b.getD k 0) : a = b := by
  refine List.ext_getElem hl fun i h1 h2 => ?_
  rw [getElem_getD h1, getElem_getD h2]; exact h i h1
theorem app_at {t l : List Int} {n : Nat} (h : n < l.length) : (appL t l).getD n 0 = sumN t.length (appv t l n) := by unfold appL; exact getD_row h
end Go.Proofs.YtccdcekcbbpohaaGreatDoor

/- FilterAdjoint: what the walk reads. -/
namespace Go.Proofs.YtccdcekcbbpohaaGreatDoor
open Go Go.Ab Go.Fl
attribute [local irreducible] SeqQ BlkQ LpQ RetQ Wc Wo WD WX Op1 Op1q Op1a Cf Cl From
attribute [local irreducible] Ieee.Format.order Ieee.Format.read Ieee.Format.nearest Ieee.Format.write Ieee.Format.mul Ieee.Format.div Ieee.Datum.order Ieee.Datum.integral smpE smp smpW K J U sumN lchk tchk trE hdrE appL
set_option maxRecDepth 10000
variable {G : Base} {h : H}
theorem smpW_ok {n : Int} (h : n.natAbs ≤ 16384) : smpE (smpW n) = 0 ∧ smp (smpW n) = n := by
  obtain ⟨_, v, hn, hv⟩ := div16 h
  exact smp_of_num hn hv h
theorem made_smp {L : List Int} (h : ∀ x ∈ L, x.natAbs ≤ 16384) : (L.map smpW).map smp = L ∧ ∀ z ∈ L.map smpW, smpE z = 0 := by
  constructor
  · rw [List.map_map]
    conv => rhs; rw [← List.map_id L]
    exact List.map_congr_left fun x hx => (smpW_ok (h x hx)).2
  · intro z hz
    obtain ⟨x, hx, rfl⟩ := List.mem_map.1 hz
    exact (smpW_ok (h x hx)).1
theorem firstNZ_all {l : List Int} (h : ∀ e ∈ l, e = 0) : firstNZ l = 0 := by
  induction l with
  | nil => rfl
  | cons a l ih =>
    unfold firstNZ
    rw [if_pos (h a (by simp))]
    exact ih fun e he => h e (by simp [he])
theorem lchk_of {l : List Nat} (hn : l.length ≤ 1024) (h : ∀ z ∈ l, smpE z = 0) : lchk l = 0 := by
  unfold lchk
  rw [if_neg (by omega)]
  exact firstNZ_all fun e he => by
    obtain ⟨z, hz, rfl⟩ := List.mem_map.1 he
    exact h z hz
theorem large_no {L : List Int} (h : ∀ x ∈ L, x.natAbs ≤ 16384) : anyLarge L = false := by
  unfold anyLarge
  rw [List.any_eq_false]
  intro x hx
  have := h x hx
  have : isLargeB x = false := decide_eq_false (by omega)
  simp [this]
section
variable {v w : Value} {n m : Nat} {t : List Int} {l : List Nat}
end
/-! the law's own lists: a sum of floats, and a list backwards -/
end Go.Proofs.YtccdcekcbbpohaaGreatDoor
