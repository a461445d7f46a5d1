/- Cover: reversed and cut lines are lines; lines changed by the reference. -/
import Derived.Test.YtnkmencbnoipmaaGreatDoorC7
import Derived.Test.YtnkmencbnoipmaaGreatDoorK2
set_option linter.all false
/- Reversed and cut lines are lines. -/
namespace Go.Proofs.YtnkmencbnoipmaaGreatDoor
open Go Go.Ab Go.Fl
attribute [local irreducible] SeqQ BlkQ LpQ RetQ Wc Wo WD WX Op1 Op1q Op1a Cf Cl From
attribute [local irreducible] Ieee.Format.order Ieee.Format.read Ieee.Format.nearest Ieee.Format.write Ieee.Format.mul Ieee.Format.div Ieee.Format.sqrt Ieee.Datum.order Ieee.Datum.integral K U rngE errN cntE cmpI plaE firstNZ numsE lnE BigP isNameB nmE ascA errL chgV chgE
set_option maxRecDepth 10000
variable {G : Base} {h : H}

theorem ind_of {l : List Int} {m : Int} (h : ∀ i, i < l.length → (0 ≤ l.getD i 0 ∧ l.getD i 0 < m) ∧ (0 < i → l.getD (i - 1) 0 < l.getD i 0)) : indE l m = 0 := by
  unfold indE
  refine errN_all fun k hk => ?_
  obtain ⟨h1, h2⟩ := h k hk
  rw [asc_val rfl, if_neg (by omega), if_neg]
  rintro ⟨h3, h4⟩
  have := h2 h3
  omega
theorem nums_in {x y tx ty sh nx ny px py ch : Int} (h : numsE [x, y, tx, ty, sh, nx, ny, px, py, ch] = 0) : (-100000 ≤ x ∧ x ≤ 100000) ∧ (-100000 ≤ y ∧ y ≤ 100000) ∧ (-10000 ≤ tx ∧ tx ≤ 10000) ∧ (-10000 ≤ ty ∧ ty ≤ 10000) ∧ (1 ≤ sh ∧ sh ≤ 64) ∧ (-10000 ≤ nx ∧ nx ≤ 10000) ∧ (-10000 ≤ ny ∧ ny ≤ 10000) ∧ (-10000 ≤ px ∧ px ≤ 10000) ∧ (-10000 ≤ py ∧ py ≤ 10000) ∧ (1 ≤ ch ∧ ch ≤ 16) := by
  have q := nums_ok h
  exact ⟨q 0 (by omega), q 1 (by omega), q 2 (by omega), q 3 (by omega), q 4 (by omega), q 5 (by omega), q 6 (by omega), q 7 (by omega), q 8 (by omega), q 9 (by omega)⟩
theorem nums_mk {x y tx ty sh nx ny px py ch : Int} (h : (-100000 ≤ x ∧ x ≤ 100000) ∧ (-100000 ≤ y ∧ y ≤ 100000) ∧ (-10000 ≤ tx ∧ tx ≤ 10000) ∧ (-10000 ≤ ty ∧ ty ≤ 10000) ∧ (1 ≤ sh ∧ sh ≤ 64) ∧ (-10000 ≤ nx ∧ nx ≤ 10000) ∧ (-10000 ≤ ny ∧ ny ≤ 10000) ∧ (-10000 ≤ px ∧ px ≤ 10000) ∧ (-10000 ≤ py ∧ py ≤ 10000) ∧ (1 ≤ ch ∧ ch ≤ 16)) : numsE [x, y, tx, ty, sh, nx, ny, px, py, ch] = 0 := by
  obtain ⟨h0, h1, h2, h3, h4, h5, h6, h7, h8, h9⟩ := h
  apply nums_of
  intro i hi
  match i, hi with
  | 0, _ => exact h0
  | 1, _ => exact h1
  | 2, _ => exact h2
  | 3, _ => exact h3
  | 4, _ => exact h4
  | 5, _ => exact h5
  | 6, _ => exact h6
  | 7, _ => exact h7
  | 8, _ => exact h8
  | 9, _ => exact h9
theorem rev_getD {l : List Int} {i : Nat} {f : Int → Int} (hi : i < l.length) : (l.reverse.map f).getD i 0 = f (l.getD (l.length - 1 - i) 0) := by
  rw [← getElem_getD (by simp; omega), List.getElem_map, List.getElem_reverse, getElem_getD]
theorem rev_ok {nm : ByteArray} {x y tx ty sh nx ny px py ch : Int} {rf : List Int} (h : lnE nm x y tx ty sh nx ny px py ch rf = 0) : lnE nm (x + (sh - 1) * tx) (y + (sh - 1) * ty) (0 - tx) (0 - ty) sh nx ny px py ch (rf.reverse.map fun z => sh - 1 - z) = 0 := by
  obtain ⟨h1, h2, h3, h4⟩ := lnE_inv h
  obtain ⟨S, C, rfl, rfl, hS1, hC1, bd⟩ := nums_lnok h2
  rw [Int.toNat_natCast, Int.toNat_natCast] at h4
  have hno : ∀ i k : Nat, i < S → k < C → plaE (x + (i : Int) * tx) (y + (i : Int) * ty) (x + (i : Int) * tx + 1 * nx + (k : Int) * px) (y + (i : Int) * ty + 1 * ny + (k : Int) * py) = 0 := by
    intro i k a b
    refine Decidable.byContradiction fun q => h4 ?_
    unfold BigP
    exact ⟨i, k, a, b, q⟩
  have eqs : ∀ (i : Nat) (p u : Int), i < S → p + ((S : Int) - 1) * u + (i : Int) * (0 - u) = p + ((S - 1 - i : Nat) : Int) * u := by
    intro i p u hi
    have e : ((S - 1 - i : Nat) : Int) = ((S : Int) - 1) - i := by omega
    rw [e, Int.sub_mul ((S : Int) - 1), Int.zero_sub, Int.mul_neg]
    omega
  obtain ⟨n0, n1, n2, n3, n4, n5, n6, n7, n8, n9⟩ := nums_in h2
  have hs := pt_zero.1 (pla_zero.1 (hno (S - 1) 0 (by omega) (by omega))).1
  have e0 : ((S - 1 : Nat) : Int) = (S : Int) - 1 := by omega
  rw [e0] at hs
  refine lnE_ok h1 (nums_mk ⟨hs.1, hs.2, by omega, by omega, n4, n5, n6, n7, n8, n9⟩) ?_ ?_
  · have im := ind_mem h3
    refine ind_of fun i hi => ?_
    rw [List.length_map, List.length_reverse] at hi
    rw [rev_getD hi]
    have q := im (rf.length - 1 - i) (by omega)
    refine ⟨by omega, fun h0 => ?_⟩
    rw [rev_getD (by omega)]
    have q2 := (im (rf.length - 1 - (i - 1)) (by omega)).2 (by omega)
    rw [show rf.length - 1 - (i - 1) - 1 = rf.length - 1 - i by omega] at q2
    omega
  · unfold BigP
    rintro ⟨i, k, a, b, q⟩
    apply q
    rw [eqs i x tx a, eqs i y ty a]
    exact hno (S - 1 - i) k (by omega) b
theorem asc_pair {l : List Int} (h : ∀ i, i < l.length → 0 < i → l.getD (i - 1) 0 < l.getD i 0) : l.Pairwise (· < ·) := by
  rw [List.pairwise_iff_getElem]
  intro i j hi hj hij
  rw [getElem_getD hi, getElem_getD hj]
  induction j with
  | zero => omega
  | succ j ih =>
    have q := h (j + 1) hj (by omega)
    rw [Nat.add_sub_cancel] at q
    by_cases e : i = j
    · rw [e]; exact q
    · have := ih (by omega) (by omega)
      omega
theorem pair_asc {l : List Int} (h : l.Pairwise (· < ·)) : ∀ i, i < l.length → 0 < i → l.getD (i - 1) 0 < l.getD i 0 := by
  intro i hi h0
  rw [List.pairwise_iff_getElem] at h
  have := h (i - 1) i (by omega) hi (by omega)
  rwa [getElem_getD, getElem_getD] at this
theorem cut_ok {nm : ByteArray} {x y tx ty sh nx ny px py ch : Int} {rf : List Int} {f t : Int} (h : lnE nm x y tx ty sh nx ny px py ch rf = 0) (hf : 0 ≤ f) (hft : f < t) (ht : t ≤ sh) : lnE nm (x + f * tx) (y + f * ty) tx ty (t - f) nx ny px py ch (keepL (fun z => decide (idxE z (t - f) ≠ 0)) (rf.map fun z => z - f)) = 0 := by
  obtain ⟨h1, h2, h3, h4⟩ := lnE_inv h
  obtain ⟨S, C, rfl, rfl, hS1, hC1, bd⟩ := nums_lnok h2
  rw [Int.toNat_natCast, Int.toNat_natCast] at h4
  have hno : ∀ i k : Nat, i < S → k < C → plaE (x + (i : Int) * tx) (y + (i : Int) * ty) (x + (i : Int) * tx + 1 * nx + (k : Int) * px) (y + (i : Int) * ty + 1 * ny + (k : Int) * py) = 0 := by
    intro i k a b
    refine Decidable.byContradiction fun q => h4 ?_
    unfold BigP
    exact ⟨i, k, a, b, q⟩
  obtain ⟨F, rfl⟩ : ∃ F : Nat, f = F := ⟨f.toNat, by omega⟩
  obtain ⟨T, hT⟩ : ∃ T : Nat, t - F = T := ⟨(t - F).toNat, by omega⟩
  have eqs : ∀ (i : Nat) (p u : Int), p + (F : Int) * u + (i : Int) * u = p + ((F + i : Nat) : Int) * u := by
    intro i p u
    rw [Int.natCast_add, Int.add_mul]
    omega
  obtain ⟨n0, n1, n2, n3, n4, n5, n6, n7, n8, n9⟩ := nums_in h2
  have hs := pt_zero.1 (pla_zero.1 (hno F 0 (by omega) (by omega))).1
  rw [hT]
  refine lnE_ok h1 (nums_mk ⟨hs.1, hs.2, n2, n3, by omega, n5, n6, n7, n8, n9⟩) ?_ ?_
  · have im := ind_mem h3
    have hp : (keepL (fun z => decide (idxE z T ≠ 0)) (rf.map fun z => z - F)).Pairwise (· < ·) := by
      unfold keepL
      apply List.Pairwise.filter
      rw [List.pairwise_map]
      exact (asc_pair fun i hi h0 => (im i hi).2 h0).imp fun q => by omega
    have hm : ∀ z ∈ keepL (fun z => decide (idxE z T ≠ 0)) (rf.map fun z => z - F), 0 ≤ z ∧ z < T := by
      intro z hz
      unfold keepL at hz
      rw [List.mem_filter] at hz
      have q := hz.2
      simp only [Bool.not_eq_true', decide_eq_false_iff_not, Decidable.not_not] at q
      unfold idxE at q
      split at q
      · cases q
      · omega
    refine ind_of fun i hi => ⟨?_, pair_asc hp i hi⟩
    have := hm _ (List.getElem_mem hi)
    rwa [getElem_getD hi] at this
  · unfold BigP
    rintro ⟨i, k, a, b, q⟩
    apply q
    rw [eqs i x tx, eqs i y ty]
    exact hno (F + i) k (by omega) b
end Go.Proofs.YtnkmencbnoipmaaGreatDoor

/- Lines moved, by the reference. -/
namespace Go.Proofs.YtnkmencbnoipmaaGreatDoor
open Go Go.Ab Go.Fl
attribute [local irreducible] SeqQ BlkQ LpQ RetQ Wc Wo WD WX Op1 Op1q Op1a Cf Cl From
attribute [local irreducible] Ieee.Format.order Ieee.Format.read Ieee.Format.nearest Ieee.Format.write Ieee.Format.mul Ieee.Format.div Ieee.Format.sqrt Ieee.Datum.order Ieee.Datum.integral K U rngE errN cntE cmpI indE ptE plaE firstNZ numsE lnE BigP isNameB nmE ascA errL chgV chgE
set_option maxRecDepth 10000
variable {G : Base} {h : H}

end Go.Proofs.YtnkmencbnoipmaaGreatDoor

/- Lines reversed and cut, by the reference. -/
namespace Go.Proofs.YtnkmencbnoipmaaGreatDoor
open Go Go.Ab Go.Fl
attribute [local irreducible] SeqQ BlkQ LpQ RetQ Wc Wo WD WX Op1 Op1q Op1a Cf Cl From
attribute [local irreducible] Ieee.Format.order Ieee.Format.read Ieee.Format.nearest Ieee.Format.write Ieee.Format.mul Ieee.Format.div Ieee.Format.sqrt Ieee.Datum.order Ieee.Datum.integral K U rngE errN cntE cmpI indE ptE plaE firstNZ numsE lnE BigP isNameB nmE ascA errL chgV chgE
set_option maxRecDepth 10000
variable {G : Base} {h : H}

end Go.Proofs.YtnkmencbnoipmaaGreatDoor

/- Lines cut, by the reference. -/
namespace Go.Proofs.YtnkmencbnoipmaaGreatDoor
open Go Go.Ab Go.Fl
attribute [local irreducible] SeqQ BlkQ LpQ RetQ Wc Wo WD WX Op1 Op1q Op1a Cf Cl From
attribute [local irreducible] Ieee.Format.order Ieee.Format.read Ieee.Format.nearest Ieee.Format.write Ieee.Format.mul Ieee.Format.div Ieee.Format.sqrt Ieee.Datum.order Ieee.Datum.integral K U rngE errN cntE cmpI indE ptE plaE firstNZ numsE lnE BigP isNameB nmE ascA errL chgV chgE
set_option maxRecDepth 10000
variable {G : Base} {h : H}

end Go.Proofs.YtnkmencbnoipmaaGreatDoor
