/- Samples as floats and as integers; sums; roots. -/
import Derived.Test.YtccdcekcbbpohaaGreatDoorK2
set_option linter.all false
/- Samples and their integers. -/
namespace Go.Fl
open Go Ieee Go.Ab

theorem toInt_num {f : Format} {w : Nat} {v : Int} (h : Num f w v) : (f.read w).toInt .zero = some (v.tdiv U) := by
  obtain ⟨s, m, e, h1, h2, h3⟩ := h.is
  rw [h1]
  unfold Datum.toInt
  rw [integral_zero h2]
  simp only
  rw [← h3, tdiv_signed]

theorem smp_read {x : Nat} (h : smpE x = 0) : ∃ s m e, single.read x = .number s m e ∧ 16 * signed s m (e + 1074).toNat = smp x * U ∧ -16384 ≤ smp x ∧ smp x ≤ 16384 := by
  have hU := U_pos
  unfold smpE at h
  unfold smp
  split at h
  · rename_i s m e hr
    rw [hr]
    refine ⟨s, m, e, rfl, ?_⟩
    simp only at h ⊢
    split at h
    · rename_i hc
      obtain ⟨h1, h2, h3⟩ := hc
      obtain ⟨q, hq⟩ := Int.dvd_of_emod_eq_zero h1
      have e1 : (16 * signed s m (e + 1074).toNat).tdiv U = q := by rw [hq, Int.mul_tdiv_cancel_left _ (by omega)]
      rw [e1, hq, Int.mul_comm q U]
      rw [hq, Int.mul_comm U q] at h2 h3
      clear h1 hq e1 hr
      refine ⟨rfl, ?_, ?_⟩
      · have h2' : -16384 * U ≤ q * U := by rw [Int.neg_mul]; exact h2
        exact Int.le_of_mul_le_mul_right h2' hU
      · exact Int.le_of_mul_le_mul_right h3 hU
    · exact absurd h (by decide)
  · exact absurd h (by decide)

theorem read16 : single.read 1098907648 = .number false (2 ^ 23) (-19) := by decide +kernel

theorem signed_natAbs (s : Bool) (m k : Nat) : (signed s m k).natAbs = m * 2 ^ k := by
  rw [signed_eq, signed0]
  cases s <;> simp [Int.natAbs_mul, Int.natAbs_pow]

/-- 16 times a sample. -/
theorem mul16 {x : Nat} (h : smpE x = 0) : ∃ c, single.mul 1098907648 x = some c ∧ Num single c (smp x * U) := by
  obtain ⟨s, m, e, hr, hv, hlo, hhi⟩ := smp_read h
  obtain ⟨hm, h1, h2⟩ := read_single hr
  have hc : single.mul 1098907648 x = some (single.nearest s m (e + 4)) := by
    unfold Format.mul
    rw [read16, hr]
    simp only [Datum.product, Option.map_some, Format.write, Bool.false_xor]
    refine congrArg some (nearest_same single s ?_)
    unfold Same
    rw [show (-19 + e - (e + 4)).toNat = 0 by omega, show (e + 4 - (-19 + e)).toNat = 23 by omega, Nat.pow_zero, Nat.mul_one, Nat.mul_comm]
  refine ⟨_, hc, ?_⟩
  rw [← hv, ← mul16_signed s m (by omega)]
  by_cases h0 : m = 0
  · subst h0
    refine ⟨s, 0, -149, by rw [write_zero, single_least], by omega, ?_⟩
    rw [signed_zero, signed_zero]
  · refine single_exact s hm (by omega) ?_
    have ha := congrArg Int.natAbs hv
    rw [Int.natAbs_mul, Int.natAbs_mul, signed_natAbs, U_nat, Int.natAbs_natCast] at ha
    have hs : (smp x).natAbs ≤ 16384 := by omega
    have hle : 16 * (m * 2 ^ (e + 1074).toNat) ≤ 16384 * 2 ^ K := by
      have : (16 : Int).natAbs = 16 := rfl
      rw [this] at ha
      rw [ha]
      exact Nat.mul_le_mul_right _ hs
    have h3 : 2 ^ (e + 1074).toNat ≤ m * 2 ^ (e + 1074).toNat := Nat.le_mul_of_pos_left _ (Nat.pos_of_ne_zero h0)
    have h4 : 2 ^ (e + 1074).toNat ≤ 2 ^ (10 + K) := by rw [Nat.pow_add]; omega
    have h5 := (Nat.pow_le_pow_iff_right (a := 2) (by omega)).1 h4
    have := hK
    omega

/-- The word of an integer's sample. -/
def smpW (n : Int) : Nat := (single.div (FloatKind.f32.nearest n) 1098907648).getD 0

theorem near32 {n : Int} : FloatKind.f32.nearest n = single.nearest (n < 0) n.natAbs 0 := rfl

theorem div16 {n : Int} (h : n.natAbs ≤ 16384) : single.div (FloatKind.f32.nearest n) 1098907648 = some (smpW n) ∧ ∃ v, Num single (smpW n) v ∧ 16 * v = n * U := by
  have hn : n.natAbs < 2 ^ 24 := by omega
  have key : ∃ s, single.div (FloatKind.f32.nearest n) 1098907648 = some (single.nearest s n.natAbs (-4)) ∧ signed s n.natAbs 0 = n := by
    refine ⟨n < 0, ?_, by rw [signed0]; by_cases q : n < 0 <;> simp [q] <;> omega⟩
    rw [near32]
    generalize decide (n < 0) = s
    unfold Format.div
    rw [read16]
    by_cases h0 : n.natAbs = 0
    · rw [h0, write_zero, single_least]
      simp only [Datum.quotient, Option.map_some, Format.write, Bool.xor_false, Nat.zero_shiftLeft, Nat.zero_div, Nat.zero_mod]
      refine congrArg some (nearest_same single s ?_)
      unfold Same
      simp
    · obtain ⟨m', e', q1, q2, q3, _⟩ := write_exact single (by decide) s (m := n.natAbs) (e := 0) h0 hn (by rw [single_least]; omega) (by
        have : n.natAbs.log2 < 24 := (Nat.log2_lt h0).2 hn
        rw [single_least]
        show 0 + (n.natAbs.log2 : Int) + 3 ≤ -149 + 23 + 256
        omega)
      rw [q1]
      have hq : (2 : Nat) ^ 23 ≠ 0 := by decide
      have hl : ((2 : Nat) ^ 23).log2 = 23 := by decide +kernel
      have hs : Same n.natAbs 0 m' e' := q2
      simp only [Datum.quotient, Option.map_some, Format.write, Bool.xor_false, hl, if_neg hq]
      have hlm : m'.log2 < 24 := by
        have hm' : m' < 2 ^ 24 := (read_single q1).1
        by_cases hz : m' = 0
        · subst hz; decide
        · exact (Nat.log2_lt hz).2 hm'
      have hmore : ∃ k, single.fractionBits + 2 + 23 - m'.log2 = 23 + k := ⟨single.fractionBits + 2 - m'.log2, by
        have : single.fractionBits = 23 := rfl
        omega⟩
      obtain ⟨k, hk⟩ := hmore
      rw [hk, Nat.shiftLeft_eq, Nat.pow_add]
      have e1 : m' * (2 ^ 23 * 2 ^ k) = m' * 2 ^ k * 2 ^ 23 := by rw [Nat.mul_comm (2 ^ 23), Nat.mul_assoc]
      rw [e1, Nat.mul_div_cancel _ (by decide), Nat.mul_mod_left]
      refine congrArg some ?_
      have e2 : (2 * (m' * 2 ^ k) + (0 != 0 : Bool).toNat) = m' * 2 ^ (k + 1) := by
        rw [show (0 != 0 : Bool).toNat = 0 by rfl, Nat.add_zero, Nat.pow_succ, Nat.mul_left_comm, Nat.mul_comm 2]
      rw [e2, show (e' - -19 - ((23 + k : Nat) : Int) - 1) = (e' - 4) - ((k + 1 : Nat) : Int) by omega, nearest_pow]
      refine nearest_same single s ?_
      unfold Same at hs ⊢
      rw [show (e' - 4 - -4).toNat = (e' - 0).toNat by omega, show (-4 - (e' - 4)).toNat = (0 - e').toNat by omega]
      exact hs.symm
  obtain ⟨s, k1, k2⟩ := key
  have hw : smpW n = single.nearest s n.natAbs (-4) := by unfold smpW; rw [k1]; rfl
  refine ⟨by rw [hw]; exact k1, signed s n.natAbs ((-4 : Int) + 1074).toNat, by rw [hw]; exact single_exact s hn (by omega) (by omega), ?_⟩
  rw [show ((-4 : Int) + 1074).toNat = 1070 by omega, signed_eq, k2]
  unfold U K
  rw [show (2 : Int) ^ 1074 = 16 * 2 ^ 1070 by rw [show 1074 = 4 + 1070 by rfl, Int.pow_add]; rfl]
  rw [← Int.mul_assoc, ← Int.mul_assoc, Int.mul_comm 16 n]
end Go.Fl
namespace Go.Fl
open Go Ieee Go.Ab
theorem floatInt_num {P : Program} {c : Nat} {n : Int} (h : Num single c (n * U)) (h1 : -16384 ≤ n) (h2 : n ≤ 16384) : prun P (Conv.floatToInt .f32 c .i64) = some (.int .i64 n) := by
  have e : (n * U).tdiv U = n := Int.mul_tdiv_cancel _ (by have := U_pos; omega)
  have := toInt_num h
  rw [e] at this
  unfold Conv.floatToInt
  rw [show FloatKind.decode .f32 c = single.read c from rfl, this]
  have hm : IntKind.min .i64 ≤ n ∧ n ≤ IntKind.max .i64 := by
    have e1 : IntKind.min .i64 = -9223372036854775808 := by decide
    have e2 : IntKind.max .i64 = 9223372036854775807 := by decide
    rw [e1, e2]; omega
  simp only
  rw [if_pos hm]
  rfl
end Go.Fl

/- Samples added as floats. -/
namespace Go.Fl
open Go Ieee Go.Ab

theorem smp_of_num {c : Nat} {v k : Int} (hn : Num single c v) (hv : 16 * v = k * U) (hk : k.natAbs ≤ 16384) : smpE c = 0 ∧ smp c = k := by
  obtain ⟨s, m, e, hr, _, hw⟩ := hn
  have hu := U_pos
  have h3 : 16 * signed s m (e + 1074).toNat = k * U := by rw [hw]; exact hv
  constructor
  · unfold smpE
    rw [hr]
    simp only [h3]
    rw [if_pos]
    refine ⟨Int.mul_emod_left _ _, ?_, ?_⟩
    · rw [← Int.neg_mul]; exact Int.mul_le_mul_of_nonneg_right (by omega) (by omega)
    · exact Int.mul_le_mul_of_nonneg_right (by omega) (by omega)
  · unfold smp
    rw [hr]
    simp only [h3]
    rw [Int.mul_tdiv_cancel _ (by omega)]

end Go.Fl

/- Sums. -/
namespace Go.Ab
def sumN : Nat → (Nat → Int) → Int
  | 0, _ => 0
  | n + 1, f => sumN n f + f n
theorem sumN_congr {f g : Nat → Int} : ∀ {n : Nat}, (∀ i, i < n → f i = g i) → sumN n f = sumN n g
  | 0, _ => rfl
  | n + 1, h => by rw [sumN, sumN, sumN_congr fun i hi => h i (by omega), h n (by omega)]
theorem sumN_add (f g : Nat → Int) : ∀ n : Nat, sumN n (fun i => f i + g i) = sumN n f + sumN n g
  | 0 => rfl
  | n + 1 => by rw [sumN, sumN, sumN, sumN_add f g n]; omega
theorem sumN_one {f : Nat → Int} {a : Nat} : ∀ {n : Nat}, (∀ i, i < n → i ≠ a → f i = 0) → sumN n f = if a < n then f a else 0
  | 0, _ => by simp [sumN]
  | n + 1, h => by
    rw [sumN, sumN_one (n := n) fun i hi => h i (by omega)]
    by_cases q : a = n
    · subst q; simp
    · rw [h n (by omega) (by omega)]
      by_cases r : a < n
      · rw [if_pos r, if_pos (by omega)]; omega
      · rw [if_neg r, if_neg (by omega)]; rfl
theorem sumN_bound {f : Nat → Int} {B : Nat} : ∀ {n : Nat}, (∀ i, i < n → (f i).natAbs ≤ B) → (sumN n f).natAbs ≤ n * B
  | 0, _ => by simp [sumN]
  | n + 1, h => by
    have h1 := sumN_bound (n := n) fun i hi => h i (by omega)
    have h2 := h n (by omega)
    rw [sumN, Nat.succ_mul]
    omega
theorem sumN_shift (f : Nat → Int) : ∀ n : Nat, sumN (n + 1) f = f 0 + sumN n (fun i => f (i + 1))
  | 0 => by simp [sumN]
  | n + 1 => by rw [sumN, sumN_shift f n, sumN]; omega
end Go.Ab
