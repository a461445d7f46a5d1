/- Samples as floats and as integers; sums. -/
import Derived.Test.YtdfpadokepmknaaGreatDoorK2
set_option linter.all false
/- Samples and their integers. -/
namespace Go.Fl
open Go Ieee Go.Ab

theorem toInt_num {f : Format} {w : Nat} {v : Int} (h : Num f w v) : (f.read w).toInt .zero = some (v.tdiv U) := by
  obtain ⟨s, m, e, h1, h2, h3⟩ := h.is
  rw [h1]
  unfold Datum.toInt
  rw [integral_zero h2]
  simp only
  rw [← h3, tdiv_signed]

theorem smp_read {x : Nat} (h : smpE x = 0) : ∃ s m e, single.read x = .number s m e ∧ 16 * signed s m (e + 1074).toNat = smp x * U ∧ -16384 ≤ smp x ∧ smp x ≤ 16384 := by
  have hU := U_pos
  unfold smpE at h
  unfold smp
  split at h
  · rename_i s m e hr
    rw [hr]
    refine ⟨s, m, e, rfl, ?_⟩
    simp only at h ⊢
    split at h
    · rename_i hc
      obtain ⟨h1, h2, h3⟩ := hc
      obtain ⟨q, hq⟩ := Int.dvd_of_emod_eq_zero h1
      have e1 : (16 * signed s m (e + 1074).toNat).tdiv U = q := by rw [hq, Int.mul_tdiv_cancel_left _ (by omega)]
      rw [e1, hq, Int.mul_comm q U]
      rw [hq, Int.mul_comm U q] at h2 h3
      clear h1 hq e1 hr
      refine ⟨rfl, ?_, ?_⟩
      · have h2' : -16384 * U ≤ q * U := by rw [Int.neg_mul]; exact h2
        exact Int.le_of_mul_le_mul_right h2' hU
      · exact Int.le_of_mul_le_mul_right h3 hU
    · exact absurd h (by decide)
  · exact absurd h (by decide)

theorem read16 : single.read 1098907648 = .number false (2 ^ 23) (-19) := by decide +kernel

theorem signed_natAbs (s : Bool) (m k : Nat) : (signed s m k).natAbs = m * 2 ^ k := by
  rw [signed_eq, signed0]
  cases s <;> simp [Int.natAbs_mul, Int.natAbs_pow]

/-- 16 times a sample. -/
theorem mul16 {x : Nat} (h : smpE x = 0) : ∃ c, single.mul 1098907648 x = some c ∧ Num single c (smp x * U) := by
  obtain ⟨s, m, e, hr, hv, hlo, hhi⟩ := smp_read h
  obtain ⟨hm, h1, h2⟩ := read_single hr
  have hc : single.mul 1098907648 x = some (single.nearest s m (e + 4)) := by
    unfold Format.mul
    rw [read16, hr]
    simp only [Datum.product, Option.map_some, Format.write, Bool.false_xor]
    refine congrArg some (nearest_same single s ?_)
    unfold Same
    rw [show (-19 + e - (e + 4)).toNat = 0 by omega, show (e + 4 - (-19 + e)).toNat = 23 by omega, Nat.pow_zero, Nat.mul_one, Nat.mul_comm]
  refine ⟨_, hc, ?_⟩
  rw [← hv, ← mul16_signed s m (by omega)]
  by_cases h0 : m = 0
  · subst h0
    refine ⟨s, 0, -149, by rw [write_zero, single_least], by omega, ?_⟩
    rw [signed_zero, signed_zero]
  · refine single_exact s hm (by omega) ?_
    have ha := congrArg Int.natAbs hv
    rw [Int.natAbs_mul, Int.natAbs_mul, signed_natAbs, U_nat, Int.natAbs_natCast] at ha
    have hs : (smp x).natAbs ≤ 16384 := by omega
    have hle : 16 * (m * 2 ^ (e + 1074).toNat) ≤ 16384 * 2 ^ K := by
      have : (16 : Int).natAbs = 16 := rfl
      rw [this] at ha
      rw [ha]
      exact Nat.mul_le_mul_right _ hs
    have h3 : 2 ^ (e + 1074).toNat ≤ m * 2 ^ (e + 1074).toNat := Nat.le_mul_of_pos_left _ (Nat.pos_of_ne_zero h0)
    have h4 : 2 ^ (e + 1074).toNat ≤ 2 ^ (10 + K) := by rw [Nat.pow_add]; omega
    have h5 := (Nat.pow_le_pow_iff_right (a := 2) (by omega)).1 h4
    have := hK
    omega

/-- The word of an integer's sample. -/
def smpW (n : Int) : Nat := (single.div (FloatKind.f32.nearest n) 1098907648).getD 0

theorem near32 {n : Int} : FloatKind.f32.nearest n = single.nearest (n < 0) n.natAbs 0 := rfl

theorem div16 {n : Int} (h : n.natAbs ≤ 16384) : single.div (FloatKind.f32.nearest n) 1098907648 = some (smpW n) ∧ ∃ v, Num single (smpW n) v ∧ 16 * v = n * U := by
  have hn : n.natAbs < 2 ^ 24 := by omega
  have key : ∃ s, single.div (FloatKind.f32.nearest n) 1098907648 = some (single.nearest s n.natAbs (-4)) ∧ signed s n.natAbs 0 = n := by
    refine ⟨n < 0, ?_, by rw [signed0]; by_cases q : n < 0 <;> simp [q] <;> omega⟩
    rw [near32]
    generalize decide (n < 0) = s
    unfold Format.div
    rw [read16]
    by_cases h0 : n.natAbs = 0
    · rw [h0, write_zero, single_least]
      simp only [Datum.quotient, Option.map_some, Format.write, Bool.xor_false, Nat.zero_shiftLeft, Nat.zero_div, Nat.zero_mod]
      refine congrArg some (nearest_same single s ?_)
      unfold Same
      simp
    · obtain ⟨m', e', q1, q2, q3, _⟩ := write_exact single (by decide) s (m := n.natAbs) (e := 0) h0 hn (by rw [single_least]; omega) (by
        have : n.natAbs.log2 < 24 := (Nat.log2_lt h0).2 hn
        rw [single_least]
        show 0 + (n.natAbs.log2 : Int) + 3 ≤ -149 + 23 + 256
        omega)
      rw [q1]
      have hq : (2 : Nat) ^ 23 ≠ 0 := by decide
      have hl : ((2 : Nat) ^ 23).log2 = 23 := by decide +kernel
      have hs : Same n.natAbs 0 m' e' := q2
      simp only [Datum.quotient, Option.map_some, Format.write, Bool.xor_false, hl, if_neg hq]
      have hlm : m'.log2 < 24 := by
        have hm' : m' < 2 ^ 24 := (read_single q1).1
        by_cases hz : m' = 0
        · subst hz; decide
        · exact (Nat.log2_lt hz).2 hm'
      have hmore : ∃ k, single.fractionBits + 2 + 23 - m'.log2 = 23 + k := ⟨single.fractionBits + 2 - m'.log2, by
        have : single.fractionBits = 23 := rfl
        omega⟩
      obtain ⟨k, hk⟩ := hmore
      rw [hk, Nat.shiftLeft_eq, Nat.pow_add]
      have e1 : m' * (2 ^ 23 * 2 ^ k) = m' * 2 ^ k * 2 ^ 23 := by rw [Nat.mul_comm (2 ^ 23), Nat.mul_assoc]
      rw [e1, Nat.mul_div_cancel _ (by decide), Nat.mul_mod_left]
      refine congrArg some ?_
      have e2 : (2 * (m' * 2 ^ k) + (0 != 0 : Bool).toNat) = m' * 2 ^ (k + 1) := by
        rw [show (0 != 0 : Bool).toNat = 0 by rfl, Nat.add_zero, Nat.pow_succ, Nat.mul_left_comm, Nat.mul_comm 2]
      rw [e2, show (e' - -19 - ((23 + k : Nat) : Int) - 1) = (e' - 4) - ((k + 1 : Nat) : Int) by omega, nearest_pow]
      refine nearest_same single s ?_
      unfold Same at hs ⊢
      rw [show (e' - 4 - -4).toNat = (e' - 0).toNat by omega, show (-4 - (e' - 4)).toNat = (0 - e').toNat by omega]
      exact hs.symm
  obtain ⟨s, k1, k2⟩ := key
  have hw : smpW n = single.nearest s n.natAbs (-4) := by unfold smpW; rw [k1]; rfl
  refine ⟨by rw [hw]; exact k1, signed s n.natAbs ((-4 : Int) + 1074).toNat, by rw [hw]; exact single_exact s hn (by omega) (by omega), ?_⟩
  rw [show ((-4 : Int) + 1074).toNat = 1070 by omega, signed_eq, k2]
  unfold U K
  rw [show (2 : Int) ^ 1074 = 16 * 2 ^ 1070 by rw [show 1074 = 4 + 1070 by rfl, Int.pow_add]; rfl]
  rw [← Int.mul_assoc, ← Int.mul_assoc, Int.mul_comm 16 n]
end Go.Fl
namespace Go.Fl
open Go Ieee Go.Ab
theorem floatInt_num {P : Program} {c : Nat} {n : Int} (h : Num single c (n * U)) (h1 : -16384 ≤ n) (h2 : n ≤ 16384) : prun P (Conv.floatToInt .f32 c .i64) = some (.int .i64 n) := by
  have e : (n * U).tdiv U = n := Int.mul_tdiv_cancel _ (by have := U_pos; omega)
  have := toInt_num h
  rw [e] at this
  unfold Conv.floatToInt
  rw [show FloatKind.decode .f32 c = single.read c from rfl, this]
  have hm : IntKind.min .i64 ≤ n ∧ n ≤ IntKind.max .i64 := by
    have e1 : IntKind.min .i64 = -9223372036854775808 := by decide
    have e2 : IntKind.max .i64 = 9223372036854775807 := by decide
    rw [e1, e2]; omega
  simp only
  rw [if_pos hm]
  rfl
end Go.Fl

/- Samples added as floats. -/
namespace Go.Fl
open Go Ieee Go.Ab

theorem smp_of_num {c : Nat} {v k : Int} (hn : Num single c v) (hv : 16 * v = k * U) (hk : k.natAbs ≤ 16384) : smpE c = 0 ∧ smp c = k := by
  obtain ⟨s, m, e, hr, _, hw⟩ := hn
  have hu := U_pos
  have h3 : 16 * signed s m (e + 1074).toNat = k * U := by rw [hw]; exact hv
  constructor
  · unfold smpE
    rw [hr]
    simp only [h3]
    rw [if_pos]
    refine ⟨Int.mul_emod_left _ _, ?_, ?_⟩
    · rw [← Int.neg_mul]; exact Int.mul_le_mul_of_nonneg_right (by omega) (by omega)
    · exact Int.mul_le_mul_of_nonneg_right (by omega) (by omega)
  · unfold smp
    rw [hr]
    simp only [h3]
    rw [Int.mul_tdiv_cancel _ (by omega)]

theorem same_grains {t k : Nat} {b : Int} (hb : -1074 ≤ b) (h : 16 * (t * 2 ^ (b + 1074).toNat) = k * 2 ^ K) : Same t b k (-4) := by
  unfold Same
  have hK' := hK
  by_cases q : -4 ≤ b
  · have e1 : 2 ^ K = 16 * 2 ^ (K - 4) := by rw [show K = 4 + (K - 4) by omega, Nat.pow_add]; simp
    have e2 : (b + 1074).toNat = (b - -4).toNat + (K - 4) := by omega
    rw [e1, e2, Nat.pow_add] at h
    rw [show (-4 - b).toNat = 0 by omega, Nat.pow_zero, Nat.mul_one]
    have hp : 0 < 16 * 2 ^ (K - 4) := Nat.mul_pos (by decide) (Nat.pow_pos (by decide))
    apply Nat.eq_of_mul_eq_mul_right hp
    rw [← h]
    generalize 2 ^ (K - 4) = z
    generalize 2 ^ (b - -4).toNat = y
    simp only [Nat.mul_assoc, Nat.mul_left_comm]
  · have e1 : 2 ^ K = 16 * (2 ^ (-4 - b).toNat * 2 ^ (b + 1074).toNat) := by
      rw [show K = 4 + ((-4 - b).toNat + (b + 1074).toNat) by omega, Nat.pow_add, Nat.pow_add]
    rw [e1] at h
    rw [show (b - -4).toNat = 0 by omega, Nat.pow_zero, Nat.mul_one]
    have hp : 0 < 16 * 2 ^ (b + 1074).toNat := Nat.mul_pos (by decide) (Nat.pow_pos (by decide))
    apply Nat.eq_of_mul_eq_mul_right hp
    generalize 2 ^ (b + 1074).toNat = z at *
    generalize 2 ^ (-4 - b).toNat = y at *
    calc t * (16 * z) = 16 * (t * z) := by simp only [Nat.mul_left_comm]
      _ = k * (16 * (y * z)) := h
      _ = k * y * (16 * z) := by simp only [Nat.mul_assoc, Nat.mul_left_comm]

theorem add_smp {x y : Nat} (hx : smpE x = 0) (hy : smpE y = 0) (hb : (smp x + smp y).natAbs ≤ 16384) : ∃ c, single.add x y = some c ∧ smpE c = 0 ∧ smp c = smp x + smp y := by
  obtain ⟨s, m, i, hr, hv, _, _⟩ := smp_read hx
  obtain ⟨t, n, j, kr, kv, _, _⟩ := smp_read hy
  obtain ⟨_, h1, h2⟩ := read_single hr
  obtain ⟨_, k1, k2⟩ := read_single kr
  generalize hk : smp x + smp y = k at hb
  have hsum : 16 * (signed s m (i + 1074).toNat + signed t n (j + 1074).toNat) = k * U := by rw [Int.mul_add, hv, kv, ← Int.add_mul, hk]
  clear hv kv
  have hadd : single.add x y = some (single.nearest (if signed s m (i - min i j).toNat + signed t n (j - min i j).toNat = 0 then s && t else decide (signed s m (i - min i j).toNat + signed t n (j - min i j).toNat < 0)) (signed s m (i - min i j).toNat + signed t n (j - min i j).toNat).natAbs (min i j)) := by
    unfold Format.add
    rw [hr, kr]
    rfl
  refine ⟨_, hadd, ?_⟩
  have e1 : (i + 1074).toNat = (i - min i j).toNat + (min i j + 1074).toNat := by omega
  have e2 : (j + 1074).toNat = (j - min i j).toNat + (min i j + 1074).toNat := by omega
  rw [e1, e2, signed_add, signed_add, ← Int.add_mul] at hsum
  generalize signed s m (i - min i j).toNat + signed t n (j - min i j).toNat = total at hsum
  have hbase : -149 ≤ min i j := by omega
  generalize min i j = base at hsum hbase
  have hp : (0 : Int) < 2 ^ (base + 1074).toNat := pow_pos' _
  have hU := U_pos
  have habs : 16 * (total.natAbs * 2 ^ (base + 1074).toNat) = k.natAbs * 2 ^ K := by
    have := congrArg Int.natAbs hsum
    rw [Int.natAbs_mul, Int.natAbs_mul, Int.natAbs_mul, Int.natAbs_pow] at this
    have hU2 : U.natAbs = 2 ^ K := by rw [U_nat, Int.natAbs_natCast]
    rw [hU2] at this
    exact this
  rw [nearest_same single _ (same_grains (by omega) habs)]
  generalize hbb : (if total = 0 then s && t else decide (total < 0)) = b
  have hex := single_exact b (m := k.natAbs) (e := -4) (by omega) (by omega) (by omega)
  refine smp_of_num hex ?_ hb
  have hz : total = 0 → k = 0 := by
    intro q
    rw [q, Int.zero_mul, Int.mul_zero] at hsum
    rcases Int.mul_eq_zero.1 hsum.symm with q | q
    · exact q
    · omega
  have hneg : total < 0 ↔ k < 0 := by
    constructor
    · intro q
      have : total * 2 ^ (base + 1074).toNat < 0 := Int.mul_neg_of_neg_of_pos q hp
      by_cases r : k < 0
      · exact r
      · have : 0 ≤ k * U := Int.mul_nonneg (by omega) (by omega)
        omega
    · intro q
      have : k * U < 0 := Int.mul_neg_of_neg_of_pos q hU
      by_cases r : total < 0
      · exact r
      · have : 0 ≤ total * 2 ^ (base + 1074).toNat := Int.mul_nonneg (by omega) (by omega)
        omega
  have hs0 : signed b k.natAbs 0 = k := by
    unfold signed
    rw [← hbb]
    by_cases q : total = 0
    · have := hz q
      subst this
      cases (if total = 0 then s && t else decide (total < 0)) <;> rfl
    · rw [if_neg q]
      by_cases r : total < 0
      · have := hneg.1 r
        simp [r]; omega
      · have : ¬ k < 0 := fun z => r (hneg.2 z)
        simp [r]; omega
  rw [signed_eq, hs0, show (-4 + 1074 : Int).toNat = K - 4 by have := hK; omega]
  have e3 : U = 16 * 2 ^ (K - 4) := by
    unfold U
    rw [show (2 : Int) ^ K = 2 ^ 4 * 2 ^ (K - 4) by rw [← Int.pow_add]; congr 1]
    rfl
  rw [e3]
  generalize (2 : Int) ^ (K - 4) = z
  rw [Int.mul_left_comm]
end Go.Fl

/- Sums. -/
namespace Go.Ab
def sumN : Nat → (Nat → Int) → Int
  | 0, _ => 0
  | n + 1, f => sumN n f + f n
theorem sumN_congr {f g : Nat → Int} : ∀ {n : Nat}, (∀ i, i < n → f i = g i) → sumN n f = sumN n g
  | 0, _ => rfl
  | n + 1, h => by rw [sumN, sumN, sumN_congr fun i hi => h i (by omega), h n (by omega)]
theorem sumN_zero : ∀ n : Nat, sumN n (fun _ => 0) = 0
  | 0 => rfl
  | n + 1 => by rw [sumN, sumN_zero n]; rfl
theorem sumN_add (f g : Nat → Int) : ∀ n : Nat, sumN n (fun i => f i + g i) = sumN n f + sumN n g
  | 0 => rfl
  | n + 1 => by rw [sumN, sumN, sumN, sumN_add f g n]; omega
theorem sumN_swap (f : Nat → Nat → Int) (m : Nat) : ∀ n : Nat, sumN n (fun i => sumN m (fun j => f i j)) = sumN m (fun j => sumN n (fun i => f i j))
  | 0 => by simp only [sumN]; exact (sumN_zero m).symm
  | n + 1 => by simp only [sumN]; rw [sumN_swap f m n, sumN_add]
theorem sumN_one {f : Nat → Int} {a : Nat} : ∀ {n : Nat}, (∀ i, i < n → i ≠ a → f i = 0) → sumN n f = if a < n then f a else 0
  | 0, _ => by simp [sumN]
  | n + 1, h => by
    rw [sumN, sumN_one (n := n) fun i hi => h i (by omega)]
    by_cases q : a = n
    · subst q; simp
    · rw [h n (by omega) (by omega)]
      by_cases r : a < n
      · rw [if_pos r, if_pos (by omega)]; omega
      · rw [if_neg r, if_neg (by omega)]; rfl
theorem sumN_bound {f : Nat → Int} {B : Nat} : ∀ {n : Nat}, (∀ i, i < n → (f i).natAbs ≤ B) → (sumN n f).natAbs ≤ n * B
  | 0, _ => by simp [sumN]
  | n + 1, h => by
    have h1 := sumN_bound (n := n) fun i hi => h i (by omega)
    have h2 := h n (by omega)
    rw [sumN, Nat.succ_mul]
    omega
theorem sumN_shift (f : Nat → Int) : ∀ n : Nat, sumN (n + 1) f = f 0 + sumN n (fun i => f (i + 1))
  | 0 => by simp [sumN]
  | n + 1 => by rw [sumN, sumN_shift f n, sumN]; omega
theorem sumN_nonneg {f : Nat → Int} : ∀ {n : Nat}, (∀ i, i < n → 0 ≤ f i) → 0 ≤ sumN n f
  | 0, _ => by simp [sumN]
  | n + 1, h => by
    have h1 := sumN_nonneg (n := n) fun i hi => h i (by omega)
    have h2 := h n (by omega)
    rw [sumN]; omega

/-- What is spread: cell k after the rows below i, and j of row i. -/
def spread (pos : Nat → Nat → Nat) (vl : Nat → Nat → Int) (m i j k : Nat) : Int :=
  sumN i (fun a => sumN m (fun b => if pos a b = k then vl a b else 0)) + sumN j (fun b => if pos i b = k then vl i b else 0)
theorem spread_step (pos : Nat → Nat → Nat) (vl : Nat → Nat → Int) (m i j k : Nat) : spread pos vl m i (j + 1) k = spread pos vl m i j k + if pos i j = k then vl i j else 0 := by
  unfold spread
  rw [sumN]
  omega
theorem spread_row (pos : Nat → Nat → Nat) (vl : Nat → Nat → Int) (m i k : Nat) : spread pos vl m (i + 1) 0 k = spread pos vl m i m k := by
  unfold spread
  simp only [sumN]
  omega
theorem spread_none (pos : Nat → Nat → Nat) (vl : Nat → Nat → Int) (m k : Nat) : spread pos vl m 0 0 k = 0 := by
  unfold spread; rfl
theorem spread_bound {pos : Nat → Nat → Nat} {vl : Nat → Nat → Int} {m n i j : Nat} (k : Nat) {B : Nat} (hi : i < n) (hj : j ≤ m) (h : ∀ a b, a < n → b < m → (vl a b).natAbs ≤ B) : (spread pos vl m i j k).natAbs ≤ n * (m * B) := by
  unfold spread
  have h1 : (sumN i (fun a => sumN m (fun b => if pos a b = k then vl a b else 0))).natAbs ≤ i * (m * B) := sumN_bound fun a ha => sumN_bound fun b hb => by
    split
    · exact h a b (by omega) hb
    · simp
  have h2 : (sumN j (fun b => if pos i b = k then vl i b else 0)).natAbs ≤ j * B := sumN_bound fun b hb => by
    split
    · exact h i b (by omega) (by omega)
    · simp
  have h3 : j * B ≤ m * B := Nat.mul_le_mul_right _ hj
  have h4 : (i + 1) * (m * B) ≤ n * (m * B) := Nat.mul_le_mul_right _ hi
  rw [Nat.succ_mul] at h4
  omega
theorem range_set {f : Nat → Int} {n a : Nat} {d : Int} : ((List.range n).map f).set a (f a + d) = (List.range n).map fun k => f k + if a = k then d else 0 := by
  refine List.ext_getElem (by simp) fun i h1 h2 => ?_
  simp only [List.length_set, List.length_map, List.length_range] at h1
  rw [List.getElem_set]
  split
  · rename_i q; subst q; simp
  · rename_i q; simp [q]
theorem spread_set (pos : Nat → Nat → Nat) (vl : Nat → Nat → Int) (m i j n : Nat) : ((List.range n).map (spread pos vl m i j)).set (pos i j) (spread pos vl m i j (pos i j) + vl i j) = (List.range n).map (spread pos vl m i (j + 1)) := by
  rw [range_set]
  refine List.map_congr_left fun k _ => ?_
  rw [spread_step]
/-- All that is spread, gathered by columns, if each row puts one into a cell at most: 'inv' tells which. -/
theorem spread_all (pos : Nat → Nat → Nat) (vl : Nat → Nat → Int) (m n k : Nat) (ok : Nat → Bool) (inv : Nat → Nat) (h : ∀ a b, a < n → b < m → (pos a b = k ↔ (ok b = true ∧ inv b = a))) (hr : ∀ b, b < m → ok b = true → inv b < n) :
    spread pos vl m n 0 k = sumN m (fun b => if ok b = true then vl (inv b) b else 0) := by
  unfold spread
  rw [sumN_swap]
  show _ + 0 = _
  rw [Int.add_zero]
  refine sumN_congr fun b hb => ?_
  by_cases q : ok b = true
  · rw [if_pos q, sumN_one (a := inv b)]
    · rw [if_pos (hr b hb q), if_pos ((h _ _ (hr b hb q) hb).2 ⟨q, rfl⟩)]
    · intro a ha hne
      rw [if_neg]
      intro e
      exact hne ((h a b ha hb).1 e).2.symm
  · rw [if_neg q]
    rw [sumN_congr (g := fun _ => 0), sumN_zero]
    intro a ha
    rw [if_neg]
    intro e
    exact q ((h a b ha hb).1 e).1
end Go.Ab
