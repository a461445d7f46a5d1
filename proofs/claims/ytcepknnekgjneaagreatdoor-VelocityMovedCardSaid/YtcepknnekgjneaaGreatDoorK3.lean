/- Samples as floats and as integers; sums; roots. -/
import Derived.Test.YtcepknnekgjneaaGreatDoorK2
set_option linter.all false
/- Samples and their integers. -/
namespace Go.Fl
open Go Ieee Go.Ab

theorem toInt_num {f : Format} {w : Nat} {v : Int} (h : Num f w v) : (f.read w).toInt .zero = some (v.tdiv U) := by
  obtain ⟨s, m, e, h1, h2, h3⟩ := h.is
  rw [h1]
  unfold Datum.toInt
  rw [integral_zero h2]
  simp only
  rw [← h3, tdiv_signed]

end Go.Fl
namespace Go.Fl
open Go Ieee Go.Ab
end Go.Fl

/- The square root of a whole number, cut to a whole number. -/
namespace Go.Fl
open Go Ieee Go.Ab

theorem rootFrom_ok (n : Nat) : ∀ (t r : Nat), r * r ≤ n → n < (r + 2 ^ t) * (r + 2 ^ t) → (Datum.rootFrom n t r) * (Datum.rootFrom n t r) ≤ n ∧ n < (Datum.rootFrom n t r + 1) * (Datum.rootFrom n t r + 1)
  | 0, r, h1, h2 => by simpa [Datum.rootFrom] using ⟨h1, h2⟩
  | t + 1, r, h1, h2 => by
    unfold Datum.rootFrom
    simp only [Nat.shiftLeft_eq, Nat.one_mul]
    have h3 : r + 2 ^ (t + 1) = r + 2 ^ t + 2 ^ t := by rw [Nat.pow_succ]; omega
    rw [h3] at h2
    split
    · rename_i hc
      exact rootFrom_ok n t _ hc h2
    · rename_i hc
      exact rootFrom_ok n t _ h1 (by omega)

theorem sq_lt {a b : Nat} (h : a * a < b * b) : a < b := by
  apply Nat.lt_of_not_le
  intro hlt
  have := Nat.mul_le_mul hlt hlt
  omega

/-- A magnitude of 56 digits, written in a double: the nearest one of 53. -/
theorem near56 {M : Nat} {p : Int} (h1 : 2 ^ 55 ≤ M) (h2 : M < 2 ^ 56) (hp : -1000 ≤ p) (hp2 : p ≤ 0) :
    ∃ kept, (kept = M / 8 ∨ (kept = M / 8 + 1 ∧ 4 ≤ M % 8)) ∧ Num double (double.nearest false M p) ((kept * 2 ^ (p + 3 + 1074).toNat : Nat) : Int) := by
  have hlog : M.log2 = 55 := (Nat.log2_eq_iff (by omega)).2 ⟨h1, h2⟩
  have hfr : (double.fractionBits : Int) = 52 := rfl
  unfold Format.nearest
  rw [if_neg (by omega)]
  simp only [hlog, hfr, double_least]
  rw [show max (p + ((55 : Nat) : Int) - 52) (-1074) = p + 3 by omega]
  rw [show (p - (p + 3)).toNat = 0 by omega, show (p + 3 - p).toNat = 3 by omega, Nat.shiftLeft_zero]
  have hcut : ∃ kept, (kept = M / 8 ∨ (kept = M / 8 + 1 ∧ 4 ≤ M % 8)) ∧ Toward.even.cut false M 3 = kept := by
    refine ⟨_, ?_, rfl⟩
    unfold Toward.cut
    simp only [hlog]
    rw [show (1 <<< min 3 (55 + 2) : Nat) = 8 by decide]
    by_cases hc : (decide (8 < 2 * (M % 8)) || (8 == 2 * (M % 8) && M / 8 % 2 == 1)) = true
    · rw [hc]
      refine .inr ⟨rfl, ?_⟩
      simp only [Bool.or_eq_true, decide_eq_true_eq, Bool.and_eq_true, beq_iff_eq] at hc
      omega
    · have hc' : (decide (8 < 2 * (M % 8)) || (8 == 2 * (M % 8) && M / 8 % 2 == 1)) = false := by simpa using hc
      rw [hc']
      exact .inl rfl
  obtain ⟨kept, hk, hce⟩ := hcut
  rw [hce]
  refine ⟨kept, hk, ?_⟩
  have hb : double.binade = 2 ^ 52 := rfl
  have he : (2 : Nat) ^ double.exponentBits = 2048 := rfl
  have hk1 : 2 ^ 52 ≤ kept := by omega
  have hk2 : kept ≤ 2 ^ 53 := by omega
  by_cases hkk : kept < 2 ^ 53
  · obtain ⟨q1, q2⟩ := read_high double false (d := (p + 3 - -1074).toNat) (k := kept) (by rw [hb]; exact hk1) (by rw [hb]; omega) (by rw [he]; omega)
    rw [Nat.min_eq_left (Nat.le_of_lt q2)]
    refine ⟨false, kept, _, q1, by rw [double_least]; omega, ?_⟩
    rw [double_least]
    unfold signed
    simp only [Bool.false_eq_true, if_false, Nat.shiftLeft_eq]
    congr 3
    omega
  · obtain rfl : kept = 2 ^ 53 := by omega
    have hr : (p + 3 - -1074).toNat * double.binade + 2 ^ 53 = ((p + 3 - -1074).toNat + 1) * double.binade + 2 ^ 52 := by
      rw [hb]
      generalize (p + 3 - -1074).toNat = d
      omega
    rw [hr]
    obtain ⟨q1, q2⟩ := read_high double false (d := (p + 3 - -1074).toNat + 1) (k := 2 ^ 52) (by rw [hb]; exact Nat.le_refl _) (by rw [hb]; omega) (by rw [he]; omega)
    rw [Nat.min_eq_left (Nat.le_of_lt q2)]
    refine ⟨false, 2 ^ 52, _, q1, by rw [double_least]; omega, ?_⟩
    rw [double_least]
    unfold signed
    simp only [Bool.false_eq_true, if_false, Nat.shiftLeft_eq]
    have e2 : (-1074 + (((p + 3 - -1074).toNat + 1 : Nat) : Int) + 1074).toNat = (p + 3 + 1074).toNat + 1 := by omega
    rw [e2]
    have e3 : 2 ^ ((p + 3 + 1074).toNat + 1) = 2 ^ (p + 3 + 1074).toNat * 2 := Nat.pow_succ ..
    rw [e3]
    generalize 2 ^ (p + 3 + 1074).toNat = y
    omega

/-- The root of a whole number, in doubles, and cut: the whole root. -/
theorem sqrt_cut {n k : Nat} (hn : n < 2 ^ 40) (h1 : k * k ≤ n) (h2 : n < (k + 1) * (k + 1)) :
    ∃ c, double.sqrt (FloatKind.f64.nearest n) = some c ∧ (double.read c).toInt .zero = some (k : Int) := by
  have hnear : FloatKind.f64.nearest (n : Int) = double.nearest false n 0 := by
    show double.nearest (decide ((n : Int) < 0)) (n : Int).natAbs 0 = _
    rw [decide_eq_false (by omega), Int.natAbs_natCast]
  rw [hnear]
  unfold Format.sqrt
  by_cases h0 : n = 0
  · subst h0
    have hk : k = 0 := by
      apply Nat.eq_zero_of_not_pos
      intro hk
      have := Nat.mul_le_mul hk hk
      omega
    subst hk
    rw [write_zero]
    have hr : Datum.root (double.fractionBits + 2) (.number false 0 double.leastPlace) = some (.number false 0 double.leastPlace) := rfl
    rw [hr]
    refine ⟨_, rfl, ?_⟩
    unfold Format.write
    simp only
    rw [write_zero, double_least]
    decide +kernel
  · have hlog : n.log2 < 40 := (Nat.log2_lt h0).2 hn
    obtain ⟨m, e, r1, r2, r3, r4⟩ := write_exact double (by decide) false (m := n) (e := 0) h0 (by
      show n < 2 ^ 53
      omega) (by rw [double_least]; omega) (by
      rw [double_least]
      show (0 : Int) + (n.log2 : Int) + 3 ≤ -1074 + 52 + 2048
      omega)
    rw [r1]
    have hb : double.binade = 2 ^ 52 := rfl
    rw [hb] at r4
    unfold Same at r2
    have hm : m ≠ 0 := by
      intro hm
      rw [hm, Nat.zero_mul] at r2
      have := Nat.mul_pos (Nat.pos_of_ne_zero h0) (Nat.pow_pos (n := (0 - e).toNat) (show 0 < 2 by omega))
      omega
    have hml : m.log2 < 53 := (Nat.log2_lt hm).2 (by omega)
    have hlow := Nat.log2_self_le hm
    have hhigh : m < 2 ^ (m.log2 + 1) := Nat.lt_log2_self
    have hfr : double.fractionBits + 2 = 54 := rfl
    rw [hfr]
    obtain ⟨more, hmore⟩ : ∃ more, more = 2 * 54 - m.log2 + ((e - ((2 * 54 - m.log2 : Nat) : Int)) % 2).toNat := ⟨_, rfl⟩
    have hroot : Datum.root 54 (.number false m e) = some (.number false (2 * Datum.rootFrom (m <<< more) ((m <<< more).log2 / 2 + 1) 0 + (Datum.rootFrom (m <<< more) ((m <<< more).log2 / 2 + 1) 0 * Datum.rootFrom (m <<< more) ((m <<< more).log2 / 2 + 1) 0 != m <<< more).toNat) ((e - (more : Int)) / 2 - 1)) := by
      unfold Datum.root
      simp only [if_neg hm, Bool.false_eq_true, if_false]
      rw [← hmore]
    rw [hroot]
    have hsh : m <<< more = m * 2 ^ more := Nat.shiftLeft_eq ..
    rw [hsh]
    obtain ⟨N, hN⟩ : ∃ N, N = m * 2 ^ more := ⟨_, rfl⟩
    rw [← hN]
    -- the place is even, and not above 0
    have heven : (e - (more : Int)) % 2 = 0 := by omega
    have he0 : e ≤ 40 := by
      apply Int.not_lt.1
      intro hlt
      have : (0 - e).toNat = 0 := by omega
      rw [this, Nat.pow_zero, Nat.mul_one] at r2
      have h3 : 2 ^ 40 ≤ 2 ^ (e - 0).toNat := Nat.pow_le_pow_right (by omega) (by omega)
      have h4 : 1 * 2 ^ (e - 0).toNat ≤ m * 2 ^ (e - 0).toNat := Nat.mul_le_mul_right _ (by omega)
      omega
    obtain ⟨j, hj⟩ : ∃ j : Nat, e - (more : Int) = -2 * (j : Int) := ⟨((more : Int) - e).toNat / 2, by omega⟩
    have hNj : N = n * 4 ^ j := by
      have h4 : (4 : Nat) ^ j = 2 ^ (2 * j) := by rw [Nat.pow_mul]
      rw [hN, h4]
      by_cases hle : e ≤ 0
      · have e1 : (e - 0).toNat = 0 := by omega
        rw [e1, Nat.pow_zero, Nat.mul_one] at r2
        rw [← r2, Nat.mul_assoc, ← Nat.pow_add]
        congr 2
        omega
      · have e1 : (0 - e).toNat = 0 := by omega
        rw [e1, Nat.pow_zero, Nat.mul_one] at r2
        rw [r2, Nat.mul_assoc, ← Nat.pow_add]
        congr 2
        omega
    have hN1 : 2 ^ 108 ≤ N := by
      have : 2 ^ m.log2 * 2 ^ more ≤ m * 2 ^ more := Nat.mul_le_mul_right _ hlow
      rw [← Nat.pow_add] at this
      have h3 : 2 ^ 108 ≤ 2 ^ (m.log2 + more) := Nat.pow_le_pow_right (by omega) (by omega)
      omega
    have hN2 : N < 2 ^ 110 := by
      have : m * 2 ^ more < 2 ^ (m.log2 + 1) * 2 ^ more := Nat.mul_lt_mul_of_pos_right hhigh (Nat.pow_pos (by omega))
      rw [← Nat.pow_add] at this
      have h3 : 2 ^ (m.log2 + 1 + more) ≤ 2 ^ 110 := Nat.pow_le_pow_right (by omega) (by omega)
      omega
    obtain ⟨q1, q2⟩ := rootFrom_ok N (N.log2 / 2 + 1) 0 (by omega) (by
      have h3 : N < 2 ^ (N.log2 + 1) := Nat.lt_log2_self
      rw [Nat.zero_add, ← Nat.pow_add]
      exact Nat.lt_of_lt_of_le h3 (Nat.pow_le_pow_right (by omega) (by omega)))
    generalize Datum.rootFrom N (N.log2 / 2 + 1) 0 = r at q1 q2 ⊢
    generalize hM : 2 * r + (r * r != N).toNat = M
    have hM1 : 2 * r ≤ M ∧ M ≤ 2 * r + 1 := by
      have := Bool.toNat_le (r * r != N)
      omega
    have hr1 : 2 ^ 54 ≤ r := by
      have : 2 ^ 54 < r + 1 := sq_lt (by
        have : (2 : Nat) ^ 54 * 2 ^ 54 = 2 ^ 108 := by decide
        omega)
      omega
    have hr2 : r < 2 ^ 55 := sq_lt (by
        have : (2 : Nat) ^ 55 * 2 ^ 55 = 2 ^ 110 := by decide
        omega)
    have hj4 : (4 : Nat) ^ j = 2 ^ j * 2 ^ j := by rw [← Nat.mul_pow]
    have hp55 : j < 55 := by
      apply Nat.lt_of_not_le
      intro hlt
      have h3 : 4 ^ 55 ≤ 4 ^ j := Nat.pow_le_pow_right (by omega) hlt
      have h4 : 1 * 4 ^ j ≤ n * 4 ^ j := Nat.mul_le_mul_right _ (by omega)
      have h5 : (4 : Nat) ^ 55 = 2 ^ 110 := by decide
      omega
    have hp34 : 34 ≤ j := by
      apply Nat.le_of_not_lt
      intro hlt
      have h3 : 4 ^ j ≤ 4 ^ 33 := Nat.pow_le_pow_right (by omega) (by omega)
      have h4 : n * 4 ^ j ≤ 2 ^ 40 * 4 ^ 33 := Nat.mul_le_mul (by omega) h3
      have h5 : (2 : Nat) ^ 40 * 4 ^ 33 = 2 ^ 106 := by decide
      omega
    obtain ⟨i, rfl⟩ : ∃ i, j = i + 2 := ⟨j - 2, by omega⟩
    have hk20 : k < 2 ^ 20 := sq_lt (by
      have : (2 : Nat) ^ 20 * 2 ^ 20 = 2 ^ 40 := by decide
      omega)
    obtain ⟨y, hy⟩ : ∃ y, y = 2 ^ (i + 2) := ⟨_, rfl⟩
    obtain ⟨z, hz⟩ : ∃ z, z = 2 ^ i := ⟨_, rfl⟩
    have hyz : y = 4 * z := by rw [hy, hz, Nat.pow_add]; omega
    rw [← hy] at hj4
    rw [hj4] at hNj
    -- the root lies between
    have hky : k * y ≤ r := by
      have : k * y < r + 1 := sq_lt (by
        have e1 : k * y * (k * y) = k * k * (y * y) := by rw [Nat.mul_mul_mul_comm]
        have e2 : k * k * (y * y) ≤ n * (y * y) := Nat.mul_le_mul_right _ h1
        omega)
      omega
    have hys : 0 < y * y := Nat.mul_pos (by rw [hy]; exact Nat.pow_pos (by omega)) (by rw [hy]; exact Nat.pow_pos (by omega))
    have hgap : r + 2 < (k + 1) * y := by
      apply Nat.lt_of_not_le
      intro hge
      obtain ⟨T, hT⟩ : ∃ T, T = (k + 1) * y := ⟨_, rfl⟩
      rw [← hT] at hge
      have hTT : T * T = (k + 1) * (k + 1) * (y * y) := by rw [hT, Nat.mul_mul_mul_comm]
      have h3 : (n + 1) * (y * y) ≤ (k + 1) * (k + 1) * (y * y) := Nat.mul_le_mul_right _ h2
      rw [Nat.add_mul, Nat.one_mul, ← hNj, ← hTT] at h3
      -- T * T ≥ N + y * y, r ≥ T - 2
      have h4 : (T - 2) * (T - 2) ≤ r * r := Nat.mul_le_mul (by omega) (by omega)
      have hT2 : 2 ≤ T := by
        have : 1 * y ≤ (k + 1) * y := Nat.mul_le_mul_right _ (by omega)
        have hz1 : 1 ≤ z := by rw [hz]; exact Nat.pow_pos (by omega)
        omega
      obtain ⟨t, rfl⟩ : ∃ t, T = t + 2 := ⟨T - 2, by omega⟩
      rw [Nat.add_sub_cancel] at h4
      have h5 : (t + 2) * (t + 2) = t * t + 4 * t + 4 := by rw [Nat.add_mul, Nat.mul_add, Nat.mul_add]; omega
      -- y * y ≤ 4 t + 4 = 4 (k+1) y - 4
      have h6 : y * y ≤ 4 * (t + 2) := by omega
      rw [hT, ← Nat.mul_assoc] at h6
      have h7 : y ≤ 4 * (k + 1) := Nat.le_of_mul_le_mul_right h6 (by rw [hy]; exact Nat.pow_pos (by omega))
      have h8 : 2 ^ 34 ≤ y := by rw [hy]; exact Nat.pow_le_pow_right (by omega) (by omega)
      omega
    obtain ⟨kept, hk, hnum⟩ := near56 (M := M) (p := (e - (more : Int)) / 2 - 1) (by omega) (by omega) (by omega) (by omega)
    refine ⟨_, rfl, ?_⟩
    have := toInt_num hnum
    show ((double.read (double.nearest false M _)).toInt .zero) = _
    rw [this]
    congr 1
    have hpl : ((e - (more : Int)) / 2 - 1 + 3 + 1074).toNat = 1074 - i := by omega
    rw [hpl, U_nat, ← Int.ofNat_tdiv]
    congr 1
    have hKi : 2 ^ K = 2 ^ (1074 - i) * z := by rw [hz, ← Nat.pow_add, hK]; congr 1; omega
    rw [hKi, Nat.mul_comm kept, Nat.mul_div_mul_left _ _ (Nat.pow_pos (by omega))]
    -- kept / z = k
    have hz0 : 0 < z := by rw [hz]; exact Nat.pow_pos (by omega)
    have hkz : k * y = 4 * (k * z) := by rw [hyz, Nat.mul_left_comm]
    have hkz1 : (k + 1) * y = 4 * ((k + 1) * z) := by rw [hyz, Nat.mul_left_comm]
    rw [hkz] at hky
    rw [hkz1] at hgap
    have a1 : k * z ≤ kept := by omega
    have a2 : kept < (k + 1) * z := by omega
    rw [Nat.div_eq_iff hz0]
    rw [Nat.add_mul, Nat.one_mul] at a2
    omega
end Go.Fl
