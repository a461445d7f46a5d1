/- Samples, copies, sums, slices as arguments. -/
import Derived.Test.YtdelgpbfdimefaaGreatDoorK2
import Derived.Test.YtdelgpbfdimefaaGreatDoorA6
import Derived.ChangeSlices
set_option linter.all false
/- Samples and their integers. -/
namespace Go.Fl
open Go Ieee Go.Ab

theorem toInt_num {f : Format} {w : Nat} {v : Int} (h : Num f w v) : (f.read w).toInt .zero = some (v.tdiv U) := by
  obtain ⟨s, m, e, h1, h2, h3⟩ := h.is
  rw [h1]
  unfold Datum.toInt
  rw [integral_zero h2]
  simp only
  rw [← h3, tdiv_signed]

theorem smp_read {x : Nat} (h : smpE x = 0) : ∃ s m e, single.read x = .number s m e ∧ 16 * signed s m (e + 1074).toNat = smp x * U ∧ -16384 ≤ smp x ∧ smp x ≤ 16384 := by
  have hU := U_pos
  unfold smpE at h
  unfold smp
  split at h
  · rename_i s m e hr
    rw [hr]
    refine ⟨s, m, e, rfl, ?_⟩
    simp only at h ⊢
    split at h
    · rename_i hc
      obtain ⟨h1, h2, h3⟩ := hc
      obtain ⟨q, hq⟩ := Int.dvd_of_emod_eq_zero h1
      have e1 : (16 * signed s m (e + 1074).toNat).tdiv U = q := by rw [hq, Int.mul_tdiv_cancel_left _ (by omega)]
      rw [e1, hq, Int.mul_comm q U]
      rw [hq, Int.mul_comm U q] at h2 h3
      clear h1 hq e1 hr
      refine ⟨rfl, ?_, ?_⟩
      · have h2' : -16384 * U ≤ q * U := by rw [Int.neg_mul]; exact h2
        exact Int.le_of_mul_le_mul_right h2' hU
      · exact Int.le_of_mul_le_mul_right h3 hU
    · exact absurd h (by decide)
  · exact absurd h (by decide)

theorem read16 : single.read 1098907648 = .number false (2 ^ 23) (-19) := by decide +kernel

theorem signed_natAbs (s : Bool) (m k : Nat) : (signed s m k).natAbs = m * 2 ^ k := by
  rw [signed_eq, signed0]
  cases s <;> simp [Int.natAbs_mul, Int.natAbs_pow]

/-- 16 times a sample. -/
theorem mul16 {x : Nat} (h : smpE x = 0) : ∃ c, single.mul 1098907648 x = some c ∧ Num single c (smp x * U) := by
  obtain ⟨s, m, e, hr, hv, hlo, hhi⟩ := smp_read h
  obtain ⟨hm, h1, h2⟩ := read_single hr
  have hc : single.mul 1098907648 x = some (single.nearest s m (e + 4)) := by
    unfold Format.mul
    rw [read16, hr]
    simp only [Datum.product, Option.map_some, Format.write, Bool.false_xor]
    refine congrArg some (nearest_same single s ?_)
    unfold Same
    rw [show (-19 + e - (e + 4)).toNat = 0 by omega, show (e + 4 - (-19 + e)).toNat = 23 by omega, Nat.pow_zero, Nat.mul_one, Nat.mul_comm]
  refine ⟨_, hc, ?_⟩
  rw [← hv, ← mul16_signed s m (by omega)]
  by_cases h0 : m = 0
  · subst h0
    refine ⟨s, 0, -149, by rw [write_zero, single_least], by omega, ?_⟩
    rw [signed_zero, signed_zero]
  · refine single_exact s hm (by omega) ?_
    have ha := congrArg Int.natAbs hv
    rw [Int.natAbs_mul, Int.natAbs_mul, signed_natAbs, U_nat, Int.natAbs_natCast] at ha
    have hs : (smp x).natAbs ≤ 16384 := by omega
    have hle : 16 * (m * 2 ^ (e + 1074).toNat) ≤ 16384 * 2 ^ K := by
      have : (16 : Int).natAbs = 16 := rfl
      rw [this] at ha
      rw [ha]
      exact Nat.mul_le_mul_right _ hs
    have h3 : 2 ^ (e + 1074).toNat ≤ m * 2 ^ (e + 1074).toNat := Nat.le_mul_of_pos_left _ (Nat.pos_of_ne_zero h0)
    have h4 : 2 ^ (e + 1074).toNat ≤ 2 ^ (10 + K) := by rw [Nat.pow_add]; omega
    have h5 := (Nat.pow_le_pow_iff_right (a := 2) (by omega)).1 h4
    have := hK
    omega

/-- The word of an integer's sample. -/
def smpW (n : Int) : Nat := (single.div (FloatKind.f32.nearest n) 1098907648).getD 0

theorem near32 {n : Int} : FloatKind.f32.nearest n = single.nearest (n < 0) n.natAbs 0 := rfl

theorem div16 {n : Int} (h : n.natAbs ≤ 16384) : single.div (FloatKind.f32.nearest n) 1098907648 = some (smpW n) ∧ ∃ v, Num single (smpW n) v ∧ 16 * v = n * U := by
  have hn : n.natAbs < 2 ^ 24 := by omega
  have key : ∃ s, single.div (FloatKind.f32.nearest n) 1098907648 = some (single.nearest s n.natAbs (-4)) ∧ signed s n.natAbs 0 = n := by
    refine ⟨n < 0, ?_, by rw [signed0]; by_cases q : n < 0 <;> simp [q] <;> omega⟩
    rw [near32]
    generalize decide (n < 0) = s
    unfold Format.div
    rw [read16]
    by_cases h0 : n.natAbs = 0
    · rw [h0, write_zero, single_least]
      simp only [Datum.quotient, Option.map_some, Format.write, Bool.xor_false, Nat.zero_shiftLeft, Nat.zero_div, Nat.zero_mod]
      refine congrArg some (nearest_same single s ?_)
      unfold Same
      simp
    · obtain ⟨m', e', q1, q2, q3, _⟩ := write_exact single (by decide) s (m := n.natAbs) (e := 0) h0 hn (by rw [single_least]; omega) (by
        have : n.natAbs.log2 < 24 := (Nat.log2_lt h0).2 hn
        rw [single_least]
        show 0 + (n.natAbs.log2 : Int) + 3 ≤ -149 + 23 + 256
        omega)
      rw [q1]
      have hq : (2 : Nat) ^ 23 ≠ 0 := by decide
      have hl : ((2 : Nat) ^ 23).log2 = 23 := by decide +kernel
      have hs : Same n.natAbs 0 m' e' := q2
      simp only [Datum.quotient, Option.map_some, Format.write, Bool.xor_false, hl, if_neg hq]
      have hlm : m'.log2 < 24 := by
        have hm' : m' < 2 ^ 24 := (read_single q1).1
        by_cases hz : m' = 0
        · subst hz; decide
        · exact (Nat.log2_lt hz).2 hm'
      have hmore : ∃ k, single.fractionBits + 2 + 23 - m'.log2 = 23 + k := ⟨single.fractionBits + 2 - m'.log2, by
        have : single.fractionBits = 23 := rfl
        omega⟩
      obtain ⟨k, hk⟩ := hmore
      rw [hk, Nat.shiftLeft_eq, Nat.pow_add]
      have e1 : m' * (2 ^ 23 * 2 ^ k) = m' * 2 ^ k * 2 ^ 23 := by rw [Nat.mul_comm (2 ^ 23), Nat.mul_assoc]
      rw [e1, Nat.mul_div_cancel _ (by decide), Nat.mul_mod_left]
      refine congrArg some ?_
      have e2 : (2 * (m' * 2 ^ k) + (0 != 0 : Bool).toNat) = m' * 2 ^ (k + 1) := by
        rw [show (0 != 0 : Bool).toNat = 0 by rfl, Nat.add_zero, Nat.pow_succ, Nat.mul_left_comm, Nat.mul_comm 2]
      rw [e2, show (e' - -19 - ((23 + k : Nat) : Int) - 1) = (e' - 4) - ((k + 1 : Nat) : Int) by omega, nearest_pow]
      refine nearest_same single s ?_
      unfold Same at hs ⊢
      rw [show (e' - 4 - -4).toNat = (e' - 0).toNat by omega, show (-4 - (e' - 4)).toNat = (0 - e').toNat by omega]
      exact hs.symm
  obtain ⟨s, k1, k2⟩ := key
  have hw : smpW n = single.nearest s n.natAbs (-4) := by unfold smpW; rw [k1]; rfl
  refine ⟨by rw [hw]; exact k1, signed s n.natAbs ((-4 : Int) + 1074).toNat, by rw [hw]; exact single_exact s hn (by omega) (by omega), ?_⟩
  rw [show ((-4 : Int) + 1074).toNat = 1070 by omega, signed_eq, k2]
  unfold U K
  rw [show (2 : Int) ^ 1074 = 16 * 2 ^ 1070 by rw [show 1074 = 4 + 1070 by rfl, Int.pow_add]; rfl]
  rw [← Int.mul_assoc, ← Int.mul_assoc, Int.mul_comm 16 n]
end Go.Fl
namespace Go.Fl
open Go Ieee Go.Ab
theorem floatInt_num {P : Program} {c : Nat} {n : Int} (h : Num single c (n * U)) (h1 : -16384 ≤ n) (h2 : n ≤ 16384) : prun P (Conv.floatToInt .f32 c .i64) = some (.int .i64 n) := by
  have e : (n * U).tdiv U = n := Int.mul_tdiv_cancel _ (by have := U_pos; omega)
  have := toInt_num h
  rw [e] at this
  unfold Conv.floatToInt
  rw [show FloatKind.decode .f32 c = single.read c from rfl, this]
  have hm : IntKind.min .i64 ≤ n ∧ n ≤ IntKind.max .i64 := by
    have e1 : IntKind.min .i64 = -9223372036854775808 := by decide
    have e2 : IntKind.max .i64 = 9223372036854775807 := by decide
    rw [e1, e2]; omega
  simp only
  rw [if_pos hm]
  rfl
end Go.Fl

/- A copy: appended to an empty list of its own. -/
namespace Go.Ab
open Go
section
variable {M : Mc} {h : H} {e : TypeId} {es n : Nat} {dd : TypeDesc}
theorem append_copy {B : Nat} {st xt : TypeId} {by' m : Nat} {z' w : Value} {new : List Value} (hu : M.P.underlying st = some (.slice e)) (hxu : M.P.underlying xt = some dd) (hdd : (match dd with | .int _ => false | _ => true) = true) (hs : tsz M.P e = some es) (hb : tby M.P e = some by') (hz : tzero M.P e = some z')
    (hg : (gd z' && Nat.beq z'.cells.size es && !(Nat.beq es 0) && !(Nat.beq by' 0)) = true) (hat : At h B (.cells [] e es false)) (sl : Sl M.G h es w m new) (hone : new.all one = true) (hle : m * by' ≤ 70368744177664) :
    ∃ r h', aappend M.P M.G h st xt (.slice (some ⟨B, 0, some 0⟩) 0 0) w = some (r, h') ∧ Sl M.G h' es r m new ∧ Grow h h' ∧ (Wf h → Wf h') := by
  simp only [Bool.and_eq_true] at hg
  obtain ⟨⟨⟨g1, g2⟩, g3⟩, g4⟩ := hg
  have hlen := sl.length
  obtain ⟨wa, wc, rfl⟩ := sl.form
  have hf := sl.first
  have han : anews M.P M.G h xt es z'.cells.toList (.slice wa m wc) = some (m, new) := by
    unfold anews
    rw [hxu]
    cases dd <;> first | (simp at hdd; done) | simp only [alen, hf]
  have hle' : (0 + m) * by' ≤ 70368744177664 := by rw [Nat.zero_add]; exact hle
  have hcond : (gd z' && Nat.beq z'.cells.size es && !(Nat.beq es 0) && !(Nat.beq by' 0) && Nat.ble ((0 + m) * by') 70368744177664 && new.all one && Nat.beq new.length (m * es)) = true := by
    simp only [g1, g2, g3, g4, hone, hlen, nbeq_self, ble_dec, decide_eq_true hle', Bool.and_self]
  by_cases hm : m = 0
  · subst hm
    have hn0 : new = [] := by simpa using hlen
    subst hn0
    refine ⟨.slice (some ⟨B, 0, some 0⟩) 0 0, h, ?_, Sl.ofAt hat (by simp) (Nat.le_refl _), .refl _, id⟩
    unfold aappend
    have hb0 : Nat.ble (0 + 0) 0 = true := rfl
    simp only [hu, hs, hb, hz, han, hcond, hb0]
    try rfl
  · refine ⟨.slice (some ⟨h.nx, 0, some 0⟩) m m, h.push (.cells new e es true), ?_, Sl.ofAt (At.new _ _) hlen (Nat.le_refl _), (Grow.refl _).push _, fun w => w.push _⟩
    unfold aappend
    have hb0 : Nat.ble (0 + m) 0 = false := by rw [ble_dec]; simp; omega
    have hfo : afirst M.G h es 0 (.slice (some ⟨B, 0, some 0⟩) 0 0) = some [] := (Sl.ofAt (G := M.G) hat (by simp) (Nat.le_refl _)).first
    simp only [hu, hs, hb, hz, han, hcond, hb0, hfo]
    unfold agrow
    have hl2 : ([] ++ new).length = (0 + m) * es := by simpa using hlen
    simp only [hl2, nbeq_self, hat.get, Bool.false_and, List.nil_append, Nat.zero_add, hlen]
theorem op_mkSlI {l : KL} {t : TypeId} {x y : Operand} {k : IntKind} {by' : Nat} {z' : Value} {A : Int} {dt : TypeId} (N : Nat) (hx : val l x = some (.int k A)) (hy : val l y = some (.int k A)) (hA : A = (N : Int)) (hu : M.P.underlying t = some (.slice dt)) (hn : tsz M.P dt = some 1) (hb : tby M.P dt = some by') (hz : tzero M.P dt = some z') (hg : (gd z' && scalV z') = true) (hle : N * by' ≤ 70368744177664) (hle' : N ≤ 70368744177664) :
    Op1 M (.makeSlice t x y) l h (.slice (some ⟨h.nx, 0, some 0⟩) N N) (h.push (.cells (List.replicate N z') dt 1 false)) := by
  subst hA
  exact op_mkSl hx hy hu hn hb hz hg hle hle'
end
theorem wc_label {M : Mc} {ro : Option Nat} {i sz : Nat} {l : KL} {h : H} {Q : X → KL → H → Prop} (q : Q .norm l h) : Wc M ro (.label i) sz l h Q := fun e he => ⟨.norm, e, h, l, .of fun _ => rfl, he, q⟩
theorem wc_join {M : Mc} {ro : Option Nat} {a b : Code} {sz : Nat} {l : KL} {h : H} {Q : X → KL → H → Prop} {ι : Type} (L : ι → KL) (I : ι → H → Prop) (hA : Wc M ro a sz l h (fun x l' h' => x = .norm ∧ ∃ i, (∀ t v, lk (L i) t = some v → lk l' t = some v) ∧ I i h')) (hB : ∀ i h, I i h → Wc M ro b sz (L i) h Q) : Wc M ro a sz l h (SeqQ M ro b sz Q) :=
  wc_mono hA fun x l' h' ⟨e, i, hl, hi⟩ => by
    subst e
    exact sq_norm (wc_less hl (hB i h' hi))
theorem wc_mid {M : Mc} {ro : Option Nat} {a b : Code} {sz : Nat} {l : KL} {h : H} {Q : X → KL → H → Prop} {ι : Type} (L : ι → KL) (I : ι → H → Prop) (hA : Wc M ro a sz l h (fun x l' h' => x = .norm ∧ ∃ i, (∀ t v, lk (L i) t = some v → lk l' t = some v) ∧ I i h')) (hB : ∀ i h, I i h → Wc M ro b sz (L i) h Q) : Wc M ro (a.seq b) sz l h Q :=
  wc_seq (wc_join L I hA hB)
end Go.Ab

/- Sums. -/
namespace Go.Ab
def sumN : Nat → (Nat → Int) → Int
  | 0, _ => 0
  | n + 1, f => sumN n f + f n
theorem sumN_congr {f g : Nat → Int} : ∀ {n : Nat}, (∀ i, i < n → f i = g i) → sumN n f = sumN n g
  | 0, _ => rfl
  | n + 1, h => by rw [sumN, sumN, sumN_congr fun i hi => h i (by omega), h n (by omega)]
theorem sumN_zero : ∀ n : Nat, sumN n (fun _ => 0) = 0
  | 0 => rfl
  | n + 1 => by rw [sumN, sumN_zero n]; rfl
theorem sumN_add (f g : Nat → Int) : ∀ n : Nat, sumN n (fun i => f i + g i) = sumN n f + sumN n g
  | 0 => rfl
  | n + 1 => by rw [sumN, sumN, sumN, sumN_add f g n]; omega
theorem sumN_swap (f : Nat → Nat → Int) (m : Nat) : ∀ n : Nat, sumN n (fun i => sumN m (fun j => f i j)) = sumN m (fun j => sumN n (fun i => f i j))
  | 0 => by simp only [sumN]; exact (sumN_zero m).symm
  | n + 1 => by simp only [sumN]; rw [sumN_swap f m n, sumN_add]
theorem sumN_one {f : Nat → Int} {a : Nat} : ∀ {n : Nat}, (∀ i, i < n → i ≠ a → f i = 0) → sumN n f = if a < n then f a else 0
  | 0, _ => by simp [sumN]
  | n + 1, h => by
    rw [sumN, sumN_one (n := n) fun i hi => h i (by omega)]
    by_cases q : a = n
    · subst q; simp
    · rw [h n (by omega) (by omega)]
      by_cases r : a < n
      · rw [if_pos r, if_pos (by omega)]; omega
      · rw [if_neg r, if_neg (by omega)]; rfl
theorem sumN_bound {f : Nat → Int} {B : Nat} : ∀ {n : Nat}, (∀ i, i < n → (f i).natAbs ≤ B) → (sumN n f).natAbs ≤ n * B
  | 0, _ => by simp [sumN]
  | n + 1, h => by
    have h1 := sumN_bound (n := n) fun i hi => h i (by omega)
    have h2 := h n (by omega)
    rw [sumN, Nat.succ_mul]
    omega
theorem sumN_shift (f : Nat → Int) : ∀ n : Nat, sumN (n + 1) f = f 0 + sumN n (fun i => f (i + 1))
  | 0 => by simp [sumN]
  | n + 1 => by rw [sumN, sumN_shift f n, sumN]; omega
theorem sumN_nonneg {f : Nat → Int} : ∀ {n : Nat}, (∀ i, i < n → 0 ≤ f i) → 0 ≤ sumN n f
  | 0, _ => by simp [sumN]
  | n + 1, h => by
    have h1 := sumN_nonneg (n := n) fun i hi => h i (by omega)
    have h2 := h n (by omega)
    rw [sumN]; omega

/-- What is spread: cell k after the rows below i, and j of row i. -/
def spread (pos : Nat → Nat → Nat) (vl : Nat → Nat → Int) (m i j k : Nat) : Int :=
  sumN i (fun a => sumN m (fun b => if pos a b = k then vl a b else 0)) + sumN j (fun b => if pos i b = k then vl i b else 0)
theorem spread_step (pos : Nat → Nat → Nat) (vl : Nat → Nat → Int) (m i j k : Nat) : spread pos vl m i (j + 1) k = spread pos vl m i j k + if pos i j = k then vl i j else 0 := by
  unfold spread
  rw [sumN]
  omega
theorem spread_row (pos : Nat → Nat → Nat) (vl : Nat → Nat → Int) (m i k : Nat) : spread pos vl m (i + 1) 0 k = spread pos vl m i m k := by
  unfold spread
  simp only [sumN]
  omega
theorem spread_none (pos : Nat → Nat → Nat) (vl : Nat → Nat → Int) (m k : Nat) : spread pos vl m 0 0 k = 0 := by
  unfold spread; rfl
theorem spread_bound {pos : Nat → Nat → Nat} {vl : Nat → Nat → Int} {m n i j : Nat} (k : Nat) {B : Nat} (hi : i < n) (hj : j ≤ m) (h : ∀ a b, a < n → b < m → (vl a b).natAbs ≤ B) : (spread pos vl m i j k).natAbs ≤ n * (m * B) := by
  unfold spread
  have h1 : (sumN i (fun a => sumN m (fun b => if pos a b = k then vl a b else 0))).natAbs ≤ i * (m * B) := sumN_bound fun a ha => sumN_bound fun b hb => by
    split
    · exact h a b (by omega) hb
    · simp
  have h2 : (sumN j (fun b => if pos i b = k then vl i b else 0)).natAbs ≤ j * B := sumN_bound fun b hb => by
    split
    · exact h i b (by omega) (by omega)
    · simp
  have h3 : j * B ≤ m * B := Nat.mul_le_mul_right _ hj
  have h4 : (i + 1) * (m * B) ≤ n * (m * B) := Nat.mul_le_mul_right _ hi
  rw [Nat.succ_mul] at h4
  omega
theorem range_set {f : Nat → Int} {n a : Nat} {d : Int} : ((List.range n).map f).set a (f a + d) = (List.range n).map fun k => f k + if a = k then d else 0 := by
  refine List.ext_getElem (by simp) fun i h1 h2 => ?_
  simp only [List.length_set, List.length_map, List.length_range] at h1
  rw [List.getElem_set]
  split
  · rename_i q; subst q; simp
  · rename_i q; simp [q]
theorem spread_set (pos : Nat → Nat → Nat) (vl : Nat → Nat → Int) (m i j n : Nat) : ((List.range n).map (spread pos vl m i j)).set (pos i j) (spread pos vl m i j (pos i j) + vl i j) = (List.range n).map (spread pos vl m i (j + 1)) := by
  rw [range_set]
  refine List.map_congr_left fun k _ => ?_
  rw [spread_step]
/-- All that is spread, gathered by columns, if each row puts one into a cell at most: 'inv' tells which. -/
theorem spread_all (pos : Nat → Nat → Nat) (vl : Nat → Nat → Int) (m n k : Nat) (ok : Nat → Bool) (inv : Nat → Nat) (h : ∀ a b, a < n → b < m → (pos a b = k ↔ (ok b = true ∧ inv b = a))) (hr : ∀ b, b < m → ok b = true → inv b < n) :
    spread pos vl m n 0 k = sumN m (fun b => if ok b = true then vl (inv b) b else 0) := by
  unfold spread
  rw [sumN_swap]
  show _ + 0 = _
  rw [Int.add_zero]
  refine sumN_congr fun b hb => ?_
  by_cases q : ok b = true
  · rw [if_pos q, sumN_one (a := inv b)]
    · rw [if_pos (hr b hb q), if_pos ((h _ _ (hr b hb q) hb).2 ⟨q, rfl⟩)]
    · intro a ha hne
      rw [if_neg]
      intro e
      exact hne ((h a b ha hb).1 e).2.symm
  · rw [if_neg q]
    rw [sumN_congr (g := fun _ => 0), sumN_zero]
    intro a ha
    rw [if_neg]
    intro e
    exact q ((h a b ha hb).1 e).1
end Go.Ab

/- Slices as arguments; a world's cells as a base. -/
namespace Go.Ab
open Go Go.RowKit Go.ChangeShapes Go.WideShapes Go.ChangeAt

/-- What a world holds in plain cells below its heap's end. -/
def wbase (w : World) : Base := fun a => match a.spot with
  | none => match w.cell? a with
    | some v => match gd v with
      | true => some v
      | false => none
    | none => none
  | some _ => none
theorem cell_lt {w : World} {a : Addr} {v : Value} (h : w.cell? a = some v) : a.block < w.heap.size := by
  unfold World.cell? at h
  split at h
  · rename_i c _ _ hh
    exact (Array.getElem?_eq_some_iff.1 hh).1
  · cases h
theorem cell_spot {w : World} {a : Addr} {v : Value} (h : w.cell? a = some v) : a.spot = none := by
  unfold World.cell? at h
  split at h
  · split at h
    · cases h
    · rename_i q; simpa using q
  · cases h
theorem wbase_some {w : World} {a : Addr} {v : Value} (h : w.cell? a = some v) (g : gd v = true) : wbase w a = some v := by
  unfold wbase
  rw [cell_spot h]
  simp only [h, g]
theorem wbase_ok (w : World) : BaseOk w.heap.size (wbase w) w := by
  refine ⟨fun a v e => ?_, Nat.le_refl _⟩
  unfold wbase at e
  split at e
  · rename_i hs
    split at e
    · rename_i u hu
      split at e
      · rename_i hg
        cases e
        exact ⟨hs, cell_lt hu, hu, VRel.gd_refl hg⟩
      · cases e
    · cases e
  · cases e

variable {P : Program} {H' : Type} {enc : TypeId × Value → H'} {w : World} {base : Nat} {sp : Nat → Bool} {held : Bool}

theorem open_sl {α : Type} (g : α → Value) (hg : ∀ y, gd (g y) = true) {t e : TypeId} {r : Reach} {b0 : Nat} {v : Value} {d : DataW H'} {ps : List MemPlace} (ht : P.underlying t = some (.slice e)) (hc : P.cellsOf e = 1)
    (hel : ∀ (fuel : Nat) (cs : List Value) (x : DataW H' × List MemPlace), DataW.trod enc P w base sp held fuel e cs = some x → ∃ y, cs = [g y])
    (hval : Value.okWide P w r b0 t v) (hd : DataW.Trod enc P w base sp held t v d ps) : ∃ (v0 : Value) (n : Nat) (l : List α), VRel (fun _ => none) v0 v ∧ Sl (wbase w) H.empty 1 v0 n (l.map g) := by
  have hv : ∃ a n c, v = .slice a n c := by
    simp only [Value.okWide, ht, Cell.okWide] at hval
    cases v <;> simp_all [Cell.ok]
  obtain ⟨a0, n0, c0, rfl⟩ := hv
  obtain ⟨fuel, hf⟩ := hd
  have hcs : (Value.slice a0 n0 c0).cells.toList = [.slice a0 n0 c0] := rfl
  rw [hcs] at hf
  rcases DataW.trod_slice ht hf with ⟨e1, _⟩ | ⟨a, len, cap, elems, rest, m, _, e1, _, hb, hl, hm, hlen, hel2, _, _⟩
  · cases e1
    exact ⟨.slice none 0 0, 0, [], .nils 0 0, .nil⟩
  · cases e1
    have each : ∀ i, i < n0 → ∃ y, w.cell? (a.add i) = some (g y) := by
      intro i hi
      obtain ⟨y, hy⟩ : ∃ y, elems[i]? = some y := ⟨_, List.getElem?_eq_getElem (by omega)⟩
      have h1 := hel2 i hi
      rw [hy, hc, Nat.mul_one, Option.bind_eq_some_iff] at h1
      obtain ⟨cs', hcs', hy'⟩ := h1
      obtain ⟨z, rfl⟩ := hel _ _ _ hy'
      exact ⟨z, cell_of_cells?_one hcs'⟩
    by_cases h0 : n0 = 0
    · subst h0
      exact ⟨.slice (some ⟨0, 0, some 1⟩) 0 0, 0, [], .loose 0 0 a c0, .end' 0 0⟩
    obtain ⟨y0, hy0⟩ := each 0 (by omega)
    have hs : a.spot = none := cell_spot (a := a) (by simpa [Addr.add] using hy0)
    have hl2 : ∃ l : List α, l.length = n0 ∧ ∀ i y, l[i]? = some y → w.cell? (a.add i) = some (g y) := by
      have : ∀ k, k ≤ n0 → ∃ l : List α, l.length = k ∧ ∀ i y, l[i]? = some y → w.cell? (a.add i) = some (g y) := by
        intro k
        induction k with
        | zero => exact fun _ => ⟨[], rfl, fun i y q => by simp at q⟩
        | succ k ih =>
          intro hk
          obtain ⟨l, e1, e2⟩ := ih (by omega)
          obtain ⟨y, hy⟩ := each k (by omega)
          refine ⟨l ++ [y], by simp [e1], fun i z q => ?_⟩
          by_cases hi : i < l.length
          · rw [List.getElem?_append_left hi] at q
            exact e2 i z q
          · rw [List.getElem?_append_right (by omega)] at q
            have : i = k := by
              have := (List.getElem?_eq_some_iff.1 q).1
              simp at this
              omega
            subst this
            rw [e1, Nat.sub_self] at q
            simp at q
            subst q
            exact hy
      exact this n0 (Nat.le_refl _)
    obtain ⟨l, e1, e2⟩ := hl2
    refine ⟨.slice (some a) n0 c0, n0, l, .bsl a n0 c0 hs, .mem a n0 c0 _ (by simp [e1]) ⟨(fun q => by rw [hs] at q; cases q), fun i v q => ?_, .inl hs, (fun q => by rw [hs] at q; cases q)⟩ hl (fun q => by rw [hs] at q; cases q)⟩
    rw [List.getElem?_map] at q
    obtain ⟨y, hy, rfl⟩ := Option.map_eq_some_iff.1 q
    have := e2 i y hy
    have hadd : a.add i = aadd a i := by
      unfold Addr.add aadd
      split
      · rename_i h; subst h; cases a; simp at hs; simp [hs]
      · rw [hs]
    rw [hadd] at this
    unfold acell
    have hs2 : (aadd a i).spot = none := hs
    rw [hs2]
    exact wbase_some this (hg y)
theorem open_slF {t e : TypeId} {r : Reach} {b0 : Nat} {k : FloatKind} {v : Value} {d : DataW H'} {ps : List MemPlace} (ht : P.underlying t = some (.slice e)) (hc : P.cellsOf e = 1) (he : P.underlying e = some (.float k))
    (hval : Value.okWide P w r b0 t v) (hd : DataW.Trod enc P w base sp held t v d ps) : ∃ (v0 : Value) (n : Nat) (l : List Nat), VRel (fun _ => none) v0 v ∧ Sl (wbase w) H.empty 1 v0 n (l.map (.float k)) :=
  open_sl (.float k) (fun _ => rfl) ht hc (fun fuel cs x h => (trod_float' he h).imp fun _ q => q.1) hval hd
theorem open_slI {t e : TypeId} {r : Reach} {b0 : Nat} {k : IntKind} {v : Value} {d : DataW H'} {ps : List MemPlace} (ht : P.underlying t = some (.slice e)) (hc : P.cellsOf e = 1) (he : P.underlying e = some (.int k))
    (hval : Value.okWide P w r b0 t v) (hd : DataW.Trod enc P w base sp held t v d ps) : ∃ (v0 : Value) (n : Nat) (l : List Int), VRel (fun _ => none) v0 v ∧ Sl (wbase w) H.empty 1 v0 n (l.map (.int k)) :=
  open_sl (.int k) (fun _ => rfl) ht hc (fun fuel cs x h => (DataW.trod_int he h).imp fun _ q => q.1) hval hd
end Go.Ab
