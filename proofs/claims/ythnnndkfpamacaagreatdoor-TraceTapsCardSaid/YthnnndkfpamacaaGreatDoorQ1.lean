/- Convolutions and correlations of small lists; the peak. -/
import Derived.Test.YthnnndkfpamacaaGreatDoorL3
import Derived.Test.YthnnndkfpamacaaGreatDoorK3
import Derived.Test.YthnnndkfpamacaaGreatDoorK1
import Derived.Test.YthnnndkfpamacaaGreatDoorM2
import Derived.Test.YthnnndkfpamacaaGreatDoorV1
set_option linter.all false
/- Mathematics of TraceTaps: convolutions in either order, correlations backwards, no value above the energy. -/
namespace Go.Proofs.YthnnndkfpamacaaGreatDoor
open Go Go.Ab Go.Fl

theorem getD_out {l : List Int} {i : Nat} (hi : l.length ≤ i) : l.getD i 0 = 0 := by
  rw [List.getD_eq_getElem?_getD, List.getElem?_eq_none hi]; rfl
theorem getD_rangeMap {n : Nat} {f : Nat → Int} {k : Nat} (hk : k < n) : ((List.range n).map f).getD k 0 = f k := by
  rw [List.getD_eq_getElem?_getD, List.getElem?_eq_getElem (by simpa using hk)]
  simp
theorem getD_ext {a b : List Int} (hl : a.length = b.length) (h : ∀ k, k < a.length → a.getD k 0 = b.getD k 0) : a = b := by
  apply List.ext_getElem hl
  intro i h1 h2
  have := h i h1
  rw [List.getD_eq_getElem?_getD, List.getD_eq_getElem?_getD, List.getElem?_eq_getElem h1, List.getElem?_eq_getElem h2] at this
  simpa using this

theorem len_conv (l t : List Int) : (convL l t).length = l.length + t.length - 1 := by unfold convL; simp
/-- One value of a convolution, at each place. -/
theorem conv_at (l : List Int) {t : List Int} (ht : 0 < t.length) (k : Nat) : (convL l t).getD k 0 = sumN t.length (fun b => if b ≤ k then t.getD b 0 * l.getD (k - b) 0 else 0) := by
  by_cases hk : k < l.length + t.length - 1
  · unfold convL
    rw [getD_rangeMap hk]
    refine sumN_congr fun b hb => ?_
    unfold colv
    by_cases h1 : b ≤ k
    · by_cases h2 : k - b < l.length
      · rw [if_pos ⟨h1, h2⟩, if_pos h1]
      · rw [if_neg (fun q => h2 q.2), if_pos h1, getD_out (l := l) (by omega), Int.mul_zero]
    · rw [if_neg (fun q => h1 q.1), if_neg h1]
  · rw [getD_out (by rw [len_conv]; omega), sumN_congr (g := fun _ => 0), sumN_zero]
    intro b hb
    by_cases h1 : b ≤ k
    · rw [if_pos h1, getD_out (l := l) (by omega), Int.mul_zero]
    · rw [if_neg h1]
theorem sumN_mul (c : Int) (f : Nat → Int) : ∀ n : Nat, c * sumN n f = sumN n (fun i => c * f i)
  | 0 => by simp [sumN]
  | n + 1 => by rw [sumN, sumN, Int.mul_add, sumN_mul c f n]
theorem conv_conv (l : List Int) {s t : List Int} (hs : 0 < s.length) (ht : 0 < t.length) (k : Nat) :
    (convL (convL l s) t).getD k 0 = sumN t.length (fun b => sumN s.length (fun c => if b + c ≤ k then t.getD b 0 * (s.getD c 0 * l.getD (k - b - c) 0) else 0)) := by
  rw [conv_at _ ht]
  refine sumN_congr fun b hb => ?_
  by_cases h1 : b ≤ k
  · rw [if_pos h1, conv_at _ hs, sumN_mul]
    refine sumN_congr fun c hc => ?_
    by_cases h2 : c ≤ k - b
    · rw [if_pos h2, if_pos (by omega)]
    · rw [if_neg h2, if_neg (by omega), Int.mul_zero]
  · rw [if_neg h1, sumN_congr (g := fun _ => 0), sumN_zero]
    intro c hc
    rw [if_neg (by omega)]
/-- Two convolutions, in either order. -/
theorem conv_comm (l : List Int) {s t : List Int} (hs : 0 < s.length) (ht : 0 < t.length) : convL (convL l s) t = convL (convL l t) s := by
  refine getD_ext (by simp only [len_conv]; omega) fun k _ => ?_
  rw [conv_conv l hs ht, conv_conv l ht hs, sumN_swap]
  refine sumN_congr fun c hc => sumN_congr fun b hb => ?_
  rw [Nat.add_comm b c]
  by_cases h : c + b ≤ k
  · rw [if_pos h, if_pos h, show k - b - c = k - c - b by omega]
    rw [← Int.mul_assoc, ← Int.mul_assoc, Int.mul_comm (t.getD b 0)]
  · rw [if_neg h, if_neg h]
/-- The tap 1 behind k taps 0. -/
def tap1 (k : Nat) : List Int := List.replicate k 0 ++ [1]
theorem tap1_len (k : Nat) : (tap1 k).length = k + 1 := by simp [tap1]
theorem tap1_at (k b : Nat) : (tap1 k).getD b 0 = if b = k then 1 else 0 := by
  unfold tap1
  rw [List.getD_eq_getElem?_getD]
  by_cases h : b < k
  · rw [List.getElem?_append_left (by simpa using h), List.getElem?_replicate, if_pos h, if_neg (by omega)]; rfl
  · rw [List.getElem?_append_right (by simpa using h)]
    by_cases h2 : b = k
    · subst h2; simp
    · rw [if_neg h2, List.getElem?_eq_none (by simp; omega)]; rfl
theorem conv_late (l : List Int) (k : Nat) : convL l (tap1 k) = List.replicate k 0 ++ l := by
  refine getD_ext (by rw [len_conv, tap1_len]; simp; omega) fun i _ => ?_
  rw [conv_at l (by rw [tap1_len]; omega), tap1_len, sumN_one (a := k)]
  · rw [if_pos (by omega), tap1_at, if_pos rfl, Int.one_mul, List.getD_eq_getElem?_getD (l := List.replicate k 0 ++ l)]
    by_cases h : k ≤ i
    · rw [if_pos h, List.getElem?_append_right (by simpa using h), List.getD_eq_getElem?_getD]; simp
    · rw [if_neg h, List.getElem?_append_left (by simpa using h), List.getElem?_replicate, if_pos (by omega)]; rfl
  · intro b _ hb
    rw [tap1_at, if_neg hb, Int.zero_mul, ite_self]

theorem len_cor (x y : List Int) : (corL x y).length = x.length + y.length - 1 := by unfold corL; simp
/-- One value of a correlation, at each place: y moved by its own length. -/
theorem cor_at {x y : List Int} (hy : 0 < y.length) {k : Nat} (hk : k < x.length + y.length - 1) :
    (corL x y).getD k 0 = sumN y.length (fun j => if y.length - 1 ≤ j + k then x.getD (j + k - (y.length - 1)) 0 * y.getD j 0 else 0) := by
  unfold corL
  rw [getD_rangeMap hk]
  refine sumN_congr fun j hj => ?_
  unfold colw
  by_cases h1 : y.length - 1 ≤ j + k
  · by_cases h2 : j + k - (y.length - 1) < x.length
    · rw [if_pos ⟨h1, h2⟩, if_pos h1]
    · rw [if_neg (fun q => h2 q.2), if_pos h1, getD_out (l := x) (by omega), Int.zero_mul]
  · rw [if_neg (fun q => h1 q.1), if_neg h1]
/-- The same, as a sum over both places. -/
theorem cor_both {x y : List Int} (hy : 0 < y.length) {k : Nat} (hk : k < x.length + y.length - 1) :
    (corL x y).getD k 0 = sumN x.length (fun i => sumN y.length (fun j => if j + k = i + (y.length - 1) then x.getD i 0 * y.getD j 0 else 0)) := by
  rw [cor_at hy hk, sumN_swap]
  refine sumN_congr fun j hj => ?_
  by_cases h1 : y.length - 1 ≤ j + k
  · rw [if_pos h1, sumN_one (a := j + k - (y.length - 1))]
    · by_cases h2 : j + k - (y.length - 1) < x.length
      · rw [if_pos h2, if_pos (by omega)]
      · rw [if_neg h2, getD_out (l := x) (by omega), Int.zero_mul]
    · intro i _ hi
      rw [if_neg (by omega)]
  · rw [if_neg h1, sumN_congr (g := fun _ => 0), sumN_zero]
    intro i hi
    rw [if_neg (by omega)]
theorem cor_back {x y : List Int} (hx : 0 < x.length) (hy : 0 < y.length) {k : Nat} (hk : k < x.length + y.length - 1) :
    (corL y x).getD ((corL y x).length - 1 - k) 0 = (corL x y).getD k 0 := by
  rw [len_cor, cor_both hy hk, cor_both hx (by omega), sumN_swap]
  refine sumN_congr fun i hi => sumN_congr fun j hj => ?_
  by_cases h : j + k = i + (y.length - 1)
  · rw [if_pos h, if_pos (by omega), Int.mul_comm]
  · rw [if_neg h, if_neg (by omega)]
theorem cor_own {x : List Int} (hx : 0 < x.length) : (corL x x).getD (x.length - 1) 0 = enL x := by
  rw [cor_at hx (by omega)]
  unfold enL
  refine sumN_congr fun j hj => ?_
  rw [if_pos (by omega), show j + (x.length - 1) - (x.length - 1) = j by omega]
  rfl
theorem sumN_le {f g : Nat → Int} : ∀ {n : Nat}, (∀ i, i < n → f i ≤ g i) → sumN n f ≤ sumN n g
  | 0, _ => by simp [sumN]
  | n + 1, h => by
    have h1 := sumN_le (n := n) fun i hi => h i (by omega)
    have h2 := h n (by omega)
    rw [sumN, sumN]; omega
theorem two_mul_le (a b : Int) : 2 * (a * b) ≤ a * a + b * b ∧ -(2 * (a * b)) ≤ a * a + b * b := by
  have h1 : 0 ≤ (a - b) * (a - b) := by
    rcases Int.le_total 0 (a - b) with h | h
    · exact Int.mul_nonneg h h
    · have := Int.mul_nonneg (Int.neg_nonneg_of_nonpos h) (Int.neg_nonneg_of_nonpos h)
      rwa [Int.neg_mul_neg] at this
  have h2 : 0 ≤ (a + b) * (a + b) := by
    rcases Int.le_total 0 (a + b) with h | h
    · exact Int.mul_nonneg h h
    · have := Int.mul_nonneg (Int.neg_nonneg_of_nonpos h) (Int.neg_nonneg_of_nonpos h)
      rwa [Int.neg_mul_neg] at this
  rw [Int.sub_mul, Int.mul_sub, Int.mul_sub, Int.mul_comm b a] at h1
  rw [Int.add_mul, Int.mul_add, Int.mul_add, Int.mul_comm b a] at h2
  omega
theorem sumN_pick {n m : Nat} {f : Nat → Int} (hf : ∀ i, 0 ≤ f i) (c : Nat → Option Nat) (hin : ∀ j j' i, j < m → j' < m → c j = some i → c j' = some i → j = j') (hlt : ∀ j i, c j = some i → i < n) :
    sumN m (fun j => match c j with | some i => f i | none => 0) ≤ sumN n f := by
  have e : ∀ j, j < m → (match c j with | some i => f i | none => 0) = sumN n (fun i => if c j = some i then f i else 0) := by
    intro j hj
    cases hc : c j with
    | none => simp only []; rw [sumN_congr (g := fun _ => 0), sumN_zero]; intro i _; rw [if_neg (by simp)]
    | some a =>
      simp only []
      rw [sumN_one (a := a)]
      · rw [if_pos (hlt j a hc), if_pos rfl]
      · intro i _ hi; rw [if_neg (by simp; omega)]
  rw [sumN_congr e, sumN_swap]
  refine sumN_le fun i hi => ?_
  by_cases hex : ∃ j, j < m ∧ c j = some i
  · obtain ⟨j, hj, hc⟩ := hex
    rw [sumN_one (a := j)]
    · rw [if_pos hj, if_pos hc]; exact Int.le_refl _
    · intro j' hj' hne
      by_cases hc' : c j' = some i
      · exact absurd (hin j' j i hj' hj hc' hc) hne
      · rw [if_neg hc']
  · rw [sumN_congr (g := fun _ => 0), sumN_zero]
    · exact hf i
    · intro j hj
      rw [if_neg fun q => hex ⟨j, hj, q⟩]
theorem cor_le {x : List Int} (hx : 0 < x.length) {k : Nat} (hk : k < x.length + x.length - 1) : (corL x x).getD k 0 ≤ enL x ∧ -(corL x x).getD k 0 ≤ enL x := by
  have hsq : ∀ i, 0 ≤ sqv x i := fun i => by
    unfold sqv
    rcases Int.le_total 0 (x.getD i 0) with h | h
    · exact Int.mul_nonneg h h
    · have := Int.mul_nonneg (Int.neg_nonneg_of_nonpos h) (Int.neg_nonneg_of_nonpos h)
      rwa [Int.neg_mul_neg] at this
  let c : Nat → Option Nat := fun j => if x.length - 1 ≤ j + k ∧ j + k - (x.length - 1) < x.length then some (j + k - (x.length - 1)) else none
  have hp := sumN_pick (n := x.length) (m := x.length) hsq c (fun j j' i _ _ h1 h2 => by
    simp only [c] at h1 h2
    split at h1 <;> split at h2 <;> simp at h1 h2
    omega) (fun j i h1 => by
    simp only [c] at h1
    split at h1 <;> simp at h1
    omega)
  have hs2 : ∀ s : Int, (s = 1 ∨ s = -1) → 2 * (s * (corL x x).getD k 0) ≤ sumN x.length (fun j => match c j with | some i => sqv x i | none => 0) + enL x := by
    intro s hs
    rw [cor_at hx hk]
    unfold enL
    rw [sumN_mul, sumN_mul, ← sumN_add]
    refine sumN_le fun j hj => ?_
    by_cases h1 : x.length - 1 ≤ j + k
    · rw [if_pos h1]
      by_cases h2 : j + k - (x.length - 1) < x.length
      · have hc : c j = some (j + k - (x.length - 1)) := by simp only [c]; rw [if_pos ⟨h1, h2⟩]
        rw [hc]
        have := two_mul_le (x.getD (j + k - (x.length - 1)) 0) (x.getD j 0)
        simp only [sqv]
        rcases hs with rfl | rfl <;> omega
      · rw [getD_out (l := x) (i := j + k - (x.length - 1)) (by omega)]
        have hc : c j = none := by simp only [c]; rw [if_neg fun q => h2 q.2]
        rw [hc]
        have := hsq j
        rw [Int.zero_mul]
        simp only []
        omega
    · rw [if_neg h1]
      have hc : c j = none := by simp only [c]; rw [if_neg fun q => h1 q.1]
      rw [hc]
      have := hsq j
      simp only []
      omega
  have e1 := hs2 1 (.inl rfl)
  have e2 := hs2 (-1) (.inr rfl)
  have : enL x = sumN x.length (sqv x) := rfl
  omega
end Go.Proofs.YthnnndkfpamacaaGreatDoor

/- A sample's opposite and the greater one of two. -/
namespace Go.Fl
open Ieee
theorem signed_not (s : Bool) (m k : Nat) : signed (!s) m k = -signed s m k := by
  unfold signed
  cases s <;> simp [Int.neg_mul]
theorem xor_low (x n : Nat) : (x ^^^ 2 ^ n) % 2 ^ n = x % 2 ^ n := by
  rw [Nat.xor_mod_two_pow, Nat.mod_self, Nat.xor_zero]
theorem xor_high (x n : Nat) : (x ^^^ 2 ^ n) / 2 ^ n % 2 = 1 - x / 2 ^ n % 2 := by
  have h1 : ∀ y : Nat, y / 2 ^ n % 2 = (y.testBit n).toNat := fun y => by rw [Nat.toNat_testBit]
  rw [h1, h1, Nat.testBit_xor, Nat.testBit_two_pow_self]
  cases x.testBit n <;> rfl
theorem read_neg {w : Nat} {s : Bool} {m : Nat} {e : Int} (h : single.read w = .number s m e) : single.read (w ^^^ 2 ^ 31) = .number (!s) m e := by
  have hw : single.signWeight = 2 ^ 31 := by decide
  unfold Format.read at h ⊢
  simp only [hw] at h ⊢
  rw [xor_low, xor_high]
  have h2 : w / 2 ^ 31 % 2 = 0 ∨ w / 2 ^ 31 % 2 = 1 := by omega
  have hs : (1 - w / 2 ^ 31 % 2 == 1) = !(w / 2 ^ 31 % 2 == 1) := by rcases h2 with q | q <;> rw [q] <;> rfl
  rw [hs]
  split at h
  · rename_i hr
    rw [if_pos hr]; cases h; rfl
  · rename_i hr
    rw [if_neg hr]
    split at h
    · rename_i hr2
      rw [if_pos hr2]; cases h; rfl
    · split at h <;> cases h
theorem Num.neg {w : Nat} {v : Int} (h : Num single w v) : Num single (Op.negFloat .f32 w) (-v) := by
  obtain ⟨s, m, e, h1, h2, h3⟩ := h.is
  refine ⟨!s, m, e, ?_, h2, by rw [signed_not, h3]⟩
  exact read_neg h1
end Go.Fl
namespace Go.Ab
open Go Ieee Go.Fl
section
variable {M : Mc} {l : KL} {h : H} {x y : Operand} {t ty : TypeId} {a b : Nat}
theorem op_fneg {k : FloatKind} (hx : val l x = some (.float k a)) : Op1 M (.unOp .neg t x) l h (.float k (Op.negFloat k a)) h := op_un hx rfl (by simp [Op.unary, prun_pure']) rfl
/-- The greater one of two numbers that are known. -/
def maxW (a b : Nat) : Nat := if (single.order a b == some .lt) = true then b else if (single.order a b == some .gt) = true then a else if (FloatKind.f32.decode a).neg then b else a
theorem op_fmax {u v : Int} {tys : Array TypeId} (hx : val l x = some (.float .f32 a)) (hy : val l y = some (.float .f32 b)) (na : Num single a u) (nb : Num single b v) : Op1 M (.call ⟨.builtin .max, #[x, y], tys⟩) l h (.float .f32 (maxW a b)) h :=
  op_blt fun e he => by
    have h1 := he.val (x := x) (by simp [Op.operands, Call.operands]) hx
    have h2 := he.val (x := y) (by simp [Op.operands, Call.operands]) hy
    have hp : prun M.P (Builtin.max_ tys 0 ⟨[.float .f32 a, .float .f32 b]⟩) = some (.float .f32 (maxW a b)) := by
      show prun M.P (Builtin.max2 (.float .f32 a) (.float .f32 b) >>= fun s => List.foldlM Builtin.max2 s []) = _
      have ho : FloatKind.f32.format.order a b = some (compare u v) := na.order nb
      have ho' : single.order a b = some (compare u v) := na.order nb
      unfold maxW
      simp only [Builtin.max2, List.foldlM_nil, ho, ho']
      cases compare u v with
      | lt => rfl
      | gt => rfl
      | eq =>
        cases hq : (FloatKind.f32.decode a).neg with
        | true => rfl
        | false => rfl
    simp [aop, h1, h2, gd, gnd, hp]
theorem maxW_num {u v : Int} (na : Num single a u) (nb : Num single b v) : Num single (maxW a b) (max u v) := by
  unfold maxW
  rw [na.flt nb, na.fgt nb]
  by_cases h1 : u < v
  · rw [if_pos (decide_eq_true h1), show max u v = v by omega]; exact nb
  · rw [if_neg (by simpa using h1)]
    by_cases h2 : v < u
    · rw [if_pos (decide_eq_true h2), show max u v = u by omega]; exact na
    · rw [if_neg (by simpa using h2)]
      have : u = v := by omega
      subst this
      rw [show max u u = u by omega]
      split
      · exact nb
      · exact na
end
end Go.Ab

/- TraceTaps, at the samples: what two convolutions, a late one, two correlations are. -/
namespace Go.Proofs.YthnnndkfpamacaaGreatDoor
open Go Go.Ab Go.Fl
set_option maxRecDepth 10000

theorem anyLarge_no {l : List Int} (h : anyLarge l = false) : ∀ z ∈ l, z.natAbs ≤ 16384 := by
  intro z hz
  unfold anyLarge at h
  have h1 : isLargeB z = false := by
    cases q : isLargeB z with
    | false => rfl
    | true =>
      have : l.any isLargeB = true := List.any_eq_true.2 ⟨z, hz, q⟩
      rw [h] at this; cases this
  unfold isLargeB at h1
  have := of_decide_eq_false h1
  omega
theorem convE_at {l : List Nat} {t : List Int} (hl : lchk l = 0) (ht : tchk t = 0) (h0 : l.length ≠ 0) : convE l t = if 1024 < l.length + t.length - 1 then 5 else if anyLarge (convL (l.map smp) t) then 4 else 0 := by
  unfold convE
  rw [show firstNZ [lchk l, tchk t] = 0 from firstNZ_all (by intro e he; simp only [List.mem_cons, List.not_mem_nil, or_false] at he; rcases he with rfl | rfl <;> assumption)]
  simp only [ne_eq, not_true_eq_false, if_false, h0]
/-- A convolution that is allowed. -/
theorem conv_ok {l : List Nat} {t : List Int} (hl : lchk l = 0) (ht : tchk t = 0) (h0 : l.length ≠ 0) (hE : convE l t = 0) :
    convW l t = (convL (l.map smp) t).map smpW ∧ lchk (convW l t) = 0 ∧ (convW l t).map smp = convL (l.map smp) t ∧ (convW l t).length = l.length + t.length - 1 := by
  have e0 := convE_at hl ht h0
  rw [hE] at e0
  have hlen : ¬ 1024 < l.length + t.length - 1 := fun q => by rw [if_pos q] at e0; cases e0
  rw [if_neg hlen] at e0
  have hlg : anyLarge (convL (l.map smp) t) = false := by
    cases q : anyLarge (convL (l.map smp) t) with
    | false => rfl
    | true => rw [q] at e0; cases e0
  have hz := anyLarge_no hlg
  have e1 : convW l t = (convL (l.map smp) t).map smpW := by unfold convW; rw [hE]; simp [h0]
  have e2 : ((convL (l.map smp) t).map smpW).length = l.length + t.length - 1 := by simp [len_conv]
  refine ⟨e1, ?_, by rw [e1]; exact map_smp_W hz, by rw [e1, e2]⟩
  rw [e1]
  unfold lchk
  rw [e2, if_neg hlen]
  refine firstNZ_all fun e he => ?_
  obtain ⟨w, hw, rfl⟩ := List.mem_map.1 he
  obtain ⟨z, hz2, rfl⟩ := List.mem_map.1 hw
  exact (smpW_ok (hz z hz2)).1
theorem convW_eq (l : List Nat) (t : List Int) : convW l t = if convE l t ≠ 0 then [] else if l.length = 0 then [] else (convL (l.map smp) t).map smpW := rfl
/-- Two convolutions, in either order: the same error, the same samples. -/
theorem conv_twice {l : List Nat} {s t : List Int} (hl : lchk l = 0) (hs : tchk s = 0) (ht : tchk t = 0) (h0 : l.length ≠ 0) (e1 : convE l s = 0) (e2 : convE l t = 0) :
    convE (convW l s) t = convE (convW l t) s ∧ convW (convW l s) t = convW (convW l t) s := by
  obtain ⟨_, a2, a3, a4⟩ := conv_ok hl hs h0 e1
  obtain ⟨_, b2, b3, b4⟩ := conv_ok hl ht h0 e2
  have ls := (tchk_ok hs).1
  have lt := (tchk_ok ht).1
  have na : (convW l s).length ≠ 0 := by omega
  have nb : (convW l t).length ≠ 0 := by omega
  have hc : convL ((convW l s).map smp) t = convL ((convW l t).map smp) s := by rw [a3, b3]; exact conv_comm _ (by omega) (by omega)
  have hE : convE (convW l s) t = convE (convW l t) s := by
    rw [convE_at a2 ht na, convE_at b2 hs nb, hc, a4, b4, show l.length + s.length - 1 + t.length - 1 = l.length + t.length - 1 + s.length - 1 by omega]
  refine ⟨hE, ?_⟩
  rw [convW_eq (convW l s) t, convW_eq (convW l t) s, hE, hc, if_neg na, if_neg nb]
/-- The tap 1 behind k taps 0. -/
theorem tap1_ok {k : Nat} (hk : k < 16) : tchk (tap1 k) = 0 := by
  unfold tchk
  rw [tap1_len, if_neg (by omega), if_neg (by omega)]
  refine firstNZ_all fun e he => ?_
  obtain ⟨z, hz, rfl⟩ := List.mem_map.1 he
  unfold tap1 at hz
  have : z = 0 ∨ z = 1 := by
    rcases List.mem_append.1 hz with h | h
    · exact .inl (List.mem_replicate.1 h).2
    · exact .inr (by simpa using h)
  rcases this with rfl | rfl <;> rfl
theorem conv_tap1 {l : List Nat} {k : Nat} (hl : lchk l = 0) (hk : k < 16) (h0 : l.length ≠ 0) (h1 : l.length ≤ 1000) (hs : ∀ z ∈ l, (smp z).natAbs ≤ 16384) :
    convE l (tap1 k) = 0 ∧ convW l (tap1 k) = (List.replicate k 0 ++ l.map smp).map smpW := by
  have e0 := convE_at hl (tap1_ok hk) h0
  rw [tap1_len, if_neg (by omega), conv_late, notLarge (l := List.replicate k 0 ++ l.map smp)] at e0
  · refine ⟨e0, ?_⟩
    rw [(conv_ok hl (tap1_ok hk) h0 e0).1, conv_late]
  · intro z hz
    rcases List.mem_append.1 hz with h | h
    · rw [(List.mem_replicate.1 h).2]; decide
    · obtain ⟨w, hw, rfl⟩ := List.mem_map.1 h
      exact hs w hw
end Go.Proofs.YthnnndkfpamacaaGreatDoor

/- TraceTaps, at the samples: correlations and energies. -/
namespace Go.Proofs.YthnnndkfpamacaaGreatDoor
open Go Go.Ab Go.Fl
set_option maxRecDepth 10000

theorem corE_ok {a b : List Nat} (ha : lchk a = 0) (hb : lchk b = 0) : corE a b = 0 := by
  unfold corE
  exact firstNZ_all (by intro e he; simp only [List.mem_cons, List.not_mem_nil, or_false] at he; rcases he with rfl | rfl <;> assumption)
theorem corW_at {a b : List Nat} (ha : lchk a = 0) (hb : lchk b = 0) (h1 : a.length ≠ 0) (h2 : b.length ≠ 0) : corW a b = corL (a.map smp) (b.map smp) := by
  unfold corW
  rw [corE_ok ha hb]
  simp [h1, h2]
theorem corW_nil {a b : List Nat} (h : a.length = 0 ∨ b.length = 0) : corW a b = [] := by
  unfold corW
  rw [if_pos h, ite_self]
theorem corW_len {a b : List Nat} (ha : lchk a = 0) (hb : lchk b = 0) : (corW a b).length = if a.length = 0 ∨ b.length = 0 then 0 else a.length + b.length - 1 := by
  by_cases h : a.length = 0 ∨ b.length = 0
  · rw [corW_nil h, if_pos h]; rfl
  · rw [if_neg h, corW_at ha hb (fun q => h (.inl q)) (fun q => h (.inr q)), len_cor, List.length_map, List.length_map]
/-- The lengths are the same in either order. -/
theorem corW_len2 {a b : List Nat} (ha : lchk a = 0) (hb : lchk b = 0) : (corW b a).length = (corW a b).length := by
  rw [corW_len ha hb, corW_len hb ha]
  by_cases h : a.length = 0 ∨ b.length = 0
  · rw [if_pos h, if_pos (by omega)]
  · rw [if_neg h, if_neg (by omega)]; omega
/-- One of the other order is this one backwards. -/
theorem corW_back {a b : List Nat} (ha : lchk a = 0) (hb : lchk b = 0) {k : Nat} (hk : k < (corW a b).length) : (corW b a).getD ((corW b a).length - 1 - k) 0 = (corW a b).getD k 0 := by
  rw [corW_len ha hb] at hk
  by_cases h : a.length = 0 ∨ b.length = 0
  · rw [if_pos h] at hk; omega
  · rw [if_neg h] at hk
    have h1 : a.length ≠ 0 := fun q => h (.inl q)
    have h2 : b.length ≠ 0 := fun q => h (.inr q)
    rw [corW_at ha hb h1 h2, corW_at hb ha h2 h1]
    exact cor_back (by rw [List.length_map]; omega) (by rw [List.length_map]; omega) (by simp only [List.length_map]; omega)
theorem enV_at {a : List Nat} (ha : lchk a = 0) : enV a = enL (a.map smp) := by
  unfold enV
  rw [ha]; simp
/-- At the lag 0 a list has its energy, and nowhere more. -/
theorem corW_own {a : List Nat} (ha : lchk a = 0) (h1 : a.length ≠ 0) : (corW a a).getD (a.length - 1) 0 = enV a := by
  rw [corW_at ha ha h1 h1, enV_at ha]
  have := cor_own (x := a.map smp) (by rw [List.length_map]; omega)
  rwa [List.length_map] at this
theorem corW_le {a : List Nat} (ha : lchk a = 0) {k : Nat} (hk : k < (corW a a).length) : (corW a a).getD k 0 ≤ enV a ∧ -(corW a a).getD k 0 ≤ enV a := by
  rw [corW_len ha ha] at hk
  by_cases h : a.length = 0 ∨ a.length = 0
  · rw [if_pos h] at hk; omega
  · rw [if_neg h] at hk
    have h1 : a.length ≠ 0 := fun q => h (.inl q)
    rw [corW_at ha ha h1 h1, enV_at ha]
    exact cor_le (by rw [List.length_map]; omega) (by simp only [List.length_map]; omega)
end Go.Proofs.YthnnndkfpamacaaGreatDoor

/- TraceTaps: nothing exceeds the peak. -/
namespace Go.Proofs.YthnnndkfpamacaaGreatDoor
open Go Go.Ab Go.Fl
set_option maxRecDepth 10000

theorem best_ge (x : List Int) : ∀ n i, i < n → (x.getD i 0).natAbs ≤ (x.getD (best x n) 0).natAbs
  | 0, _, h => by omega
  | n + 1, i, h => by
    have ih := best_ge x n
    rw [best]
    by_cases hb : (x.getD (best x n) 0).natAbs < (x.getD n 0).natAbs
    · rw [if_pos hb]
      by_cases hi : i = n
      · subst hi; exact Nat.le_refl _
      · exact Nat.le_trans (ih i (by omega)) (Nat.le_of_lt hb)
    · rw [if_neg hb]
      by_cases hi : i = n
      · subst hi; omega
      · exact ih i (by omega)
theorem pkV_at {a : List Nat} (ha : lchk a = 0) (h1 : a.length ≠ 0) : pkV a = (best (a.map smp) a.length : Nat) ∧ pkE a = 0 ∧ best (a.map smp) a.length < a.length := by
  refine ⟨by unfold pkV; rw [ha]; simp [h1], by unfold pkE; rw [ha]; simp [h1], best_lt _ _ (by omega)⟩
/-- No sample exceeds the peak's. -/
theorem pk_ge {a : List Nat} {i : Nat} (hi : i < a.length) : ((a.map smp).getD i 0).natAbs ≤ ((a.map smp).getD (best (a.map smp) a.length) 0).natAbs := best_ge _ _ _ hi
/-- The greater one of a number and its opposite, at floats. -/
theorem peak_gt {z p : Nat} {u v : Int} (nz : Num Ieee.single z u) (np : Num Ieee.single p v) (h : u.natAbs ≤ v.natAbs) :
    (Ieee.single.order z (maxW p (Op.negFloat .f32 p)) == some .gt) = false ∧ (Ieee.single.order (Op.negFloat .f32 z) (maxW p (Op.negFloat .f32 p)) == some .gt) = false := by
  have nm := maxW_num np np.neg
  refine ⟨?_, ?_⟩
  · rw [nz.fgt nm]; simp; omega
  · rw [nz.neg.fgt nm]; simp; omega
theorem smp_num {x : Nat} (h : smpE x = 0) : ∃ v, Num Ieee.single x v ∧ 16 * v = smp x * U := by
  obtain ⟨s, m, e, hr, hv, _, _⟩ := smp_read h
  exact ⟨_, ⟨s, m, e, hr, by have := (read_single hr).2.1; omega, rfl⟩, hv⟩
/-- A sample that is not greater than the peak's does not pass the test of the law. -/
theorem peak_ok {z p : Nat} (hz : smpE z = 0) (hp : smpE p = 0) (h : (smp z).natAbs ≤ (smp p).natAbs) :
    (Ieee.single.order z (maxW p (Op.negFloat .f32 p)) == some .gt) = false ∧ (Ieee.single.order (Op.negFloat .f32 z) (maxW p (Op.negFloat .f32 p)) == some .gt) = false := by
  obtain ⟨u, nu, eu⟩ := smp_num hz
  obtain ⟨v, nv, ev⟩ := smp_num hp
  refine peak_gt nu nv ?_
  have e1 := congrArg Int.natAbs eu
  have e2 := congrArg Int.natAbs ev
  rw [Int.natAbs_mul, Int.natAbs_mul] at e1 e2
  have := Nat.mul_le_mul_right (Int.natAbs U) h
  rw [← e1, ← e2] at this
  have e : (16 : Int).natAbs = 16 := rfl
  rw [e] at this
  omega
end Go.Proofs.YthnnndkfpamacaaGreatDoor
