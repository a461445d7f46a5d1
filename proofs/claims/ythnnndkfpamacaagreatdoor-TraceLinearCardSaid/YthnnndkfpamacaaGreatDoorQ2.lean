/- Sums in either order, opposites, doubles, delays. -/
import Derived.Test.YthnnndkfpamacaaGreatDoorP4
import Derived.Test.YthnnndkfpamacaaGreatDoorQ1
import Derived.Test.YthnnndkfpamacaaGreatDoorL3
import Derived.Test.YthnnndkfpamacaaGreatDoorM6
import Derived.Test.YthnnndkfpamacaaGreatDoorM4
set_option linter.all false
/- Mathematics of TraceLinear: sums in either order, opposites, doubles, shots that are alike, delays there and back. -/
namespace Go.Proofs.YthnnndkfpamacaaGreatDoor
open Go Go.Ab Go.Fl
set_option maxRecDepth 10000
theorem rnd_mul {b : Int} (hb : 0 < b) (z : Int) : rnd (b * z) b = z := by
 unfold rnd
 exact ((Int.ediv_emod_unique (a := 2 * (b * z) + b) (b := 2 * b) (r := b) (q := z) (by omega)).2 ⟨by rw [Int.mul_assoc]; omega, by omega, by omega⟩).1
theorem rnd_one (z : Int) : rnd z 1 = z := by have := rnd_mul (b := 1) (by omega) z; rwa [Int.one_mul] at this
theorem addF_comm (l y : List Int) : addF l y = addF y l := by
 unfold addF
 rw [List.zipWith_comm]
 congr 1
 funext a b
 exact Int.add_comm _ _
theorem scl_same {x : Int} (hx : 0 < x) (k : Nat) (l : List Int) : sclF x x k l = l := by
 unfold sclF
 rw [show (fun z => rnd (x * z) x) = id from funext fun z => rnd_mul hx z, List.map_id]
theorem scl_neg (k : Nat) (l : List Int) : sclF (-1) 1 k l = l.map fun z => -z := by
 unfold sclF
 congr 1
 funext z
 rw [rnd_one]; omega
theorem scl_two (k : Nat) (l : List Int) : sclF 2 1 k l = addF l l := by
 unfold sclF addF
 rw [List.zipWith_self]
 congr 1
 funext z
 rw [rnd_one]; omega
theorem add_neg (k : Nat) (l : List Int) : addF l (sclF (-1) 1 k l) = List.replicate l.length 0 := by
 rw [scl_neg]
 unfold addF
 rw [List.zipWith_map_right, List.zipWith_self]
 induction l with
 | nil => rfl
 | cons a l ih => simp only [List.map_cons, List.length_cons, List.replicate_succ, ih]; congr 1; omega
theorem dly_len (x : Int) (k : Nat) (l : List Int) : (dlyF x k l).length = l.length := by simp [dlyF]
theorem dly_at (x : Int) (k : Nat) (l : List Int) {i : Nat} (hi : i < l.length) : (dlyF x k l).getD i 0 = dlyV x l i := by
 unfold dlyF
 exact getD_rangeMap hi
theorem dly_back (x : Int) (k k' : Nat) (l : List Int) {j : Nat} (hj : j < l.length) :
   (dlyF (-x) k' (dlyF x k l)).getD j 0 = if 0 ≤ (j : Int) + x ∧ (j : Int) + x < l.length then l.getD j 0 else 0 := by
 rw [dly_at (-x) k' _ (by rw [dly_len]; exact hj)]
 unfold dlyV
 rw [dly_len]
 by_cases h : 0 ≤ (j : Int) + x ∧ (j : Int) + x < l.length
 · rw [if_pos (by omega), if_pos h, dly_at x k l (by omega)]
   unfold dlyV
   rw [if_pos (by omega)]
   congr 1
   omega
 · rw [if_neg (by omega), if_neg h]
theorem sumI_alike {i : Nat} {z : Int} : ∀ {ts : List Trc}, (∀ t ∈ ts, t.hole = false → (t.l.map smp).getD i 0 = z) → sumI i ts = (cntN ts : Nat) * z
 | [], _ => by simp [sumI, cntN]
 | t :: ts, h => by
   have ih := sumI_alike (i := i) (z := z) (ts := ts) fun u hu => h u (by simp [hu])
   rw [sumI, cntN, ih]
   cases hh : t.hole with
   | true => simp
   | false =>
     have := h t (by simp) hh
     simp only [Bool.false_eq_true, if_false, this]
     rw [Int.natCast_add, Int.add_mul]; simp
theorem cntN_pos {ts : List Trc} {t : Trc} (ht : t ∈ ts) (hh : t.hole = false) : 0 < cntN ts := by
 induction ts with
 | nil => simp at ht
 | cons u ts ih =>
   rw [cntN]
   rcases List.mem_cons.1 ht with rfl | ht
   · simp [hh]; omega
   · have := ih ht; omega
theorem stk_alike {i : Nat} {z : Int} {ts : List Trc} {t : Trc} (ht : t ∈ ts) (hh : t.hole = false) (h : ∀ t ∈ ts, t.hole = false → (t.l.map smp).getD i 0 = z) : stkV ts i = z := by
 unfold stkV
 rw [sumI_alike h]
 exact rnd_mul (by have := cntN_pos ht hh; omega) z
/- TraceTaps: bounds of what the law reads; a list that is late; the tap 1 behind zeros, made; parts of slices with one bound. -/
variable {G : Base} {h : H}
theorem U_pos : (0 : Int) < U := Int.pow_pos (by decide)
theorem smpE0 : smpE 0 = 0 := by decide +kernel
theorem smp0 : smp 0 = 0 := by decide +kernel
theorem mem_of_at {l : List Nat} {P : Nat → Prop} (hp : ∀ i (q : i < l.length), P l[i]) : ∀ z ∈ l, P z := fun z hz => by
 obtain ⟨i, q, rfl⟩ := List.mem_iff_getElem.1 hz
 exact hp i q
section
variable {M : Mc} {l : KL} {x : Operand} {t ty e : TypeId} {n es : Nat}
end
theorem wc_midR {M : Mc} {ro : Option Nat} {a b : Code} {sz : Nat} {l : KL} {h : H} {Q : X → KL → H → Prop} {ι : Type} (L : ι → KL) (I : ι → H → Prop) (hA : Wc M ro a sz l h (fun x l' h' => (x = .norm ∧ ∃ i, (∀ t v, lk (L i) t = some v → lk l' t = some v) ∧ I i h') ∨ (x = .ret ∧ Q .ret l' h'))) (hB : ∀ i h, I i h → Wc M ro b sz (L i) h Q) : Wc M ro (a.seq b) sz l h Q :=
 ao_ (wc_mono hA fun x l' h' q => by
   rcases q with ⟨e, i, hl, hi⟩ | ⟨e, q⟩
   · subst e
     exact ah_ (wc_less hl (hB i h' hi))
   · subst e
     exact bd_ q)
end Go.Proofs.YthnnndkfpamacaaGreatDoor
