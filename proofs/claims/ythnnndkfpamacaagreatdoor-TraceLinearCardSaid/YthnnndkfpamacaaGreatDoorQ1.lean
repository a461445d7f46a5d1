/- Convolutions of lists; small samples. -/
import Derived.Test.YthnnndkfpamacaaGreatDoorL3
import Derived.Test.YthnnndkfpamacaaGreatDoorK3
import Derived.Test.YthnnndkfpamacaaGreatDoorK1
import Derived.Test.YthnnndkfpamacaaGreatDoorM2
import Derived.Test.YthnnndkfpamacaaGreatDoorM6
set_option linter.all false
/- Mathematics of TraceTaps: convolutions in either order, correlations backwards, no value above the energy. -/
namespace Go.Proofs.YthnnndkfpamacaaGreatDoor
open Go Go.Ab Go.Fl
theorem getD_rangeMap {n : Nat} {f : Nat → Int} {k : Nat} (hk : k < n) : ((List.range n).map f).getD k 0 = f k := by
 rw [List.getD_eq_getElem?_getD, List.getElem?_eq_getElem (by simpa using hk)]
 simp
theorem getD_ext {a b : List Int} (hl : a.length = b.length) (h : ∀ k, k < a.length → a.getD k 0 = b.getD k 0) : a = b := by
 apply List.ext_getElem hl
 intro i h1 h2
 have := h i h1
 rw [List.getD_eq_getElem?_getD, List.getD_eq_getElem?_getD, List.getElem?_eq_getElem h1, List.getElem?_eq_getElem h2] at this
 simpa using this
end Go.Proofs.YthnnndkfpamacaaGreatDoor
/- A sample's opposite and the greater one of two. -/
namespace Go.Fl
open Ieee
theorem signed_not (s : Bool) (m k : Nat) : signed (!s) m k = -signed s m k := by
 unfold signed
 cases s <;> simp [Int.neg_mul]
theorem xor_low (x n : Nat) : (x ^^^ 2 ^ n) % 2 ^ n = x % 2 ^ n := by
 rw [Nat.xor_mod_two_pow, Nat.mod_self, Nat.xor_zero]
theorem xor_high (x n : Nat) : (x ^^^ 2 ^ n) / 2 ^ n % 2 = 1 - x / 2 ^ n % 2 := by
 have h1 : ∀ y : Nat, y / 2 ^ n % 2 = (y.testBit n).toNat := fun y => by rw [Nat.toNat_testBit]
 rw [h1, h1, Nat.testBit_xor, Nat.testBit_two_pow_self]
 cases x.testBit n <;> rfl
theorem read_neg {w : Nat} {s : Bool} {m : Nat} {e : Int} (h : single.read w = .number s m e) : single.read (w ^^^ 2 ^ 31) = .number (!s) m e := by
 have hw : single.signWeight = 2 ^ 31 := by decide
 unfold Format.read at h ⊢
 simp only [hw] at h ⊢
 rw [xor_low, xor_high]
 have h2 : w / 2 ^ 31 % 2 = 0 ∨ w / 2 ^ 31 % 2 = 1 := by omega
 have hs : (1 - w / 2 ^ 31 % 2 == 1) = !(w / 2 ^ 31 % 2 == 1) := by rcases h2 with q | q <;> rw [q] <;> rfl
 rw [hs]
 split at h
 · rename_i hr
   rw [if_pos hr]; cases h; rfl
 · rename_i hr
   rw [if_neg hr]
   split at h
   · rename_i hr2
     rw [if_pos hr2]; cases h; rfl
   · split at h <;> cases h
theorem Num.neg {w : Nat} {v : Int} (h : Num single w v) : Num single (Op.negFloat .f32 w) (-v) := by
 obtain ⟨s, m, e, h1, h2, h3⟩ := h.is
 refine ⟨!s, m, e, ?_, h2, by rw [signed_not, h3]⟩
 exact read_neg h1
end Go.Fl
namespace Go.Ab
open Go Ieee Go.Fl
section
variable {M : Mc} {l : KL} {h : H} {x y : Operand} {t ty : TypeId} {a b : Nat}
end
end Go.Ab
/- TraceTaps, at the samples: what two convolutions, a late one, two correlations are. -/
namespace Go.Proofs.YthnnndkfpamacaaGreatDoor
open Go Go.Ab Go.Fl
set_option maxRecDepth 10000
/- TraceTaps, at the samples: correlations and energies. -/
/- TraceTaps: nothing exceeds the peak. -/
theorem smp_num {x : Nat} (h : smpE x = 0) : ∃ v, Num Ieee.single x v ∧ 16 * v = smp x * U := by
 obtain ⟨s, m, e, hr, hv, _, _⟩ := smp_read h
 exact ⟨_, ⟨s, m, e, hr, by have := (cs_ hr).2.1; omega, rfl⟩, hv⟩
end Go.Proofs.YthnnndkfpamacaaGreatDoor
/- Contracts told of keys. -/
namespace Go.Proofs.YthnnndkfpamacaaGreatDoor
open Go Go.Ab Go.Fl
variable {G : Base} {h : H}
def SlK (G : Base) (h : H) (v : Value) (n : Nat) (ts : List Trc) : Prop := ∃ us, SlT G h v n us ∧ us.map Trc.key = ts.map Trc.key
theorem SlK.grow {h h' : H} {v : Value} {n : Nat} {ts : List Trc} (s : SlK G h v n ts) (g : Grow h h') : SlK G h' v n ts := s.imp fun _ ⟨a, b⟩ => ⟨a.grow g, b⟩
theorem SlK.setF {n B : Nat} {v : Value} {ts : List Trc} (s : SlK G h v n ts) (hf : Free h B) (o : AObj) : SlK G (h.set B o) v n ts := s.imp fun _ ⟨a, b⟩ => ⟨a.setF hf o, b⟩
theorem SlT.k {n : Nat} {v : Value} {ts : List Trc} (s : SlT G h v n ts) : SlK G h v n ts := ⟨ts, s, rfl⟩
theorem SlK.len {n : Nat} {v : Value} {ts : List Trc} (s : SlK G h v n ts) : ts.length = n := by
 obtain ⟨us, a, b⟩ := s
 rw [← a.len]
 simpa using (congrArg List.length b).symm
theorem k31 {nm : ByteArray} {a : Option Addr} {n c : Nat} {ts : List Trc} (s : SlK G h (.slice a n c) n ts) (hn : n ≤ 65) (hl : ∀ t ∈ ts, t.n < 1000000) (hw : Wf h) : Cf (mz G) (.func (.func 31) #[] #[]) [.agg ⟨shC nm a n c⟩] h fun r h' => (∃ a' c', r = .agg ⟨shC nm a' n c'⟩ ∧ SlK G h' (.slice a' n c') n ts) ∧ Grow h h' := by
 obtain ⟨us, st, q⟩ := s
 exact (c31 (nm := nm) st hn (keys_n q hl) hw).mono fun r h' ⟨⟨a', c', vs, e, sv, q'⟩, g⟩ => ⟨⟨a', c', e, vs, sv, q'.trans q⟩, g⟩
theorem k81 {nm : ByteArray} {a : Option Addr} {n c : Nat} {ts : List Trc} (s : SlK G h (.slice a n c) n ts) (hn : n ≤ 65) (hw : Wf h) : Cf (mz G) (.func (.func 81) #[] #[]) [.agg ⟨shC nm a n c⟩] h fun r h' => (∃ a' c', r = .agg ⟨shC nm a' n c'⟩ ∧ SlK G h' (.slice a' n c') n ts) ∧ Grow h h' := by
 obtain ⟨us, st, q⟩ := s
 exact (c81 (nm := nm) st hn hw).mono fun r h' ⟨⟨a', c', e, sv⟩, g⟩ => ⟨⟨a', c', e, us, sv, q⟩, g⟩
theorem Val.n {nm : ByteArray} {ts : List Trc} (v : Val nm ts) : ∀ t ∈ ts, t.n < 1000000 := fun t ht => by have := (v.tr t ht).2.2.2.1; omega
theorem Val.nm {nm : ByteArray} {ts : List Trc} (v : Val nm ts) : nm.size ≤ 1000000 := by
 have := v.name
 unfold isNameB at this
 simp only [Bool.and_eq_true, decide_eq_true_eq] at this
 omega
theorem k35 {nm : ByteArray} {a : Option Addr} {n c : Nat} {ts : List Trc} (s : SlK G h (.slice a n c) n ts) (v : Val nm ts) (hw : Wf h) : Cf (mz G) (.func (.func 35) #[] #[]) [.agg ⟨shC nm a n c⟩] h fun r h' => r = .int .i64 0 ∧ Grow h h' := by
 have hn := s.len
 have hp := v.most
 obtain ⟨us, st, q⟩ := s
 have := c35 (nm := nm) st (by omega) (keys_n q v.n) v.nm hw
 rw [keys_shE q, v.err] at this
 exact this
theorem k82 {nm : ByteArray} {a a' : Option Addr} {n c c' : Nat} {ts us : List Trc} (s : SlK G h (.slice a n c) n ts) (s' : SlK G h (.slice a' n c') n us) (hn : n ≤ 65) (hl : ∀ t ∈ ts, t.n < 1000000) (q : TrsS ts us) (hw : Wf h) : Cf (mz G) (.func (.func 82) #[] #[]) [.agg ⟨shC nm a n c⟩, .agg ⟨shC nm a' n c'⟩] h fun r h' => r = .bool true ∧ Grow h h' := by
 obtain ⟨vs, st, e⟩ := s
 obtain ⟨ws, st', e'⟩ := s'
 exact c82 (nm := nm) st st' (by omega) (keys_n e hl) (trs_keys e e' q) hw
end Go.Proofs.YthnnndkfpamacaaGreatDoor
