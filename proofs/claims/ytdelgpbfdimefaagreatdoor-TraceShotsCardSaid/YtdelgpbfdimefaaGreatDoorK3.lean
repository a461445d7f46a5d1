/- Samples, copies, sums, slices as arguments. -/
import Derived.Test.YtdelgpbfdimefaaGreatDoorK2
import Derived.Test.YtdelgpbfdimefaaGreatDoorA6
import Derived.ChangeSlices
set_option linter.all false
/- Samples and their integers. -/
namespace Go.Fl
open Go Ieee Go.Ab

/-- The word of an integer's sample. -/
def smpW (n : Int) : Nat := (single.div (FloatKind.f32.nearest n) 1098907648).getD 0

end Go.Fl
namespace Go.Fl
open Go Ieee Go.Ab
end Go.Fl

/- A copy: appended to an empty list of its own. -/
namespace Go.Ab
open Go
section
variable {M : Mc} {h : H} {e : TypeId} {es n : Nat} {dd : TypeDesc}
end
theorem wc_join {M : Mc} {ro : Option Nat} {a b : Code} {sz : Nat} {l : KL} {h : H} {Q : X → KL → H → Prop} {ι : Type} (L : ι → KL) (I : ι → H → Prop) (hA : Wc M ro a sz l h (fun x l' h' => x = .norm ∧ ∃ i, (∀ t v, lk (L i) t = some v → lk l' t = some v) ∧ I i h')) (hB : ∀ i h, I i h → Wc M ro b sz (L i) h Q) : Wc M ro a sz l h (SeqQ M ro b sz Q) :=
  wc_mono hA fun x l' h' ⟨e, i, hl, hi⟩ => by
    subst e
    exact sq_norm (wc_less hl (hB i h' hi))
theorem wc_mid {M : Mc} {ro : Option Nat} {a b : Code} {sz : Nat} {l : KL} {h : H} {Q : X → KL → H → Prop} {ι : Type} (L : ι → KL) (I : ι → H → Prop) (hA : Wc M ro a sz l h (fun x l' h' => x = .norm ∧ ∃ i, (∀ t v, lk (L i) t = some v → lk l' t = some v) ∧ I i h')) (hB : ∀ i h, I i h → Wc M ro b sz (L i) h Q) : Wc M ro (a.seq b) sz l h Q :=
  wc_seq (wc_join L I hA hB)
end Go.Ab

/- Sums. -/
namespace Go.Ab
def sumN : Nat → (Nat → Int) → Int
  | 0, _ => 0
  | n + 1, f => sumN n f + f n
/-- What is spread: cell k after the rows below i, and j of row i. -/
def spread (pos : Nat → Nat → Nat) (vl : Nat → Nat → Int) (m i j k : Nat) : Int :=
  sumN i (fun a => sumN m (fun b => if pos a b = k then vl a b else 0)) + sumN j (fun b => if pos i b = k then vl i b else 0)
end Go.Ab

/- Slices as arguments; a world's cells as a base. -/
namespace Go.Ab
open Go Go.RowKit Go.ChangeShapes Go.WideShapes Go.ChangeAt

theorem cell_lt {w : World} {a : Addr} {v : Value} (h : w.cell? a = some v) : a.block < w.heap.size := by
  unfold World.cell? at h
  split at h
  · rename_i c _ _ hh
    exact (Array.getElem?_eq_some_iff.1 hh).1
  · cases h
theorem cell_spot {w : World} {a : Addr} {v : Value} (h : w.cell? a = some v) : a.spot = none := by
  unfold World.cell? at h
  split at h
  · split at h
    · cases h
    · rename_i q; simpa using q
  · cases h
variable {P : Program} {H' : Type} {enc : TypeId × Value → H'} {w : World} {base : Nat} {sp : Nat → Bool} {held : Bool}

end Go.Ab
