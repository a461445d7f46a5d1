/- Slices of slices; lists as arguments. -/
import Derived.Test.YtcepknnekgjneaaGreatDoorA6
import Derived.Test.YtcepknnekgjneaaGreatDoorK2
import Derived.ChangeSlices
set_option linter.all false
/- Slices as arguments; a world's cells as a base. -/
namespace Go.Ab
open Go Go.RowKit Go.ChangeShapes Go.WideShapes Go.ChangeAt

theorem cell_lt {w : World} {a : Addr} {v : Value} (h : w.cell? a = some v) : a.block < w.heap.size := by
  unfold World.cell? at h
  split at h
  · rename_i c _ _ hh
    exact (Array.getElem?_eq_some_iff.1 hh).1
  · cases h
theorem cell_spot {w : World} {a : Addr} {v : Value} (h : w.cell? a = some v) : a.spot = none := by
  unfold World.cell? at h
  split at h
  · split at h
    · cases h
    · rename_i q; simpa using q
  · cases h
variable {P : Program} {H' : Type} {enc : TypeId × Value → H'} {w : World} {base : Nat} {sp : Nat → Bool} {held : Bool}

end Go.Ab

/- Cells that are slices, in a base. -/
namespace Go.Ab
open Go Go.RowKit Go.ChangeShapes Go.WideShapes Go.ChangeAt

/-- How a world's value stands in a base: plain values as they are, slices too, an empty one loose. -/
def baseV : Value → Option Value
  | .slice none l c => some (.slice none l c)
  | .slice (some a) l c => match l with
    | 0 => some (.slice (some ⟨0, 0, some 1⟩) 0 0)
    | l + 1 => match a.spot with
      | none => some (.slice (some a) (l + 1) c)
      | some _ => none
  | v => match gd v with
    | true => some v
    | false => none
theorem baseV_rel {v u : Value} (h : baseV v = some u) : VRel (fun _ => none) u v := by
  unfold baseV at h
  split at h
  · cases h; exact .nils _ _
  · split at h
    · cases h; exact .loose 0 0 _ _
    · split at h
      · rename_i hs; cases h; exact .bsl _ _ _ hs
      · cases h
  · split at h
    · rename_i hg; cases h; exact VRel.gd_refl hg
    · cases h
def wbase2 (w : World) : Base := fun a => match a.spot with
  | none => match w.cell? a with
    | some v => baseV v
    | none => none
  | some _ => none
theorem wbase2_some {w : World} {a : Addr} {v u : Value} (h : w.cell? a = some v) (g : baseV v = some u) : wbase2 w a = some u := by
  unfold wbase2
  rw [cell_spot h]
  simp only [h, g]
theorem wbase2_ok (w : World) : BaseOk w.heap.size (wbase2 w) w := by
  refine ⟨fun a v e => ?_, Nat.le_refl _⟩
  unfold wbase2 at e
  split at e
  · rename_i hs
    split at e
    · rename_i u hu
      exact ⟨hs, cell_lt hu, u, hu, baseV_rel e⟩
    · cases e
  · cases e
theorem baseV_gd {v : Value} (g : gd v = true) : baseV v = some v := by
  unfold baseV
  split
  · rfl
  · simp [gd, gnd] at g
  · rw [g]
end Go.Ab

/- Lists of structs as arguments: their cells in a base. -/
namespace Go.Ab
open Go Go.RowKit Go.ChangeShapes Go.WideShapes Go.ChangeAt

variable {P : Program} {H' : Type} {enc : TypeId × Value → H'} {w : World} {base : Nat} {sp : Nat → Bool} {held : Bool}

end Go.Ab
