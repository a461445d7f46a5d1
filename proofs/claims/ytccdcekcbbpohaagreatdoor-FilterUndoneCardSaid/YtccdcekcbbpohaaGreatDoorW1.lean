/- Four rows of the document, turned. -/
import Derived.Test.YtccdcekcbbpohaaGreatDoorA6
import Derived.Test.YtccdcekcbbpohaaGreatDoorS1
import Derived.Below
import Derived.RowKit
import Derived.KernelRfl
set_option linter.all false
namespace Go.Proofs.YtccdcekcbbpohaaGreatDoor
open Go Go.Ab Go.RowKit
set_option maxRecDepth 1000000
/-- Lists of integers as values, and back. -/
def vints (l : List Int) : List Value := l.map (.int .i64)
def intsOf : List Value → Option (List Int)
  | [] => some []
  | .int .i64 n :: l => match intsOf l with
    | some L => some (n :: L)
    | none => none
  | _ => none
theorem intsOf_eq : ∀ {l : List Value} {L : List Int}, intsOf l = some L → l = vints L
  | [], L, h => by cases h; rfl
  | v :: l, L, h => by
    unfold intsOf at h
    split at h
    · contradiction
    · rename_i n l' e
      cases e
      split at h
      · rename_i L' hL
        cases h
        rw [intsOf_eq hL]; rfl
      · cases h
    · cases h
def rw16 : List Int := [16, 0, 0, 0, 0, 0, 0, 0]
def rw64 : List Int := [64, 0, 0, 0, 0, 0, 0, 0]
def rw256 : List Int := [256, 0, 0, 0, 0, 0, 0, 0]
def all16 : List Int := [16, 0, 16, 0, 16, 0, 16, 0]
def all64 : List Int := [64, 0, 64, 0, 64, 0, 64, 0]
def four (l : List Int) : List Int := l ++ (l ++ (l ++ l))
/-- What the rows of the document's example are, turned. -/
def rowsTab (L : List Int) (b : Int) : Option (List Int) :=
  if b = 3 then (if L = four rw16 then some (four all16) else if L = four all16 then some (four rw64) else none)
  else if b = 1 then (if L = four rw64 then some (four all64) else if L = four all64 then some (four rw256) else none)
  else none
noncomputable def rowsRec : Ev := ev Tryz.prog laidBase ext0 60
theorem rows1 : (rowsRec.call (.func (.func 143) #[] #[]) [.agg ⟨vints (four rw16)⟩, .int .i64 3] H.empty).map (·.1) = some (.agg ⟨vints (four all16)⟩) := by kernel_rfl
theorem rows2 : (rowsRec.call (.func (.func 143) #[] #[]) [.agg ⟨vints (four all16)⟩, .int .i64 3] H.empty).map (·.1) = some (.agg ⟨vints (four rw64)⟩) := by kernel_rfl
theorem rows3 : (rowsRec.call (.func (.func 143) #[] #[]) [.agg ⟨vints (four rw64)⟩, .int .i64 1] H.empty).map (·.1) = some (.agg ⟨vints (four all64)⟩) := by kernel_rfl
theorem rows4 : (rowsRec.call (.func (.func 143) #[] #[]) [.agg ⟨vints (four all64)⟩, .int .i64 1] H.empty).map (·.1) = some (.agg ⟨vints (four rw256)⟩) := by kernel_rfl
end Go.Proofs.YtccdcekcbbpohaaGreatDoor
