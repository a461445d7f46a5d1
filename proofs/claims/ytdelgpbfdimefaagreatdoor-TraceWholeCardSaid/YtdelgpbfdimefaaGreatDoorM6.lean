/- Short shots. -/
import Derived.Test.YtdelgpbfdimefaaGreatDoorM4
set_option linter.all false
/- What short shots are. -/
namespace Go.Proofs.YtdelgpbfdimefaaGreatDoor
open Go Go.Ab Go.Fl
variable {G : Base} {h : H}
theorem short_facts {nm : ByteArray} {v : Value} {n : Nat} {ts : List Trc} (s : SlT G h v n ts) (h1 : shortB nm ts = true) : n ≤ 65 ∧ (∀ t ∈ ts, t.n < 1000000) ∧ nm.size ≤ 1000000 := by
  unfold shortB at h1
  simp only [Bool.and_eq_true, decide_eq_true_eq, List.all_eq_true] at h1
  obtain ⟨⟨z1, z2⟩, z3⟩ := h1
  have hlen := s.len
  refine ⟨by omega, fun u hu => ?_, by omega⟩
  have := z3 u hu
  unfold shortT at this
  have := of_decide_eq_true this
  omega
end Go.Proofs.YtdelgpbfdimefaaGreatDoor
