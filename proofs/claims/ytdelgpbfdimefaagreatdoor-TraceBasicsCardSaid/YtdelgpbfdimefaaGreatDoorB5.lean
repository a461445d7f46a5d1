/- The statement TraceBasicsCardSaid is proved: the law TraceBasics returns true for all its arguments, which are a string, four integers and a sample, in each world in which the tables of the program hold what they were laid with. -/
import Derived.Test.YtdelgpbfdimefaaGreatDoorB4
import Derived.Test.YtdelgpbfdimefaaGreatDoorS1
import Derived.Test.YtdelgpbfdimefaaGreatDoorB3
set_option linter.all false
namespace Go.Proofs.YtdelgpbfdimefaaGreatDoor
open Go Go.Ab Go.RowKit Go.ChangeShapes Go.WideShapes Go.ChangeAt
set_option maxRecDepth 100000 in
theorem said3 (walk : Walk 3 Tryz.f3 Rows.traceBasicsRow.laid) : Rows.TraceBasicsSaid :=
  OpenClaim.holds_of_cond 3 Tryz.f3 rfl rfl rfl rfl rfl rfl rfl ⟨rfl, rfl, rfl, rfl, rfl⟩ rfl rfl rfl rfl rfl (by kernel_rfl) Tryz.func3 joined3
    (of_decide_eq_true (by kernel_rfl)) (by unfold Func.isWrapper; first | (rw [if_pos (by decide +kernel)]; kernel_rfl) | (rw [if_neg (by decide +kernel)]; exact ⟨rfl, rfl⟩))
    (fun os started H enc _ F => by rw [OpenClaim.pre_eq_preRow]; exact lifted3 walk os started H enc F)
end Go.Proofs.YtdelgpbfdimefaaGreatDoor

namespace Go.Proofs.YtdelgpbfdimefaaGreatDoor
open Go Go.Ab Go.RowKit Go.ChangeShapes Go.WideShapes Go.ChangeAt

theorem plain3 (f : FuncId) (fn : Func) (hf : Tryz.pinned.checked.prog.funcNamed "moveout/moveoutlaw01.TraceBasics" = some f) (hfn : Tryz.pinned.checked.prog.funcs[f]? = some fn) :
    true = Tryz.pinned.checked.prog.looks [] ∧ ∀ (j : Nat) t, fn.params[j]? = some t → Tryz.pinned.checked.prog.wantsStandIn t = false := by
  obtain rfl : f = 3 := Option.some.inj ((show Tryz.prog.funcNamed "moveout/moveoutlaw01.TraceBasics" = some 3 by kernel_rfl).symm.trans hf) |>.symm
  obtain rfl : fn = Tryz.f3 := (Option.some.inj (Tryz.func3.symm.trans hfn)).symm
  refine ⟨by kernel_rfl, fun j t ht => ?_⟩
  have h : (Tryz.f3.params.toList.all fun t => !Tryz.prog.wantsStandIn t) = true := by kernel_rfl
  have := List.all_eq_true.1 h t (Array.mem_toList_iff.2 (Array.mem_of_getElem? ht))
  show Tryz.prog.wantsStandIn t = false
  simpa using this

set_option maxHeartbeats 0 in
set_option maxRecDepth 100000 in
/-- The card of TraceBasics, once her walk stands. -/
theorem card3 (walk : Walk 3 Tryz.f3 Rows.traceBasicsRow.laid) : Rows.TraceBasicsCardSaid :=
  Claim7.holds_tied_plain_at .later [] _ _ _ _ (said3 walk) (fun _ h => by cases h) (by decide +kernel) (fun _ h => by cases h) traceBasics_row_tie rfl ⟨rfl, rfl⟩ (by decide +kernel) rfl plain3 (by decide +kernel)
end Go.Proofs.YtdelgpbfdimefaaGreatDoor

/- The walk of TraceBasics, from its contract. -/
namespace Go.Proofs.YtdelgpbfdimefaaGreatDoor
open Go Go.Ab Go.RowKit Go.ChangeShapes Go.WideShapes Go.ChangeAt
set_option maxRecDepth 10000
theorem walk3 : Walk 3 Tryz.f3 Rows.traceBasicsRow.laid := by
  intro H enc W base args ds p hval hA hL
  have hp : Tryz.f3.params.toList = [9, 22, 23] := by kernel_rfl
  have hv : ∀ (j : Nat) t v, [9, 22, 23][j]? = some t → args.toList[j]? = some v → Value.okWide Tryz.prog W .any base t v := fun j t v h1 h2 => hval j t v (by rw [← hp] at h1; simpa using h1) (by simpa using h2)
  rw [hp] at hA
  obtain ⟨al⟩ := args
  simp only at hA hv
  obtain ⟨v0, vs0, d0, ds0, p0, q0, rfl, rfl, rfl, h0, r0⟩ := trodAll_cons hA
  obtain ⟨v1, vs1, d1, ds1, p1, q1, rfl, rfl, rfl, h1, r1⟩ := trodAll_cons r0
  obtain ⟨v2, vs2, d2, ds2, p2, q2, rfl, rfl, rfl, h2, r2⟩ := trodAll_cons r1
  obtain ⟨rfl, rfl, rfl⟩ := trodAll_nil r2
  obtain ⟨s, rfl, _⟩ := Go.ChangeMaps.open_string Tryz.underlying9 (hv 0 9 _ rfl rfl) h0
  obtain ⟨ls, rfl, hl, _⟩ := open_intArr Tryz.underlying22 Tryz.underlying3 (by kernel_rfl) (by kernel_rfl) (hv 1 22 _ rfl rfl) h1
  obtain ⟨x, rfl, _⟩ := open_float Tryz.underlying23 (hv 2 23 _ rfl rfl) h2
  match ls, hl with
  | [a, b, c, d], _ => exact walk_cf (base_ok hL) (fun _ _ e => e) rfl rfl (c3 s a b c d x Wf.empty)
theorem traceBasics : Rows.TraceBasicsCardSaid := card3 walk3
end Go.Proofs.YtdelgpbfdimefaaGreatDoor
