/- The walk of TraceLists; the frame of a card. -/
import Derived.Test.YtdelgpbfdimefaaGreatDoorC0
import Derived.Test.YtdelgpbfdimefaaGreatDoorA6
import Derived.Test.YtdelgpbfdimefaaGreatDoorS1
import Derived.Test.YtdelgpbfdimefaaGreatDoorK3
import Derived.Test.YtdelgpbfdimefaaGreatDoorW1
import Derived.Test.YtdelgpbfdimefaaGreatDoorCards
import Derived.Test.YtdelgpbfdimefaaGreatDoorTie
import Derived.Test.YtdelgpbfdimefaaGreatDoorL4
set_option linter.all false
/- From a contract to a walk. -/
namespace Go.Proofs.YtdelgpbfdimefaaGreatDoor
open Go Go.Ab Go.RowKit Go.ChangeShapes Go.WideShapes Go.ChangeAt
theorem lrel_refl {ρ : Ctx} {l : List Value} (h : l.all gd = true) : LRel ρ l l := ⟨rfl, fun j v v' a b => by
  rw [a] at b; cases b
  exact VRel.gd_refl (List.all_eq_true.1 h v (List.mem_of_getElem? a))⟩
theorem walk_cf {W : World} {G : Base} (hB : BaseOk W.heap.size G W) (hG : ∀ a v, laidBase a = some v → G a = some v) {f : Nat} (hf : extz f = none) {args : List Value} (hg : args.all gd = true) {Q : H → Prop}
    (hc : Cf (mz G) (.func (.func f) #[] #[]) args H.empty fun v h' => v = .bool true ∧ Q h') : Calls Tryz.prog f args.toArray W fun e W' => e = .returned (.bool true) ∧ Below W.heap.size W W' := by
  obtain ⟨v, h', ⟨N, hn⟩, rfl, _⟩ := hc
  exact calls_of_ev mixed hB (extz_sound hG) no_count hf (hn N (Nat.le_refl _)) (lrel_refl hg) rfl
end Go.Proofs.YtdelgpbfdimefaaGreatDoor

/- From a contract to a walk, with arguments in memory. -/
namespace Go.Proofs.YtdelgpbfdimefaaGreatDoor
open Go Go.Ab Go.RowKit Go.ChangeShapes Go.WideShapes Go.ChangeAt
theorem tab_gd : ∀ k, (tabAt k).all gd = true := by
  intro k
  unfold tabAt
  split <;> decide +kernel
theorem laid_gd {a : Addr} {v : Value} (h : laidBase a = some v) : gd v = true := by
  unfold laidBase at h
  split at h
  · exact List.all_eq_true.1 (tab_gd _) v (List.mem_of_getElem? h)
  · cases h
theorem laid_wbase {W : World} (hB : BaseOk W.heap.size laidBase W) : ∀ a v, laidBase a = some v → wbase W a = some v := fun a v h => wbase_some (hB.cell a v h).2.2.1 (laid_gd h)
theorem walk_cf2 {W : World} (hB : BaseOk W.heap.size laidBase W) {f : Nat} (hf : extz f = none) {args args' : List Value} (hA : LRel (fun _ => none) args args') {Q : H → Prop}
    (hc : Cf (mz (wbase W)) (.func (.func f) #[] #[]) args H.empty fun v h' => v = .bool true ∧ Q h') : Calls Tryz.prog f args'.toArray W fun e W' => e = .returned (.bool true) ∧ Below W.heap.size W W' := by
  obtain ⟨v, h', ⟨N, hn⟩, rfl, _⟩ := hc
  exact calls_of_ev mixed (wbase_ok W) (extz_sound (laid_wbase hB)) no_count hf (hn N (Nat.le_refl _)) hA rfl
theorem lrel_nil {ρ : Ctx} : LRel ρ [] [] := ⟨rfl, fun j v v' a _ => by simp at a⟩
theorem lrel_cons {ρ : Ctx} {v v' : Value} {l l' : List Value} (h : VRel ρ v v') (r : LRel ρ l l') : LRel ρ (v :: l) (v' :: l') := ⟨by simp [r.1], fun j a b q1 q2 => by
  cases j with
  | zero => simp at q1 q2; subst q1 q2; exact h
  | succ j => simp at q1 q2; exact r.2 j a b q1 q2⟩
end Go.Proofs.YtdelgpbfdimefaaGreatDoor

namespace Go.Proofs.YtdelgpbfdimefaaGreatDoor
open Go Go.Ab Go.RowKit Go.ChangeShapes Go.WideShapes Go.ChangeAt

theorem own : ownKnob Tryz.prog.godebug = none := by kernel_rfl
theorem laidOut : laidOutB Tryz.prog = true := by kernel_rfl

/-- What a walk of the law must show: called with any readable arguments in a world that holds the tables. -/
def Walk (f : Nat) (fn : Func) (laid : List (String × DataW Unit)) : Prop :=
  ∀ (H : Type) (enc : TypeId × Value → H) (W : World) (base : Nat) (args : Array Value) (ds : List (DataW H)) (p : List MemPlace),
    (∀ (j : Nat) t v, fn.params[j]? = some t → args[j]? = some v → Value.okWide Tryz.prog W .any base t v) →
    DataW.TrodAll enc Tryz.prog W 0 (fun _ => true) true fn.params.toList args.toList ds p → laidMetH Tryz.prog laid W →
    Calls Tryz.prog f args W fun e W' => e = .returned (.bool true) ∧ Below W.heap.size W W'

/-- A WORLD FOR THE WITNESS: the settled one, the tables holding what their initialisers lay. -/
def laidObj (g : Nat) : Obj → Obj
  | .cells _ t frozen => .cells ⟨tabAt g⟩ t frozen
  | o => o
noncomputable def laidHeap (hp : Array Obj) : Array Obj := ((((hp.modify 0 (laidObj 0)).modify 1 (laidObj 1)).modify 4 (laidObj 4)).modify 7 (laidObj 7)).modify 8 (laidObj 8)
noncomputable def laidWorld (os : Os) : World :=
  { World.holding Tryz.prog os ⟨#[], #[], []⟩ with heap := laidHeap (World.holding Tryz.prog os ⟨#[], #[], []⟩).heap }
end Go.Proofs.YtdelgpbfdimefaaGreatDoor

namespace Go.Proofs.YtdelgpbfdimefaaGreatDoor
open Go Go.Ab Go.RowKit Go.ChangeShapes Go.WideShapes Go.ChangeAt

set_option maxRecDepth 100000 in
theorem contract7 (walk : Walk 7 Tryz.f7 Rows.traceListsRow.laid) (H : Type) (enc : TypeId × Value → H) (W : World) (base : Nat) (args : Array Value) (ds gs : List (DataW H)) (before : List MemPlace)
    (hval : ∀ (j : Nat) t v, Tryz.f7.params[j]? = some t → args[j]? = some v → Value.okWide Tryz.prog W .any base t v)
    (hW : DataW.Whole enc Tryz.prog Tryz.f7.params.toList Rows.traceListsSpec.vars false W args.toList ds gs before) (hL : laidMetH Tryz.prog Rows.traceListsRow.laid W) :
    Calls Tryz.prog 7 args W fun e W' => ∃ v, e = .returned v ∧ Rows.traceListsSpec.post enc Tryz.prog Tryz.f7 false true false false W args v W' := by
  have hW' := hW
  obtain ⟨p, q, hA0, hV, rfl, hfz, hnd⟩ := hW
  have hA : DataW.TrodAll enc Tryz.prog W 0 (fun _ => true) true Tryz.f7.params.toList args.toList ds p := hA0
  obtain ⟨rfl, rfl⟩ := trodVars_none hV
  refine (walk H enc W base args ds p hval hA hL).mono fun e W' ⟨he, hb⟩ => ?_
  subst he
  refine ⟨_, rfl, law_post laidOut (by kernel_rfl) rfl (tb := 4) (by kernel_rfl) (by kernel_rfl) ?_ hW' hb⟩
  have hp : Tryz.f7.params.toList = [45, 45, 25] := by kernel_rfl
  rw [hp] at hA
  obtain ⟨v0, vs0, d0, ds0, p0, q0, hargs, rfl, rfl, h0, r0⟩ := trodAll_cons hA
  obtain ⟨v1, vs1, d1, ds1, p1, q1, rfl, rfl, rfl, h1, r1⟩ := trodAll_cons r0
  obtain ⟨v2, vs2, d2, ds2, p2, q2, rfl, rfl, rfl, h2, r2⟩ := trodAll_cons r1
  obtain ⟨rfl, rfl, rfl⟩ := trodAll_nil r2
  rfl
def witArgs7 : Array Value := #[.slice none 0 0, .slice none 0 0, .slice none 0 0]
set_option maxRecDepth 100000 in
theorem laid_met7 (os : Os) : laidMet Tryz.prog Rows.traceListsRow.laid ((laidWorld os).forCall (fun _ _ => 0) ⟨#[], witArgs7, []⟩).memory :=
  laidMet_of_run' 8 (by kernel_rfl) (by kernel_rfl)
set_option maxRecDepth 100000 in
theorem reads7 (os : Os) {H : Type} (enc : TypeId × Value → H) : ∃ d places, DataW.whole enc Tryz.prog ((laidWorld os).forCall (fun _ _ => 0) ⟨#[], witArgs7, []⟩).memory Tryz.f7.params.toList Rows.traceListsSpec.vars false witArgs7.toList 8 = some (d, [], places) :=
  ⟨[.nil, .nil, .nil], [], by kernel_rfl⟩
set_option maxRecDepth 100000 in
theorem lifted7 (walk : Walk 7 Tryz.f7 Rows.traceListsRow.laid) (os : Os) (started : os.Started) (H : Type) (enc : TypeId × Value → H) (F : Stop.Interp) :
    ReturnsInHanded {} Tryz.checked os 7 .any ((OpenSpec.ofChange Rows.traceListsSpec).preRow enc Tryz.prog Tryz.f7 Rows.traceListsRow.domain false Rows.traceListsRow.laid) (((OpenSpec.ofChange Rows.traceListsSpec).at F).post enc Tryz.prog Tryz.f7 false true false false) := by
  obtain ⟨d, places, hx⟩ := reads7 os enc
  refine returnsInHanded_of_row (C := Tryz.checked) (s := OpenSpec.ofChange Rows.traceListsSpec) own started (by kernel_rfl) Tryz.func7
    (witness_row_at (enc := enc) (C := Tryz.checked) false (laidWorld os) witArgs7 rfl (by kernel_rfl) (by kernel_rfl) (by kernel_rfl)
      (OpenSpec.preRow_of_cond 8 hx (by kernel_rfl) (fun k hk => by cases hk) (by kernel_rfl) (laid_met7 os))) ?_
  intro W base args ds gs before hval hW _ _ _ hL _ _
  exact contract7 walk H enc W base args ds gs before hval hW hL
end Go.Proofs.YtdelgpbfdimefaaGreatDoor

/- The walk of TraceLists, from its contract. -/
namespace Go.Proofs.YtdelgpbfdimefaaGreatDoor
open Go Go.Ab Go.RowKit Go.ChangeShapes Go.WideShapes Go.ChangeAt
set_option maxRecDepth 10000
theorem walk7 : Walk 7 Tryz.f7 Rows.traceListsRow.laid := by
  intro H enc W base args ds p hval hA hL
  have hp : Tryz.f7.params.toList = [45, 45, 25] := by kernel_rfl
  have hv : ∀ (j : Nat) t v, [45, 45, 25][j]? = some t → args.toList[j]? = some v → Value.okWide Tryz.prog W .any base t v := fun j t v h1 h2 => hval j t v (by rw [← hp] at h1; simpa using h1) (by simpa using h2)
  rw [hp] at hA
  obtain ⟨al⟩ := args
  simp only at hA hv
  obtain ⟨v0, vs0, d0, ds0, p0, q0, rfl, rfl, rfl, h0, r0⟩ := trodAll_cons hA
  obtain ⟨v1, vs1, d1, ds1, p1, q1, rfl, rfl, rfl, h1, r1⟩ := trodAll_cons r0
  obtain ⟨v2, vs2, d2, ds2, p2, q2, rfl, rfl, rfl, h2, r2⟩ := trodAll_cons r1
  obtain ⟨rfl, rfl, rfl⟩ := trodAll_nil r2
  obtain ⟨u0, n0, l0, k0, s0⟩ := open_slF Tryz.underlying45 (by kernel_rfl) Tryz.underlying23 (hv 0 45 _ rfl rfl) h0
  obtain ⟨u1, n1, l1, k1, s1⟩ := open_slF Tryz.underlying45 (by kernel_rfl) Tryz.underlying23 (hv 1 45 _ rfl rfl) h1
  obtain ⟨u2, n2, l2, k2, s2⟩ := open_slI Tryz.underlying25 (by kernel_rfl) Tryz.underlying3 (hv 2 25 _ rfl rfl) h2
  exact walk_cf2 (base_ok hL) rfl (lrel_cons k0 (lrel_cons k1 (lrel_cons k2 lrel_nil))) (c7 s0 s1 s2 Wf.empty)
end Go.Proofs.YtdelgpbfdimefaaGreatDoor
