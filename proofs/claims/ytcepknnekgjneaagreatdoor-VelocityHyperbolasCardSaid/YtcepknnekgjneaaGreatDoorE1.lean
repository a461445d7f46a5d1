/- The walk of VelocityHyperbolas; the frame of a card. -/
import Derived.Test.YtcepknnekgjneaaGreatDoorA6
import Derived.Test.YtcepknnekgjneaaGreatDoorW4
import Derived.Test.YtcepknnekgjneaaGreatDoorCards
import Derived.Test.YtcepknnekgjneaaGreatDoorTie
import Derived.Test.YtcepknnekgjneaaGreatDoorS1
import Derived.Test.YtcepknnekgjneaaGreatDoorK4
import Derived.Test.YtcepknnekgjneaaGreatDoorL1
set_option linter.all false
namespace Go.Proofs.YtcepknnekgjneaaGreatDoor
open Go Go.Ab Go.RowKit Go.ChangeShapes Go.WideShapes Go.ChangeAt

theorem own : ownKnob Tryz.prog.godebug = none := by kernel_rfl
theorem laidOut : laidOutB Tryz.prog = true := by kernel_rfl

/-- What a walk of the law must show: called with any readable arguments in a world that holds the tables. -/
def Walk (f : Nat) (fn : Func) (laid : List (String × DataW Unit)) : Prop :=
  ∀ (H : Type) (enc : TypeId × Value → H) (W : World) (base : Nat) (args : Array Value) (ds : List (DataW H)) (p : List MemPlace),
    (∀ (j : Nat) t v, fn.params[j]? = some t → args[j]? = some v → Value.okWide Tryz.prog W .any base t v) →
    DataW.TrodAll enc Tryz.prog W 0 (fun _ => true) true fn.params.toList args.toList ds p → laidMetH Tryz.prog laid W →
    Calls Tryz.prog f args W fun e W' => e = .returned (.bool true) ∧ Below W.heap.size W W'

/-- A WORLD FOR THE WITNESS: the settled one, the tables holding what their initialisers lay. -/
def laidObj (g : Nat) : Obj → Obj
  | .cells _ t frozen => .cells ⟨tabAt g⟩ t frozen
  | o => o
noncomputable def laidHeap (hp : Array Obj) : Array Obj := ((((hp.modify 1 (laidObj 1)).modify 3 (laidObj 3)).modify 4 (laidObj 4)).modify 5 (laidObj 5))
noncomputable def laidWorld (os : Os) : World :=
  { World.holding Tryz.prog os ⟨#[], #[], []⟩ with heap := laidHeap (World.holding Tryz.prog os ⟨#[], #[], []⟩).heap }
end Go.Proofs.YtcepknnekgjneaaGreatDoor

/- Arguments opened; from a contract to a walk. -/
namespace Go.Proofs.YtcepknnekgjneaaGreatDoor
open Go Go.Ab Go.RowKit Go.ChangeShapes Go.WideShapes Go.ChangeAt
set_option maxRecDepth 10000
variable {H' : Type} {enc : TypeId × Value → H'} {w : World} {base : Nat} {sp : Nat → Bool} {held : Bool}
theorem tab_gd : ∀ k, (tabAt k).all gd = true := by
  intro k
  unfold tabAt
  split <;> decide +kernel
theorem laid_gd {a : Addr} {v : Value} (h : laidBase a = some v) : gd v = true := by
  unfold laidBase at h
  split at h
  · exact List.all_eq_true.1 (tab_gd _) v (List.mem_of_getElem? h)
  · cases h
theorem lrel_nil {ρ : Ctx} : LRel ρ [] [] := ⟨rfl, fun j v v' a _ => by simp at a⟩
theorem lrel_cons {ρ : Ctx} {v v' : Value} {l l' : List Value} (h : VRel ρ v v') (r : LRel ρ l l') : LRel ρ (v :: l) (v' :: l') := ⟨by simp [r.1], fun j a b q1 q2 => by
  cases j with
  | zero => simp at q1 q2; subst q1 q2; exact h
  | succ j => simp at q1 q2; exact r.2 j a b q1 q2⟩
theorem laid_wbase2 {W : World} (hB : BaseOk W.heap.size laidBase W) : ∀ a v, laidBase a = some v → wbase2 W a = some v := fun a v h => by
  obtain ⟨_, _, u, q, r⟩ := hB.cell a v h
  have := r.gd_eq (laid_gd h)
  subst this
  exact wbase2_some q (baseV_gd (laid_gd h))
theorem walk_cf3 {W : World} (hB : BaseOk W.heap.size laidBase W) {f : Nat} (hf : extz f = none) {args args' : List Value} (hA : LRel (fun _ => none) args args') {Q : H → Prop}
    (hc : Cf (mz (wbase2 W)) (.func (.func f) #[] #[]) args H.empty fun v h' => v = .bool true ∧ Q h') : Calls Tryz.prog f args'.toArray W fun e W' => e = .returned (.bool true) ∧ Below W.heap.size W W' := by
  obtain ⟨v, h', ⟨N, hn⟩, rfl, _⟩ := hc
  exact calls_of_ev mixed (wbase2_ok W) (extz_sound (laid_wbase2 hB)) no_count hf (hn N (Nat.le_refl _)) hA rfl
/-- An integer of a kind. -/
theorem open_int {t : TypeId} {k : IntKind} (hu : Tryz.prog.underlying t = some (.int k)) {r : Reach} {b0 : Nat} {v : Value} {d : DataW H'} {ps : List MemPlace} (hval : Value.okWide Tryz.prog w r b0 t v) (hd : DataW.Trod enc Tryz.prog w base sp held t v d ps) :
    ∃ z : Int, VRel (fun _ => none) (.int k z) v ∧ k.min ≤ z ∧ z ≤ k.max := by
  have hv : ∃ k z, v = .int k z := by
    simp only [Value.okWide, hu, Cell.okWide] at hval
    cases v <;> simp_all [Cell.ok]
  obtain ⟨k', z, rfl⟩ := hv
  obtain ⟨fuel, hf⟩ := hd
  have hf : DataW.trod enc Tryz.prog w base sp held fuel t [.int k' z] = some (d, ps) := hf
  obtain ⟨y, e, _, hw⟩ := DataW.trod_int hu hf
  cases e
  have hw' : k.min ≤ z ∧ z ≤ k.max := by simpa [Lit.wf] using hw
  exact ⟨z, VRel.gd_refl rfl, hw'⟩
end Go.Proofs.YtcepknnekgjneaaGreatDoor

namespace Go.Proofs.YtcepknnekgjneaaGreatDoor
open Go Go.Ab Go.RowKit Go.ChangeShapes Go.WideShapes Go.ChangeAt

set_option maxRecDepth 100000 in
theorem contract8 (walk : Walk 8 Tryz.f8 Rows.velocityHyperbolasRow.laid) (H : Type) (enc : TypeId × Value → H) (W : World) (base : Nat) (args : Array Value) (ds gs : List (DataW H)) (before : List MemPlace)
    (hval : ∀ (j : Nat) t v, Tryz.f8.params[j]? = some t → args[j]? = some v → Value.okWide Tryz.prog W .any base t v)
    (hW : DataW.Whole enc Tryz.prog Tryz.f8.params.toList Rows.velocityHyperbolasSpec.vars false W args.toList ds gs before) (hL : laidMetH Tryz.prog Rows.velocityHyperbolasRow.laid W) :
    Calls Tryz.prog 8 args W fun e W' => ∃ v, e = .returned v ∧ Rows.velocityHyperbolasSpec.post enc Tryz.prog Tryz.f8 false true false false W args v W' := by
  have hW' := hW
  obtain ⟨p, q, hA0, hV, rfl, hfz, hnd⟩ := hW
  have hA : DataW.TrodAll enc Tryz.prog W 0 (fun _ => true) true Tryz.f8.params.toList args.toList ds p := hA0
  obtain ⟨rfl, rfl⟩ := trodVars_none hV
  refine (walk H enc W base args ds p hval hA hL).mono fun e W' ⟨he, hb⟩ => ?_
  subst he
  refine ⟨_, rfl, law_post laidOut (by kernel_rfl) rfl (tb := 4) (by kernel_rfl) (by kernel_rfl) ?_ hW' hb⟩
  have hp : Tryz.f8.params.toList = [96, 97, 96] := by kernel_rfl
  rw [hp] at hA
  obtain ⟨v0, vs0, d0, ds0, p0, q0, hargs, rfl, rfl, h0, r0⟩ := trodAll_cons hA
  obtain ⟨v1, vs1, d1, ds1, p1, q1, rfl, rfl, rfl, h1, r1⟩ := trodAll_cons r0
  obtain ⟨v2, vs2, d2, ds2, p2, q2, rfl, rfl, rfl, h2, r2⟩ := trodAll_cons r1
  obtain ⟨rfl, rfl, rfl⟩ := trodAll_nil r2
  rfl
def witArgs8 : Array Value := #[.int .u16 0, .int .u32 0, .int .u16 0]
set_option maxRecDepth 100000 in
theorem laid_met8 (os : Os) : laidMet Tryz.prog Rows.velocityHyperbolasRow.laid ((laidWorld os).forCall (fun _ _ => 0) ⟨#[], witArgs8, []⟩).memory :=
  laidMet_of_run' 8 (by kernel_rfl) (by kernel_rfl)
set_option maxRecDepth 100000 in
theorem reads8 (os : Os) {H : Type} (enc : TypeId × Value → H) : ∃ d places, DataW.whole enc Tryz.prog ((laidWorld os).forCall (fun _ _ => 0) ⟨#[], witArgs8, []⟩).memory Tryz.f8.params.toList Rows.velocityHyperbolasSpec.vars false witArgs8.toList 8 = some (d, [], places) :=
  ⟨[.lit (.int .u16 0), .lit (.int .u32 0), .lit (.int .u16 0)], [], by kernel_rfl⟩
set_option maxRecDepth 100000 in
theorem lifted8 (walk : Walk 8 Tryz.f8 Rows.velocityHyperbolasRow.laid) (os : Os) (started : os.Started) (H : Type) (enc : TypeId × Value → H) (F : Stop.Interp) :
    ReturnsInHanded {} Tryz.checked os 8 .any ((OpenSpec.ofChange Rows.velocityHyperbolasSpec).preRow enc Tryz.prog Tryz.f8 Rows.velocityHyperbolasRow.domain false Rows.velocityHyperbolasRow.laid) (((OpenSpec.ofChange Rows.velocityHyperbolasSpec).at F).post enc Tryz.prog Tryz.f8 false true false false) := by
  obtain ⟨d, places, hx⟩ := reads8 os enc
  refine returnsInHanded_of_row (C := Tryz.checked) (s := OpenSpec.ofChange Rows.velocityHyperbolasSpec) own started (by kernel_rfl) Tryz.func8
    (witness_row_at (enc := enc) (C := Tryz.checked) false (laidWorld os) witArgs8 rfl (by kernel_rfl) (by kernel_rfl) (by kernel_rfl)
      (OpenSpec.preRow_of_cond 8 hx (by kernel_rfl) (fun k hk => by cases hk) (by kernel_rfl) (laid_met8 os))) ?_
  intro W base args ds gs before hval hW _ _ _ hL _ _
  exact contract8 walk H enc W base args ds gs before hval hW hL
end Go.Proofs.YtcepknnekgjneaaGreatDoor

/- The walk of VelocityHyperbolas, from its contract. -/
namespace Go.Proofs.YtcepknnekgjneaaGreatDoor
open Go Go.Ab Go.RowKit Go.ChangeShapes Go.WideShapes Go.ChangeAt
set_option maxRecDepth 10000
theorem walk8 : Walk 8 Tryz.f8 Rows.velocityHyperbolasRow.laid := by
  intro H enc W base args ds p hval hA hL
  have hp : Tryz.f8.params.toList = [96, 97, 96] := by kernel_rfl
  have hv : ∀ (j : Nat) t v, [96, 97, 96][j]? = some t → args.toList[j]? = some v → Value.okWide Tryz.prog W .any base t v := fun j t v h1 h2 => hval j t v (by rw [← hp] at h1; simpa using h1) (by simpa using h2)
  rw [hp] at hA
  obtain ⟨al⟩ := args
  simp only at hA hv
  obtain ⟨v0, vs0, d0, ds0, p0, q0, rfl, rfl, rfl, h0, r0⟩ := trodAll_cons hA
  obtain ⟨v1, vs1, d1, ds1, p1, q1, rfl, rfl, rfl, h1, r1⟩ := trodAll_cons r0
  obtain ⟨v2, vs2, d2, ds2, p2, q2, rfl, rfl, rfl, h2, r2⟩ := trodAll_cons r1
  obtain ⟨rfl, rfl, rfl⟩ := trodAll_nil r2
  obtain ⟨a, k0, w0⟩ := open_int Tryz.underlying96 (hv 0 96 _ rfl rfl) h0
  obtain ⟨b, k1, w1⟩ := open_int Tryz.underlying97 (hv 1 97 _ rfl rfl) h1
  obtain ⟨c, k2, w2⟩ := open_int Tryz.underlying96 (hv 2 96 _ rfl rfl) h2
  have m1 : IntKind.min .u16 = 0 ∧ IntKind.max .u16 = 65535 := by decide
  have m2 : IntKind.min .u32 = 0 ∧ IntKind.max .u32 = 4294967295 := by decide
  rw [m1.1, m1.2] at w0 w2
  rw [m2.1, m2.2] at w1
  obtain ⟨A, rfl⟩ : ∃ A : Nat, a = A := ⟨a.toNat, by omega⟩
  obtain ⟨B, rfl⟩ : ∃ B : Nat, b = B := ⟨b.toNat, by omega⟩
  obtain ⟨C, rfl⟩ : ∃ C : Nat, c = C := ⟨c.toNat, by omega⟩
  exact walk_cf3 (base_ok hL) rfl (lrel_cons k0 (lrel_cons k1 (lrel_cons k2 lrel_nil))) (c8 (by omega) (by omega) (by omega) Wf.empty)
end Go.Proofs.YtcepknnekgjneaaGreatDoor
