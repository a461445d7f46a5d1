/- The walk of FilterUndone; the frame of a card. -/
import Derived.Test.YtccdcekcbbpohaaGreatDoorA6
import Derived.Test.YtccdcekcbbpohaaGreatDoorW4
import Derived.Test.YtccdcekcbbpohaaGreatDoorCards
import Derived.Test.YtccdcekcbbpohaaGreatDoorTie
import Derived.Test.YtccdcekcbbpohaaGreatDoorC0
import Derived.Test.YtccdcekcbbpohaaGreatDoorS1
import Derived.Test.YtccdcekcbbpohaaGreatDoorK4
import Derived.Test.YtccdcekcbbpohaaGreatDoorL2
set_option linter.all false
namespace Go.Proofs.YtccdcekcbbpohaaGreatDoor
open Go Go.Ab Go.RowKit Go.ChangeShapes Go.WideShapes Go.ChangeAt

theorem own : ownKnob Tryz.prog.godebug = none := by kernel_rfl
theorem laidOut : laidOutB Tryz.prog = true := by kernel_rfl

/-- What a walk of the law must show: called with any readable arguments in a world that holds the tables. -/
def Walk (f : Nat) (fn : Func) (laid : List (String × DataW Unit)) : Prop :=
  ∀ (H : Type) (enc : TypeId × Value → H) (W : World) (base : Nat) (args : Array Value) (ds : List (DataW H)) (p : List MemPlace),
    (∀ (j : Nat) t v, fn.params[j]? = some t → args[j]? = some v → Value.okWide Tryz.prog W .any base t v) →
    DataW.TrodAll enc Tryz.prog W 0 (fun _ => true) true fn.params.toList args.toList ds p → laidMetH Tryz.prog laid W →
    Calls Tryz.prog f args W fun e W' => e = .returned (.bool true) ∧ Below W.heap.size W W'

/-- A WORLD FOR THE WITNESS: the settled one, the tables holding what their initialisers lay. -/
def laidObj (g : Nat) : Obj → Obj
  | .cells _ t frozen => .cells ⟨tabAt g⟩ t frozen
  | o => o
noncomputable def laidHeap (hp : Array Obj) : Array Obj := ((((hp.modify 0 (laidObj 0)).modify 1 (laidObj 1)).modify 4 (laidObj 4)).modify 5 (laidObj 5)).modify 6 (laidObj 6)
noncomputable def laidWorld (os : Os) : World :=
  { World.holding Tryz.prog os ⟨#[], #[], []⟩ with heap := laidHeap (World.holding Tryz.prog os ⟨#[], #[], []⟩).heap }
end Go.Proofs.YtccdcekcbbpohaaGreatDoor

/- Arguments that are lists, opened; from a contract to a walk. -/
namespace Go.Proofs.YtccdcekcbbpohaaGreatDoor
open Go Go.Ab Go.RowKit Go.ChangeShapes Go.WideShapes Go.ChangeAt
set_option maxRecDepth 10000
variable {H' : Type} {enc : TypeId × Value → H'} {w : World} {base : Nat} {sp : Nat → Bool} {held : Bool}
theorem tab_gd : ∀ k, (tabAt k).all gd = true := by
  intro k
  unfold tabAt
  split <;> decide +kernel
theorem laid_gd {a : Addr} {v : Value} (h : laidBase a = some v) : gd v = true := by
  unfold laidBase at h
  split at h
  · exact List.all_eq_true.1 (tab_gd _) v (List.mem_of_getElem? h)
  · cases h
theorem lrel_nil {ρ : Ctx} : LRel ρ [] [] := ⟨rfl, fun j v v' a _ => by simp at a⟩
theorem lrel_cons {ρ : Ctx} {v v' : Value} {l l' : List Value} (h : VRel ρ v v') (r : LRel ρ l l') : LRel ρ (v :: l) (v' :: l') := ⟨by simp [r.1], fun j a b q1 q2 => by
  cases j with
  | zero => simp at q1 q2; subst q1 q2; exact h
  | succ j => simp at q1 q2; exact r.2 j a b q1 q2⟩
theorem fl_read {fuel : Nat} {cs : List Value} {x : DataW H' × List MemPlace} (h : DataW.trod enc Tryz.prog w base sp held fuel 36 cs = some x) : ∃ y : Nat, True ∧ ∀ (j : Nat) u, ([Value.float .f32 y])[j]? = some u → ∃ z, cs[j]? = some z ∧ baseV z = some u := by
  obtain ⟨b, rfl, _⟩ := trod_float' Tryz.underlying36 h
  refine ⟨b, trivial, fun j u hj => ?_⟩
  match j, hj with
  | 0, hj => cases hj; exact ⟨_, rfl, rfl⟩
theorem laid_wbase2 {W : World} (hB : BaseOk W.heap.size laidBase W) : ∀ a v, laidBase a = some v → wbase2 W a = some v := fun a v h => by
  obtain ⟨_, _, u, q, r⟩ := hB.cell a v h
  have := r.gd_eq (laid_gd h)
  subst this
  exact wbase2_some q (baseV_gd (laid_gd h))
theorem walk_cf3 {W : World} (hB : BaseOk W.heap.size laidBase W) {f : Nat} (hf : extz f = none) {args args' : List Value} (hA : LRel (fun _ => none) args args') {Q : H → Prop}
    (hc : Cf (mz (wbase2 W)) (.func (.func f) #[] #[]) args H.empty fun v h' => v = .bool true ∧ Q h') : Calls Tryz.prog f args'.toArray W fun e W' => e = .returned (.bool true) ∧ Below W.heap.size W W' := by
  obtain ⟨v, h', ⟨N, hn⟩, rfl, _⟩ := hc
  exact calls_of_ev mixed (wbase2_ok W) (extz_sound (laid_wbase2 hB)) no_count hf (hn N (Nat.le_refl _)) hA rfl
theorem flat_sing {α : Type} (f : α → Value) (l : List α) : l.flatMap (fun y => [f y]) = l.map f := by
  induction l with
  | nil => rfl
  | cons a l ih => simp [List.flatMap_cons, ih]
theorem int_read {fuel : Nat} {cs : List Value} {x : DataW H' × List MemPlace} (h : DataW.trod enc Tryz.prog w base sp held fuel 3 cs = some x) : ∃ y : Int, True ∧ ∀ (j : Nat) u, ([Value.int .i64 y])[j]? = some u → ∃ z, cs[j]? = some z ∧ baseV z = some u := by
  obtain ⟨b, rfl, _⟩ := DataW.trod_int Tryz.underlying3 h
  refine ⟨b, trivial, fun j u hj => ?_⟩
  match j, hj with
  | 0, hj => cases hj; exact ⟨_, rfl, rfl⟩
theorem open_fl {r : Reach} {b0 : Nat} {v : Value} {d : DataW H'} {ps : List MemPlace} (hval : Value.okWide Tryz.prog w r b0 23 v) (hd : DataW.Trod enc Tryz.prog w base sp held 23 v d ps) :
    ∃ (a : Option Addr) (n c : Nat) (l : List Nat), VRel (fun _ => none) (.slice a n c) v ∧ Sl (wbase2 w) H.empty 1 (.slice a n c) n (l.map (.float .f32)) := by
  obtain ⟨v0, n, l, k, s, _⟩ := open_slN (fun y : Nat => [Value.float .f32 y]) (fun _ => True) (es := 1) (by omega) (fun _ => rfl) Tryz.underlying23 (by kernel_rfl) (fun _ _ _ _ q => fl_read q) hval hd
  rw [flat_sing] at s
  obtain ⟨a, c, rfl⟩ := s.form
  exact ⟨a, n, c, l, k, s⟩
theorem open_in {r : Reach} {b0 : Nat} {v : Value} {d : DataW H'} {ps : List MemPlace} (hval : Value.okWide Tryz.prog w r b0 22 v) (hd : DataW.Trod enc Tryz.prog w base sp held 22 v d ps) :
    ∃ (a : Option Addr) (n c : Nat) (l : List Int), VRel (fun _ => none) (.slice a n c) v ∧ Sl (wbase2 w) H.empty 1 (.slice a n c) n (l.map (.int .i64)) := by
  obtain ⟨v0, n, l, k, s, _⟩ := open_slN (fun y : Int => [Value.int .i64 y]) (fun _ => True) (es := 1) (by omega) (fun _ => rfl) Tryz.underlying22 (by kernel_rfl) (fun _ _ _ _ q => int_read q) hval hd
  rw [flat_sing] at s
  obtain ⟨a, c, rfl⟩ := s.form
  exact ⟨a, n, c, l, k, s⟩
end Go.Proofs.YtccdcekcbbpohaaGreatDoor

namespace Go.Proofs.YtccdcekcbbpohaaGreatDoor
open Go Go.Ab Go.RowKit Go.ChangeShapes Go.WideShapes Go.ChangeAt

set_option maxRecDepth 100000 in
theorem contract9 (walk : Walk 9 Tryz.f9 Rows.filterUndoneRow.laid) (H : Type) (enc : TypeId × Value → H) (W : World) (base : Nat) (args : Array Value) (ds gs : List (DataW H)) (before : List MemPlace)
    (hval : ∀ (j : Nat) t v, Tryz.f9.params[j]? = some t → args[j]? = some v → Value.okWide Tryz.prog W .any base t v)
    (hW : DataW.Whole enc Tryz.prog Tryz.f9.params.toList Rows.filterUndoneSpec.vars false W args.toList ds gs before) (hL : laidMetH Tryz.prog Rows.filterUndoneRow.laid W) :
    Calls Tryz.prog 9 args W fun e W' => ∃ v, e = .returned v ∧ Rows.filterUndoneSpec.post enc Tryz.prog Tryz.f9 false true false false W args v W' := by
  have hW' := hW
  obtain ⟨p, q, hA0, hV, rfl, hfz, hnd⟩ := hW
  have hA : DataW.TrodAll enc Tryz.prog W 0 (fun _ => true) true Tryz.f9.params.toList args.toList ds p := hA0
  obtain ⟨rfl, rfl⟩ := trodVars_none hV
  refine (walk H enc W base args ds p hval hA hL).mono fun e W' ⟨he, hb⟩ => ?_
  subst he
  refine ⟨_, rfl, law_post laidOut (by kernel_rfl) rfl (tb := 4) (by kernel_rfl) (by kernel_rfl) ?_ hW' hb⟩
  have hp : Tryz.f9.params.toList = [22, 23, 5] := by kernel_rfl
  rw [hp] at hA
  obtain ⟨v0, vs0, d0, ds0, p0, q0, hargs, rfl, rfl, h0, r0⟩ := trodAll_cons hA
  obtain ⟨v1, vs1, d1, ds1, p1, q1, rfl, rfl, rfl, h1, r1⟩ := trodAll_cons r0
  obtain ⟨v2, vs2, d2, ds2, p2, q2, rfl, rfl, rfl, h2, r2⟩ := trodAll_cons r1
  obtain ⟨rfl, rfl, rfl⟩ := trodAll_nil r2
  rfl
def witArgs9 : Array Value := #[.slice none 0 0, .slice none 0 0, .int .u8 0]
set_option maxRecDepth 100000 in
theorem laid_met9 (os : Os) : laidMet Tryz.prog Rows.filterUndoneRow.laid ((laidWorld os).forCall (fun _ _ => 0) ⟨#[], witArgs9, []⟩).memory :=
  laidMet_of_run' 8 (by kernel_rfl) (by kernel_rfl)
set_option maxRecDepth 100000 in
theorem reads9 (os : Os) {H : Type} (enc : TypeId × Value → H) : ∃ d places, DataW.whole enc Tryz.prog ((laidWorld os).forCall (fun _ _ => 0) ⟨#[], witArgs9, []⟩).memory Tryz.f9.params.toList Rows.filterUndoneSpec.vars false witArgs9.toList 8 = some (d, [], places) :=
  ⟨[.nil, .nil, .lit (.int .u8 0)], [], by kernel_rfl⟩
set_option maxRecDepth 100000 in
theorem lifted9 (walk : Walk 9 Tryz.f9 Rows.filterUndoneRow.laid) (os : Os) (started : os.Started) (H : Type) (enc : TypeId × Value → H) (F : Stop.Interp) :
    ReturnsInHanded {} Tryz.checked os 9 .any ((OpenSpec.ofChange Rows.filterUndoneSpec).preRow enc Tryz.prog Tryz.f9 Rows.filterUndoneRow.domain false Rows.filterUndoneRow.laid) (((OpenSpec.ofChange Rows.filterUndoneSpec).at F).post enc Tryz.prog Tryz.f9 false true false false) := by
  obtain ⟨d, places, hx⟩ := reads9 os enc
  refine returnsInHanded_of_row (C := Tryz.checked) (s := OpenSpec.ofChange Rows.filterUndoneSpec) own started (by kernel_rfl) Tryz.func9
    (witness_row_at (enc := enc) (C := Tryz.checked) false (laidWorld os) witArgs9 rfl (by kernel_rfl) (by kernel_rfl) (by kernel_rfl)
      (OpenSpec.preRow_of_cond 8 hx (by kernel_rfl) (fun k hk => by cases hk) (by kernel_rfl) (laid_met9 os))) ?_
  intro W base args ds gs before hval hW _ _ _ hL _ _
  exact contract9 walk H enc W base args ds gs before hval hW hL
end Go.Proofs.YtccdcekcbbpohaaGreatDoor

/- The walk of FilterUndone, from its contract. -/
namespace Go.Proofs.YtccdcekcbbpohaaGreatDoor
open Go Go.Ab Go.RowKit Go.ChangeShapes Go.WideShapes Go.ChangeAt
set_option maxRecDepth 10000
variable {H' : Type} {enc : TypeId × Value → H'} {w : World} {base : Nat} {sp : Nat → Bool} {held : Bool}
theorem open_int {t : TypeId} {k : IntKind} (hu : Tryz.prog.underlying t = some (.int k)) {r : Reach} {b0 : Nat} {v : Value} {d : DataW H'} {ps : List MemPlace} (hval : Value.okWide Tryz.prog w r b0 t v) (hd : DataW.Trod enc Tryz.prog w base sp held t v d ps) :
    ∃ z : Int, VRel (fun _ => none) (.int k z) v ∧ k.min ≤ z ∧ z ≤ k.max := by
  have hv : ∃ k z, v = .int k z := by
    simp only [Value.okWide, hu, Cell.okWide] at hval
    cases v <;> simp_all [Cell.ok]
  obtain ⟨k', z, rfl⟩ := hv
  obtain ⟨fuel, hf⟩ := hd
  have hf : DataW.trod enc Tryz.prog w base sp held fuel t [.int k' z] = some (d, ps) := hf
  obtain ⟨y, e, _, hw⟩ := DataW.trod_int hu hf
  cases e
  have hw' : k.min ≤ z ∧ z ≤ k.max := by simpa [Lit.wf] using hw
  exact ⟨z, VRel.gd_refl rfl, hw'⟩
theorem walk9 : Walk 9 Tryz.f9 Rows.filterUndoneRow.laid := by
  intro H enc W base args ds p hval hA hL
  have hp : Tryz.f9.params.toList = [22, 23, 5] := by kernel_rfl
  have hv : ∀ (j : Nat) t v, [22, 23, 5][j]? = some t → args.toList[j]? = some v → Value.okWide Tryz.prog W .any base t v := fun j t v h1 h2 => hval j t v (by rw [← hp] at h1; simpa using h1) (by simpa using h2)
  rw [hp] at hA
  obtain ⟨al⟩ := args
  simp only at hA hv
  obtain ⟨v0, vs0, d0, ds0, p0, q0, rfl, rfl, rfl, h0, r0⟩ := trodAll_cons hA
  obtain ⟨v1, vs1, d1, ds1, p1, q1, rfl, rfl, rfl, h1, r1⟩ := trodAll_cons r0
  obtain ⟨v2, vs2, d2, ds2, p2, q2, rfl, rfl, rfl, h2, r2⟩ := trodAll_cons r1
  obtain ⟨rfl, rfl, rfl⟩ := trodAll_nil r2
  obtain ⟨a, m, c, t, k0, s⟩ := open_in (hv 0 22 _ rfl rfl) h0
  obtain ⟨b, n, e, l, k1, u⟩ := open_fl (hv 1 23 _ rfl rfl) h1
  obtain ⟨x, k2, w2⟩ := open_int Tryz.underlying5 (hv 2 5 _ rfl rfl) h2
  have m1 : IntKind.min .u8 = 0 ∧ IntKind.max .u8 = 255 := by decide
  rw [m1.1, m1.2] at w2
  obtain ⟨X, rfl⟩ : ∃ X : Nat, x = X := ⟨x.toNat, by omega⟩
  exact walk_cf3 (base_ok hL) rfl (lrel_cons k0 (lrel_cons k1 (lrel_cons k2 lrel_nil))) (c9 s u (by omega) Wf.empty (laid_wbase2 (base_ok hL)))
end Go.Proofs.YtccdcekcbbpohaaGreatDoor
