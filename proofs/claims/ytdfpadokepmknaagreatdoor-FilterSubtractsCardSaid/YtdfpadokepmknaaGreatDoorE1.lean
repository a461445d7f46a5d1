/- The walk of FilterSubtracts; the frame of a card. -/
import Derived.Test.YtdfpadokepmknaaGreatDoorA6
import Derived.Test.YtdfpadokepmknaaGreatDoorW4
import Derived.Test.YtdfpadokepmknaaGreatDoorCards
import Derived.Test.YtdfpadokepmknaaGreatDoorTie
import Derived.Test.YtdfpadokepmknaaGreatDoorC0
import Derived.Test.YtdfpadokepmknaaGreatDoorS1
import Derived.Test.YtdfpadokepmknaaGreatDoorK4
import Derived.Test.YtdfpadokepmknaaGreatDoorL2
set_option linter.all false
namespace Go.Proofs.YtdfpadokepmknaaGreatDoor
open Go Go.Ab Go.RowKit Go.ChangeShapes Go.WideShapes Go.ChangeAt

theorem own : ownKnob Tryz.prog.godebug = none := by kernel_rfl
theorem laidOut : laidOutB Tryz.prog = true := by kernel_rfl

/-- What a walk of the law must show: called with any readable arguments in a world that holds the tables. -/
def Walk (f : Nat) (fn : Func) (laid : List (String × DataW Unit)) : Prop :=
  ∀ (H : Type) (enc : TypeId × Value → H) (W : World) (base : Nat) (args : Array Value) (ds : List (DataW H)) (p : List MemPlace),
    (∀ (j : Nat) t v, fn.params[j]? = some t → args[j]? = some v → Value.okWide Tryz.prog W .any base t v) →
    DataW.TrodAll enc Tryz.prog W 0 (fun _ => true) true fn.params.toList args.toList ds p → laidMetH Tryz.prog laid W →
    Calls Tryz.prog f args W fun e W' => e = .returned (.bool true) ∧ Below W.heap.size W W'

/-- A WORLD FOR THE WITNESS: the settled one, the tables holding what their initialisers lay. -/
def laidObj (g : Nat) : Obj → Obj
  | .cells _ t frozen => .cells ⟨tabAt g⟩ t frozen
  | o => o
noncomputable def laidHeap (hp : Array Obj) : Array Obj := ((((hp.modify 0 (laidObj 0)).modify 1 (laidObj 1)).modify 4 (laidObj 4)).modify 5 (laidObj 5)).modify 6 (laidObj 6)
noncomputable def laidWorld (os : Os) : World :=
  { World.holding Tryz.prog os ⟨#[], #[], []⟩ with heap := laidHeap (World.holding Tryz.prog os ⟨#[], #[], []⟩).heap }
end Go.Proofs.YtdfpadokepmknaaGreatDoor

/- Arguments that are lists, opened; from a contract to a walk. -/
namespace Go.Proofs.YtdfpadokepmknaaGreatDoor
open Go Go.Ab Go.RowKit Go.ChangeShapes Go.WideShapes Go.ChangeAt
set_option maxRecDepth 10000
variable {H' : Type} {enc : TypeId × Value → H'} {w : World} {base : Nat} {sp : Nat → Bool} {held : Bool}
theorem lrel_refl {ρ : Ctx} {l : List Value} (h : l.all gd = true) : LRel ρ l l := ⟨rfl, fun j v v' a b => by
  rw [a] at b; cases b
  exact VRel.gd_refl (List.all_eq_true.1 h v (List.mem_of_getElem? a))⟩
theorem tab_gd : ∀ k, (tabAt k).all gd = true := by
  intro k
  unfold tabAt
  split <;> decide +kernel
theorem laid_gd {a : Addr} {v : Value} (h : laidBase a = some v) : gd v = true := by
  unfold laidBase at h
  split at h
  · exact List.all_eq_true.1 (tab_gd _) v (List.mem_of_getElem? h)
  · cases h
theorem lrel_nil {ρ : Ctx} : LRel ρ [] [] := ⟨rfl, fun j v v' a _ => by simp at a⟩
theorem lrel_cons {ρ : Ctx} {v v' : Value} {l l' : List Value} (h : VRel ρ v v') (r : LRel ρ l l') : LRel ρ (v :: l) (v' :: l') := ⟨by simp [r.1], fun j a b q1 q2 => by
  cases j with
  | zero => simp at q1 q2; subst q1 q2; exact h
  | succ j => simp at q1 q2; exact r.2 j a b q1 q2⟩
theorem fl_read {fuel : Nat} {cs : List Value} {x : DataW H' × List MemPlace} (h : DataW.trod enc Tryz.prog w base sp held fuel 36 cs = some x) : ∃ y : Nat, True ∧ ∀ (j : Nat) u, ([Value.float .f32 y])[j]? = some u → ∃ z, cs[j]? = some z ∧ baseV z = some u := by
  obtain ⟨b, rfl, _⟩ := trod_float' Tryz.underlying36 h
  refine ⟨b, trivial, fun j u hj => ?_⟩
  match j, hj with
  | 0, hj => cases hj; exact ⟨_, rfl, rfl⟩
theorem laid_wbase2 {W : World} (hB : BaseOk W.heap.size laidBase W) : ∀ a v, laidBase a = some v → wbase2 W a = some v := fun a v h => by
  obtain ⟨_, _, u, q, r⟩ := hB.cell a v h
  have := r.gd_eq (laid_gd h)
  subst this
  exact wbase2_some q (baseV_gd (laid_gd h))
theorem walk_cf3 {W : World} (hB : BaseOk W.heap.size laidBase W) {f : Nat} (hf : extz f = none) {args args' : List Value} (hA : LRel (fun _ => none) args args') {Q : H → Prop}
    (hc : Cf (mz (wbase2 W)) (.func (.func f) #[] #[]) args H.empty fun v h' => v = .bool true ∧ Q h') : Calls Tryz.prog f args'.toArray W fun e W' => e = .returned (.bool true) ∧ Below W.heap.size W W' := by
  obtain ⟨v, h', ⟨N, hn⟩, rfl, _⟩ := hc
  exact calls_of_ev mixed (wbase2_ok W) (extz_sound (laid_wbase2 hB)) no_count hf (hn N (Nat.le_refl _)) hA rfl
theorem flat_sing {α : Type} (f : α → Value) (l : List α) : l.flatMap (fun y => [f y]) = l.map f := by
  induction l with
  | nil => rfl
  | cons a l ih => simp [List.flatMap_cons, ih]
theorem int_read {fuel : Nat} {cs : List Value} {x : DataW H' × List MemPlace} (h : DataW.trod enc Tryz.prog w base sp held fuel 3 cs = some x) : ∃ y : Int, True ∧ ∀ (j : Nat) u, ([Value.int .i64 y])[j]? = some u → ∃ z, cs[j]? = some z ∧ baseV z = some u := by
  obtain ⟨b, rfl, _⟩ := DataW.trod_int Tryz.underlying3 h
  refine ⟨b, trivial, fun j u hj => ?_⟩
  match j, hj with
  | 0, hj => cases hj; exact ⟨_, rfl, rfl⟩
theorem open_fl {r : Reach} {b0 : Nat} {v : Value} {d : DataW H'} {ps : List MemPlace} (hval : Value.okWide Tryz.prog w r b0 23 v) (hd : DataW.Trod enc Tryz.prog w base sp held 23 v d ps) :
    ∃ (a : Option Addr) (n c : Nat) (l : List Nat), VRel (fun _ => none) (.slice a n c) v ∧ Sl (wbase2 w) H.empty 1 (.slice a n c) n (l.map (.float .f32)) := by
  obtain ⟨v0, n, l, k, s, _⟩ := open_slN (fun y : Nat => [Value.float .f32 y]) (fun _ => True) (es := 1) (by omega) (fun _ => rfl) Tryz.underlying23 (by kernel_rfl) (fun _ _ _ _ q => fl_read q) hval hd
  rw [flat_sing] at s
  obtain ⟨a, c, rfl⟩ := s.form
  exact ⟨a, n, c, l, k, s⟩
/-- Parts of an array, each by itself. -/
theorem trod_arr {P : Program} {t e : TypeId} {n : Nat} {fuel : Nat} {cs : List Value} {x : DataW H' × List MemPlace} (ht : P.underlying t = some (.array n e)) (hce : P.cellsOf e = 1)
    (h : DataW.trod enc P w base sp held fuel t cs = some x) : cs.length = P.cellsOf t ∧ ∃ fuel', ∀ i, i < n → ∃ y, DataW.trod enc P w base sp held fuel' e ((cs.drop i).take 1) = some y := by
  cases fuel with
  | zero => simp [DataW.trod] at h
  | succ m =>
    simp only [DataW.trod, ht] at h
    split at h
    · rename_i hl
      obtain ⟨xs, hm, _⟩ := Option.map_eq_some_iff.1 h
      refine ⟨hl, m, fun i hi => ?_⟩
      obtain ⟨y, q⟩ := Go.Ab.mapM_each hm i (List.mem_range.2 hi)
      rw [hce, Nat.mul_one] at q
      exact ⟨y, q⟩
    · cases h
theorem open_in {r : Reach} {b0 : Nat} {v : Value} {d : DataW H'} {ps : List MemPlace} (hval : Value.okWide Tryz.prog w r b0 22 v) (hd : DataW.Trod enc Tryz.prog w base sp held 22 v d ps) :
    ∃ (a : Option Addr) (n c : Nat) (l : List Int), VRel (fun _ => none) (.slice a n c) v ∧ Sl (wbase2 w) H.empty 1 (.slice a n c) n (l.map (.int .i64)) := by
  obtain ⟨v0, n, l, k, s, _⟩ := open_slN (fun y : Int => [Value.int .i64 y]) (fun _ => True) (es := 1) (by omega) (fun _ => rfl) Tryz.underlying22 (by kernel_rfl) (fun _ _ _ _ q => int_read q) hval hd
  rw [flat_sing] at s
  obtain ⟨a, c, rfl⟩ := s.form
  exact ⟨a, n, c, l, k, s⟩
theorem open_two {r : Reach} {b0 : Nat} {v : Value} {d : DataW H'} {ps : List MemPlace} (hval : Value.okWide Tryz.prog w r b0 24 v) (hd : DataW.Trod enc Tryz.prog w base sp held 24 v d ps) :
    ∃ (a1 a2 : Option Addr) (n1 c1 n2 c2 : Nat) (l1 l2 : List Nat), VRel (fun _ => none) (.agg ⟨[.slice a1 n1 c1, .slice a2 n2 c2]⟩) v ∧ Sl (wbase2 w) H.empty 1 (.slice a1 n1 c1) n1 (l1.map (.float .f32)) ∧ Sl (wbase2 w) H.empty 1 (.slice a2 n2 c2) n2 (l2.map (.float .f32)) := by
  have hv : ∃ cs : List Value, v = .agg ⟨cs⟩ := by
    simp only [Value.okWide, Tryz.underlying24] at hval
    obtain ⟨⟨cs⟩, rfl, _⟩ := hval
    exact ⟨cs, rfl⟩
  obtain ⟨cs, rfl⟩ := hv
  obtain ⟨fuel, hf⟩ := hd
  have hf : DataW.trod enc Tryz.prog w base sp held fuel 24 cs = some (d, ps) := hf
  have c25 : Tryz.prog.cellsOf 23 = 1 := by kernel_rfl
  have c24 : Tryz.prog.cellsOf 24 = 2 := by kernel_rfl
  obtain ⟨hl, fu, hp⟩ := trod_arr Tryz.underlying24 c25 hf
  rw [c24] at hl
  obtain ⟨y0, k0⟩ := hp 0 (by omega)
  obtain ⟨y1, k1⟩ := hp 1 (by omega)
  obtain ⟨u0, v0, n0, l0, g0, r0, s0, _⟩ := trod_slN (fun y : Nat => [Value.float .f32 y]) (fun _ => True) (es := 1) (by omega) (fun _ => rfl) Tryz.underlying23 (by kernel_rfl) (fun _ _ _ _ q => fl_read q) k0
  obtain ⟨u1, v1, n1, l1, g1, r1, s1, _⟩ := trod_slN (fun y : Nat => [Value.float .f32 y]) (fun _ => True) (es := 1) (by omega) (fun _ => rfl) Tryz.underlying23 (by kernel_rfl) (fun _ _ _ _ q => fl_read q) k1
  rw [flat_sing] at s0 s1
  obtain ⟨a0, c0, rfl⟩ := s0.form
  obtain ⟨a1, c1, rfl⟩ := s1.form
  match cs, hl with
  | [x0, x1], _ =>
    simp at g0 g1
    subst g0 g1
    refine ⟨a0, a1, n0, c0, n1, c1, l0, l1, .agg _ _ rfl fun j u u' h1 h2 => ?_, s0, s1⟩
    match j, h1, h2 with
    | 0, h1, h2 => cases h1; cases h2; exact baseV_rel r0
    | 1, h1, h2 => cases h1; cases h2; exact baseV_rel r1
end Go.Proofs.YtdfpadokepmknaaGreatDoor

namespace Go.Proofs.YtdfpadokepmknaaGreatDoor
open Go Go.Ab Go.RowKit Go.ChangeShapes Go.WideShapes Go.ChangeAt

set_option maxRecDepth 100000 in
theorem contract6 (walk : Walk 6 Tryz.f6 Rows.filterSubtractsRow.laid) (H : Type) (enc : TypeId × Value → H) (W : World) (base : Nat) (args : Array Value) (ds gs : List (DataW H)) (before : List MemPlace)
    (hval : ∀ (j : Nat) t v, Tryz.f6.params[j]? = some t → args[j]? = some v → Value.okWide Tryz.prog W .any base t v)
    (hW : DataW.Whole enc Tryz.prog Tryz.f6.params.toList Rows.filterSubtractsSpec.vars false W args.toList ds gs before) (hL : laidMetH Tryz.prog Rows.filterSubtractsRow.laid W) :
    Calls Tryz.prog 6 args W fun e W' => ∃ v, e = .returned v ∧ Rows.filterSubtractsSpec.post enc Tryz.prog Tryz.f6 false true false false W args v W' := by
  have hW' := hW
  obtain ⟨p, q, hA0, hV, rfl, hfz, hnd⟩ := hW
  have hA : DataW.TrodAll enc Tryz.prog W 0 (fun _ => true) true Tryz.f6.params.toList args.toList ds p := hA0
  obtain ⟨rfl, rfl⟩ := trodVars_none hV
  refine (walk H enc W base args ds p hval hA hL).mono fun e W' ⟨he, hb⟩ => ?_
  subst he
  refine ⟨_, rfl, law_post laidOut (by kernel_rfl) rfl (tb := 4) (by kernel_rfl) (by kernel_rfl) ?_ hW' hb⟩
  have hp : Tryz.f6.params.toList = [23, 23] := by kernel_rfl
  rw [hp] at hA
  obtain ⟨v0, vs0, d0, ds0, p0, q0, hargs, rfl, rfl, h0, r0⟩ := trodAll_cons hA
  obtain ⟨v1, vs1, d1, ds1, p1, q1, rfl, rfl, rfl, h1, r1⟩ := trodAll_cons r0
  obtain ⟨rfl, rfl, rfl⟩ := trodAll_nil r1
  rfl
def witArgs6 : Array Value := #[.slice none 0 0, .slice none 0 0]
set_option maxRecDepth 100000 in
theorem laid_met6 (os : Os) : laidMet Tryz.prog Rows.filterSubtractsRow.laid ((laidWorld os).forCall (fun _ _ => 0) ⟨#[], witArgs6, []⟩).memory :=
  laidMet_of_run' 8 (by kernel_rfl) (by kernel_rfl)
set_option maxRecDepth 100000 in
theorem reads6 (os : Os) {H : Type} (enc : TypeId × Value → H) : ∃ d places, DataW.whole enc Tryz.prog ((laidWorld os).forCall (fun _ _ => 0) ⟨#[], witArgs6, []⟩).memory Tryz.f6.params.toList Rows.filterSubtractsSpec.vars false witArgs6.toList 8 = some (d, [], places) :=
  ⟨[.nil, .nil], [], by kernel_rfl⟩
set_option maxRecDepth 100000 in
theorem lifted6 (walk : Walk 6 Tryz.f6 Rows.filterSubtractsRow.laid) (os : Os) (started : os.Started) (H : Type) (enc : TypeId × Value → H) (F : Stop.Interp) :
    ReturnsInHanded {} Tryz.checked os 6 .any ((OpenSpec.ofChange Rows.filterSubtractsSpec).preRow enc Tryz.prog Tryz.f6 Rows.filterSubtractsRow.domain false Rows.filterSubtractsRow.laid) (((OpenSpec.ofChange Rows.filterSubtractsSpec).at F).post enc Tryz.prog Tryz.f6 false true false false) := by
  obtain ⟨d, places, hx⟩ := reads6 os enc
  refine returnsInHanded_of_row (C := Tryz.checked) (s := OpenSpec.ofChange Rows.filterSubtractsSpec) own started (by kernel_rfl) Tryz.func6
    (witness_row_at (enc := enc) (C := Tryz.checked) false (laidWorld os) witArgs6 rfl (by kernel_rfl) (by kernel_rfl) (by kernel_rfl)
      (OpenSpec.preRow_of_cond 8 hx (by kernel_rfl) (fun k hk => by cases hk) (by kernel_rfl) (laid_met6 os))) ?_
  intro W base args ds gs before hval hW _ _ _ hL _ _
  exact contract6 walk H enc W base args ds gs before hval hW hL
end Go.Proofs.YtdfpadokepmknaaGreatDoor

/- The walk of FilterSubtracts, from its contract. -/
namespace Go.Proofs.YtdfpadokepmknaaGreatDoor
open Go Go.Ab Go.RowKit Go.ChangeShapes Go.WideShapes Go.ChangeAt
set_option maxRecDepth 10000
theorem walk6 : Walk 6 Tryz.f6 Rows.filterSubtractsRow.laid := by
  intro H enc W base args ds p hval hA hL
  have hp : Tryz.f6.params.toList = [23, 23] := by kernel_rfl
  have hv : ∀ (j : Nat) t v, [23, 23][j]? = some t → args.toList[j]? = some v → Value.okWide Tryz.prog W .any base t v := fun j t v h1 h2 => hval j t v (by rw [← hp] at h1; simpa using h1) (by simpa using h2)
  rw [hp] at hA
  obtain ⟨al⟩ := args
  simp only at hA hv
  obtain ⟨v0, vs0, d0, ds0, p0, q0, rfl, rfl, rfl, h0, r0⟩ := trodAll_cons hA
  obtain ⟨v1, vs1, d1, ds1, p1, q1, rfl, rfl, rfl, h1, r1⟩ := trodAll_cons r0
  obtain ⟨rfl, rfl, rfl⟩ := trodAll_nil r1
  obtain ⟨a, n, c, l, k0, s⟩ := open_fl (hv 0 23 _ rfl rfl) h0
  obtain ⟨a2, m, c2, l2, k1, u⟩ := open_fl (hv 1 23 _ rfl rfl) h1
  exact walk_cf3 (base_ok hL) rfl (lrel_cons k0 (lrel_cons k1 lrel_nil)) (c6 s u Wf.empty (laid_wbase2 (base_ok hL)))
end Go.Proofs.YtdfpadokepmknaaGreatDoor
