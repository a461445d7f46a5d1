/- The walk of SurveyDifferences; the frame of a card. -/
import Derived.Test.YtepomgdlihoipaaGreatDoorA6
import Derived.Test.YtepomgdlihoipaaGreatDoorW4
import Derived.Test.YtepomgdlihoipaaGreatDoorCards
import Derived.Test.YtepomgdlihoipaaGreatDoorTie
import Derived.Test.YtepomgdlihoipaaGreatDoorS1
import Derived.Test.YtepomgdlihoipaaGreatDoorK4
import Derived.Test.YtepomgdlihoipaaGreatDoorL1
set_option linter.all false
namespace Go.Proofs.YtepomgdlihoipaaGreatDoor
open Go Go.Ab Go.RowKit Go.ChangeShapes Go.WideShapes Go.ChangeAt

theorem own : ownKnob Tryz.prog.godebug = none := by kernel_rfl
theorem laidOut : laidOutB Tryz.prog = true := by kernel_rfl

/-- What a walk of the law must show: called with any readable arguments in a world that holds the tables. -/
def Walk (f : Nat) (fn : Func) (laid : List (String × DataW Unit)) : Prop :=
  ∀ (H : Type) (enc : TypeId × Value → H) (W : World) (base : Nat) (args : Array Value) (ds : List (DataW H)) (p : List MemPlace),
    (∀ (j : Nat) t v, fn.params[j]? = some t → args[j]? = some v → Value.okWide Tryz.prog W .any base t v) →
    DataW.TrodAll enc Tryz.prog W 0 (fun _ => true) true fn.params.toList args.toList ds p → laidMetH Tryz.prog laid W →
    Calls Tryz.prog f args W fun e W' => e = .returned (.bool true) ∧ Below W.heap.size W W'

/-- A WORLD FOR THE WITNESS: the settled one, the tables holding what their initialisers lay. -/
def laidObj (g : Nat) : Obj → Obj
  | .cells _ t frozen => .cells ⟨tabAt g⟩ t frozen
  | o => o
noncomputable def laidHeap (hp : Array Obj) : Array Obj := (((hp.modify 1 (laidObj 1)).modify 2 (laidObj 2)).modify 3 (laidObj 3))
noncomputable def laidWorld (os : Os) : World :=
  { World.holding Tryz.prog os ⟨#[], #[], []⟩ with heap := laidHeap (World.holding Tryz.prog os ⟨#[], #[], []⟩).heap }
end Go.Proofs.YtepomgdlihoipaaGreatDoor

/- Arguments opened; from a contract to a walk. -/
namespace Go.Proofs.YtepomgdlihoipaaGreatDoor
open Go Go.Ab Go.RowKit Go.ChangeShapes Go.WideShapes Go.ChangeAt
set_option maxRecDepth 10000
variable {H' : Type} {enc : TypeId × Value → H'} {w : World} {base : Nat} {sp : Nat → Bool} {held : Bool}
theorem tab_gd : ∀ k, (tabAt k).all gd = true := by
  intro k
  unfold tabAt
  split <;> decide +kernel
theorem laid_gd {a : Addr} {v : Value} (h : laidBase a = some v) : gd v = true := by
  unfold laidBase at h
  split at h
  · exact List.all_eq_true.1 (tab_gd _) v (List.mem_of_getElem? h)
  · cases h
theorem lrel_nil {ρ : Ctx} : LRel ρ [] [] := ⟨rfl, fun j v v' a _ => by simp at a⟩
theorem lrel_cons {ρ : Ctx} {v v' : Value} {l l' : List Value} (h : VRel ρ v v') (r : LRel ρ l l') : LRel ρ (v :: l) (v' :: l') := ⟨by simp [r.1], fun j a b q1 q2 => by
  cases j with
  | zero => simp at q1 q2; subst q1 q2; exact h
  | succ j => simp at q1 q2; exact r.2 j a b q1 q2⟩
theorem laid_wbase2 {W : World} (hB : BaseOk W.heap.size laidBase W) : ∀ a v, laidBase a = some v → wbase2 W a = some v := fun a v h => by
  obtain ⟨_, _, u, q, r⟩ := hB.cell a v h
  have := r.gd_eq (laid_gd h)
  subst this
  exact wbase2_some q (baseV_gd (laid_gd h))
theorem walk_cf3 {W : World} (hB : BaseOk W.heap.size laidBase W) {f : Nat} (hf : extz f = none) {args args' : List Value} (hA : LRel (fun _ => none) args args') {Q : H → Prop}
    (hc : Cf (mz (wbase2 W)) (.func (.func f) #[] #[]) args H.empty fun v h' => v = .bool true ∧ Q h') : Calls Tryz.prog f args'.toArray W fun e W' => e = .returned (.bool true) ∧ Below W.heap.size W W' := by
  obtain ⟨v, h', ⟨N, hn⟩, rfl, _⟩ := hc
  exact calls_of_ev mixed (wbase2_ok W) (extz_sound (laid_wbase2 hB)) no_count hf (hn N (Nat.le_refl _)) hA rfl
end Go.Proofs.YtepomgdlihoipaaGreatDoor

/- Invoices opened. -/
namespace Go.Proofs.YtepomgdlihoipaaGreatDoor
open Go Go.Ab Go.RowKit Go.ChangeShapes Go.WideShapes Go.ChangeAt
set_option maxRecDepth 10000
variable {H' : Type} {enc : TypeId × Value → H'} {w : World} {base : Nat} {sp : Nat → Bool} {held : Bool}
theorem one_int {fuel : Nat} {v : Value} {x : DataW H' × List MemPlace} (h : DataW.trod enc Tryz.prog w base sp held fuel 3 [v] = some x) : ∃ y : Int, v = .int .i64 y := by
  obtain ⟨b, e, _⟩ := DataW.trod_int Tryz.underlying3 h
  cases e
  exact ⟨b, rfl⟩
theorem open_agg {t : TypeId} {fs : Array Field} (hu : Tryz.prog.underlying t = some (.struct fs)) {n : Nat} (hn : Tryz.prog.cellsOf t = n) {r : Reach} {b0 : Nat} {v : Value} {d : DataW H'} {ps : List MemPlace} (hval : Value.okWide Tryz.prog w r b0 t v) (hd : DataW.Trod enc Tryz.prog w base sp held t v d ps) :
    ∃ (cs : List Value) (fuel : Nat), v = .agg ⟨cs⟩ ∧ cs.length = n ∧ DataW.trod enc Tryz.prog w base sp held fuel t cs = some (d, ps) := by
  have hv : ∃ cs : List Value, v = .agg ⟨cs⟩ := by
    simp only [Value.okWide, hu] at hval
    obtain ⟨⟨cs⟩, rfl, _⟩ := hval
    exact ⟨cs, rfl⟩
  obtain ⟨cs, rfl⟩ := hv
  obtain ⟨fuel, hf⟩ := hd
  have hf : DataW.trod enc Tryz.prog w base sp held fuel t cs = some (d, ps) := hf
  obtain ⟨hl, hff⟩ := trod_fields hu hf
  exact ⟨cs, fuel, rfl, hl.trans hn, hf⟩
/-- Parts of an array, each by itself. -/
theorem trod_arr {P : Program} {t e : TypeId} {n : Nat} {fuel : Nat} {cs : List Value} {x : DataW H' × List MemPlace} (ht : P.underlying t = some (.array n e)) (hce : P.cellsOf e = 1)
    (h : DataW.trod enc P w base sp held fuel t cs = some x) : cs.length = P.cellsOf t ∧ ∃ fuel', ∀ i, i < n → ∃ y, DataW.trod enc P w base sp held fuel' e ((cs.drop i).take 1) = some y := by
  cases fuel with
  | zero => simp [DataW.trod] at h
  | succ m =>
    simp only [DataW.trod, ht] at h
    split at h
    · rename_i hl
      obtain ⟨xs, hm, _⟩ := Option.map_eq_some_iff.1 h
      refine ⟨hl, m, fun i hi => ?_⟩
      obtain ⟨y, q⟩ := Go.Ab.mapM_each hm i (List.mem_range.2 hi)
      rw [hce, Nat.mul_one] at q
      exact ⟨y, q⟩
    · cases h
theorem open_inv {r : Reach} {b0 : Nat} {v : Value} {d : DataW H'} {ps : List MemPlace} (hval : Value.okWide Tryz.prog w r b0 24 v) (hd : DataW.Trod enc Tryz.prog w base sp held 24 v d ps) :
    ∃ a0 a1 a2 a3 a4 a5 a6 a7 : Int, VRel (fun _ => none) (.agg ⟨[.int .i64 a0, .int .i64 a1, .int .i64 a2, .int .i64 a3, .int .i64 a4, .int .i64 a5, .int .i64 a6, .int .i64 a7]⟩) v := by
  obtain ⟨cs, fuel, rfl, hl, hf⟩ := open_agg Tryz.underlying24 (n := 8) (by kernel_rfl) hval hd
  obtain ⟨_, hff⟩ := trod_fields Tryz.underlying24 hf
  have kc22 : Tryz.prog.cellsOf 22 = 6 := by kernel_rfl
  have kc3 : Tryz.prog.cellsOf 3 = 1 := by kernel_rfl
  match cs, hl with
  | [z0, z1, z2, z3, z4, z5, z6, z7], _ =>
    simp only [List.mem_cons, List.not_mem_nil, or_false, forall_eq_or_imp, forall_eq, kc3, kc22] at hff
    obtain ⟨⟨f0, y0, k0⟩, ⟨f1, y1, k1⟩, ⟨f2, y2, k2⟩⟩ := hff
    obtain ⟨hl2, fu, hp⟩ := trod_arr Tryz.underlying22 kc3 k0
    obtain ⟨u0, j0⟩ := hp 0 (by omega)
    obtain ⟨u1, j1⟩ := hp 1 (by omega)
    obtain ⟨u2, j2⟩ := hp 2 (by omega)
    obtain ⟨u3, j3⟩ := hp 3 (by omega)
    obtain ⟨u4, j4⟩ := hp 4 (by omega)
    obtain ⟨u5, j5⟩ := hp 5 (by omega)
    obtain ⟨a0, rfl⟩ := one_int j0
    obtain ⟨a1, rfl⟩ := one_int j1
    obtain ⟨a2, rfl⟩ := one_int j2
    obtain ⟨a3, rfl⟩ := one_int j3
    obtain ⟨a4, rfl⟩ := one_int j4
    obtain ⟨a5, rfl⟩ := one_int j5
    obtain ⟨a6, rfl⟩ := one_int k1
    obtain ⟨a7, rfl⟩ := one_int k2
    exact ⟨a0, a1, a2, a3, a4, a5, a6, a7, VRel.gd_refl rfl⟩
end Go.Proofs.YtepomgdlihoipaaGreatDoor

namespace Go.Proofs.YtepomgdlihoipaaGreatDoor
open Go Go.Ab Go.RowKit Go.ChangeShapes Go.WideShapes Go.ChangeAt

set_option maxRecDepth 100000 in
theorem contract3 (walk : Walk 3 Tryz.f3 Rows.surveyDifferencesRow.laid) (H : Type) (enc : TypeId × Value → H) (W : World) (base : Nat) (args : Array Value) (ds gs : List (DataW H)) (before : List MemPlace)
    (hval : ∀ (j : Nat) t v, Tryz.f3.params[j]? = some t → args[j]? = some v → Value.okWide Tryz.prog W .any base t v)
    (hW : DataW.Whole enc Tryz.prog Tryz.f3.params.toList Rows.surveyDifferencesSpec.vars false W args.toList ds gs before) (hL : laidMetH Tryz.prog Rows.surveyDifferencesRow.laid W) :
    Calls Tryz.prog 3 args W fun e W' => ∃ v, e = .returned v ∧ Rows.surveyDifferencesSpec.post enc Tryz.prog Tryz.f3 false true false false W args v W' := by
  have hW' := hW
  obtain ⟨p, q, hA0, hV, rfl, hfz, hnd⟩ := hW
  have hA : DataW.TrodAll enc Tryz.prog W 0 (fun _ => true) true Tryz.f3.params.toList args.toList ds p := hA0
  obtain ⟨rfl, rfl⟩ := trodVars_none hV
  refine (walk H enc W base args ds p hval hA hL).mono fun e W' ⟨he, hb⟩ => ?_
  subst he
  refine ⟨_, rfl, law_post laidOut (by kernel_rfl) rfl (tb := 4) (by kernel_rfl) (by kernel_rfl) ?_ hW' hb⟩
  have hp : Tryz.f3.params.toList = [24, 24] := by kernel_rfl
  rw [hp] at hA
  obtain ⟨v0, vs0, d0, ds0, p0, q0, hargs, rfl, rfl, h0, r0⟩ := trodAll_cons hA
  obtain ⟨v1, vs1, d1, ds1, p1, q1, rfl, rfl, rfl, h1, r1⟩ := trodAll_cons r0
  obtain ⟨rfl, rfl, rfl⟩ := trodAll_nil r1
  rfl
def witArgs3 : Array Value := #[.agg #[.int .i64 0, .int .i64 0, .int .i64 0, .int .i64 0, .int .i64 0, .int .i64 0, .int .i64 0, .int .i64 0], .agg #[.int .i64 0, .int .i64 0, .int .i64 0, .int .i64 0, .int .i64 0, .int .i64 0, .int .i64 0, .int .i64 0]]
set_option maxRecDepth 100000 in
theorem laid_met3 (os : Os) : laidMet Tryz.prog Rows.surveyDifferencesRow.laid ((laidWorld os).forCall (fun _ _ => 0) ⟨#[], witArgs3, []⟩).memory :=
  laidMet_of_run' 8 (by kernel_rfl) (by kernel_rfl)
set_option maxRecDepth 100000 in
theorem reads3 (os : Os) {H : Type} (enc : TypeId × Value → H) : ∃ d places, DataW.whole enc Tryz.prog ((laidWorld os).forCall (fun _ _ => 0) ⟨#[], witArgs3, []⟩).memory Tryz.f3.params.toList Rows.surveyDifferencesSpec.vars false witArgs3.toList 8 = some (d, [], places) :=
  ⟨[.agg [.agg [.lit (.int .i64 0), .lit (.int .i64 0), .lit (.int .i64 0), .lit (.int .i64 0), .lit (.int .i64 0), .lit (.int .i64 0)], .lit (.int .i64 0), .lit (.int .i64 0)], .agg [.agg [.lit (.int .i64 0), .lit (.int .i64 0), .lit (.int .i64 0), .lit (.int .i64 0), .lit (.int .i64 0), .lit (.int .i64 0)], .lit (.int .i64 0), .lit (.int .i64 0)]], [], by kernel_rfl⟩
set_option maxRecDepth 100000 in
theorem lifted3 (walk : Walk 3 Tryz.f3 Rows.surveyDifferencesRow.laid) (os : Os) (started : os.Started) (H : Type) (enc : TypeId × Value → H) (F : Stop.Interp) :
    ReturnsInHanded {} Tryz.checked os 3 .any ((OpenSpec.ofChange Rows.surveyDifferencesSpec).preRow enc Tryz.prog Tryz.f3 Rows.surveyDifferencesRow.domain false Rows.surveyDifferencesRow.laid) (((OpenSpec.ofChange Rows.surveyDifferencesSpec).at F).post enc Tryz.prog Tryz.f3 false true false false) := by
  obtain ⟨d, places, hx⟩ := reads3 os enc
  refine returnsInHanded_of_row (C := Tryz.checked) (s := OpenSpec.ofChange Rows.surveyDifferencesSpec) own started (by kernel_rfl) Tryz.func3
    (witness_row_at (enc := enc) (C := Tryz.checked) false (laidWorld os) witArgs3 rfl (by kernel_rfl) (by kernel_rfl) (by kernel_rfl)
      (OpenSpec.preRow_of_cond 8 hx (by kernel_rfl) (fun k hk => by cases hk) (by kernel_rfl) (laid_met3 os))) ?_
  intro W base args ds gs before hval hW _ _ _ hL _ _
  exact contract3 walk H enc W base args ds gs before hval hW hL
end Go.Proofs.YtepomgdlihoipaaGreatDoor

/- The walk of SurveyDifferences, from its contract. -/
namespace Go.Proofs.YtepomgdlihoipaaGreatDoor
open Go Go.Ab Go.RowKit Go.ChangeShapes Go.WideShapes Go.ChangeAt
set_option maxRecDepth 10000
theorem walk3 : Walk 3 Tryz.f3 Rows.surveyDifferencesRow.laid := by
  intro H enc W base args ds p hval hA hL
  have hp : Tryz.f3.params.toList = [24, 24] := by kernel_rfl
  have hv : ∀ (j : Nat) t v, [24, 24][j]? = some t → args.toList[j]? = some v → Value.okWide Tryz.prog W .any base t v := fun j t v h1 h2 => hval j t v (by rw [← hp] at h1; simpa using h1) (by simpa using h2)
  rw [hp] at hA
  obtain ⟨al⟩ := args
  simp only at hA hv
  obtain ⟨v0, vs0, d0, ds0, p0, q0, rfl, rfl, rfl, h0, r0⟩ := trodAll_cons hA
  obtain ⟨v1, vs1, d1, ds1, p1, q1, rfl, rfl, rfl, h1, r1⟩ := trodAll_cons r0
  obtain ⟨rfl, rfl, rfl⟩ := trodAll_nil r1
  obtain ⟨a0, a1, a2, a3, a4, a5, a6, a7, k0⟩ := open_inv (hv 0 24 _ rfl rfl) h0
  obtain ⟨b0, b1, b2, b3, b4, b5, b6, b7, k1⟩ := open_inv (hv 1 24 _ rfl rfl) h1
  exact walk_cf3 (base_ok hL) rfl (lrel_cons k0 (lrel_cons k1 lrel_nil)) (c3 Wf.empty)
end Go.Proofs.YtepomgdlihoipaaGreatDoor
