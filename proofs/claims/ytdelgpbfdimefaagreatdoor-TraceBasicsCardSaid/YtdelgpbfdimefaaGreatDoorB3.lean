/- The frame of the statement TraceBasicsSaid: the law's post, a world for the witness. -/
import Derived.Test.YtdelgpbfdimefaaGreatDoorB2
import Derived.Test.YtdelgpbfdimefaaGreatDoorC0
import Derived.Test.YtdelgpbfdimefaaGreatDoorA6
import Derived.Test.YtdelgpbfdimefaaGreatDoorW1
import Derived.Test.YtdelgpbfdimefaaGreatDoorCards
import Derived.Test.YtdelgpbfdimefaaGreatDoorTie
set_option linter.all false
/- The law of names, ratios and samples: all arguments. -/
namespace Go.Proofs.YtdelgpbfdimefaaGreatDoor
open Go Go.Ab Go.Fl
variable {G : Base} {h : H}
theorem c3 (s : ByteArray) (a b c d : Int) (x : Nat) (hw : Wf h) : Cf (mz G) (.func (.func 3) #[] #[]) [.string s, .agg #[.int .i64 a, .int .i64 b, .int .i64 c, .int .i64 d], .float .f32 x] h fun v h' => v = .bool true ∧ Grow h h' := by
  by_cases hs : 60 < s.size
  · exact c3a s a b c d x hw hs
  have hs : s.size ≤ 60 := by omega
  by_cases hb : 40 < b ∧ b ≤ 256
  · exact c3b s a b c d x hw hs hb
  by_cases hz : firstNZ [rngE a 1 2147483646, rngE b 0 256] = 0
  · have hr : (1 ≤ a ∧ a ≤ 2147483646) ∧ 0 ≤ b ∧ b ≤ 256 := by
      rcases rng_cases a 1 2147483646 with ⟨e1, r1, r2⟩ | ⟨e1, r1⟩ <;> rcases rng_cases b 0 256 with ⟨e2, r3, r4⟩ | ⟨e2, r3⟩ <;> simp [firstNZ, e1, e2] at hz ⊢
      omega
    obtain ⟨p, rfl⟩ : ∃ p : Nat, a = (p : Int) := ⟨a.toNat, by omega⟩
    obtain ⟨q, rfl⟩ : ∃ q : Nat, b = (q : Int) := ⟨b.toNat, by omega⟩
    exact c3d s p q c d x hw hs (by omega) (by omega)
  · exact c3c s a b c d x hw hs hb hz
end Go.Proofs.YtdelgpbfdimefaaGreatDoor

/- From a contract to a walk. -/
namespace Go.Proofs.YtdelgpbfdimefaaGreatDoor
open Go Go.Ab Go.RowKit Go.ChangeShapes Go.WideShapes Go.ChangeAt
theorem lrel_refl {ρ : Ctx} {l : List Value} (h : l.all gd = true) : LRel ρ l l := ⟨rfl, fun j v v' a b => by
  rw [a] at b; cases b
  exact VRel.gd_refl (List.all_eq_true.1 h v (List.mem_of_getElem? a))⟩
theorem walk_cf {W : World} {G : Base} (hB : BaseOk W.heap.size G W) (hG : ∀ a v, laidBase a = some v → G a = some v) {f : Nat} (hf : extz f = none) {args : List Value} (hg : args.all gd = true) {Q : H → Prop}
    (hc : Cf (mz G) (.func (.func f) #[] #[]) args H.empty fun v h' => v = .bool true ∧ Q h') : Calls Tryz.prog f args.toArray W fun e W' => e = .returned (.bool true) ∧ Below W.heap.size W W' := by
  obtain ⟨v, h', ⟨N, hn⟩, rfl, _⟩ := hc
  exact calls_of_ev mixed hB (extz_sound hG) no_count hf (hn N (Nat.le_refl _)) (lrel_refl hg) rfl
end Go.Proofs.YtdelgpbfdimefaaGreatDoor

namespace Go.Proofs.YtdelgpbfdimefaaGreatDoor
open Go Go.Ab Go.RowKit Go.ChangeShapes Go.WideShapes Go.ChangeAt

theorem own : ownKnob Tryz.prog.godebug = none := by kernel_rfl
theorem laidOut : laidOutB Tryz.prog = true := by kernel_rfl

/-- What a walk of the law must show: called with any readable arguments in a world that holds the tables. -/
def Walk (f : Nat) (fn : Func) (laid : List (String × DataW Unit)) : Prop :=
  ∀ (H : Type) (enc : TypeId × Value → H) (W : World) (base : Nat) (args : Array Value) (ds : List (DataW H)) (p : List MemPlace),
    (∀ (j : Nat) t v, fn.params[j]? = some t → args[j]? = some v → Value.okWide Tryz.prog W .any base t v) →
    DataW.TrodAll enc Tryz.prog W 0 (fun _ => true) true fn.params.toList args.toList ds p → laidMetH Tryz.prog laid W →
    Calls Tryz.prog f args W fun e W' => e = .returned (.bool true) ∧ Below W.heap.size W W'

set_option maxRecDepth 100000 in
theorem contract3 (walk : Walk 3 Tryz.f3 Rows.traceBasicsRow.laid) (H : Type) (enc : TypeId × Value → H) (W : World) (base : Nat) (args : Array Value) (ds gs : List (DataW H)) (before : List MemPlace)
    (hval : ∀ (j : Nat) t v, Tryz.f3.params[j]? = some t → args[j]? = some v → Value.okWide Tryz.prog W .any base t v)
    (hW : DataW.Whole enc Tryz.prog Tryz.f3.params.toList Rows.traceBasicsSpec.vars false W args.toList ds gs before) (hL : laidMetH Tryz.prog Rows.traceBasicsRow.laid W) :
    Calls Tryz.prog 3 args W fun e W' => ∃ v, e = .returned v ∧ Rows.traceBasicsSpec.post enc Tryz.prog Tryz.f3 false true false false W args v W' := by
  have hW' := hW
  obtain ⟨p, q, hA0, hV, rfl, hfz, hnd⟩ := hW
  have hA : DataW.TrodAll enc Tryz.prog W 0 (fun _ => true) true Tryz.f3.params.toList args.toList ds p := hA0
  obtain ⟨rfl, rfl⟩ := trodVars_none hV
  refine (walk H enc W base args ds p hval hA hL).mono fun e W' ⟨he, hb⟩ => ?_
  subst he
  refine ⟨_, rfl, law_post laidOut (by kernel_rfl) rfl (tb := 4) (by kernel_rfl) (by kernel_rfl) ?_ hW' hb⟩
  have hp : Tryz.f3.params.toList = [9, 22, 23] := by kernel_rfl
  rw [hp] at hA
  obtain ⟨v0, vs0, d0, ds0, p0, q0, hargs, rfl, rfl, h0, r0⟩ := trodAll_cons hA
  obtain ⟨v1, vs1, d1, ds1, p1, q1, rfl, rfl, rfl, h1, r1⟩ := trodAll_cons r0
  obtain ⟨v2, vs2, d2, ds2, p2, q2, rfl, rfl, rfl, h2, r2⟩ := trodAll_cons r1
  obtain ⟨rfl, rfl, rfl⟩ := trodAll_nil r2
  rfl

/-- A WORLD FOR THE WITNESS: the settled one, the tables holding what their initialisers lay. -/
def laidObj (g : Nat) : Obj → Obj
  | .cells _ t frozen => .cells ⟨tabAt g⟩ t frozen
  | o => o
noncomputable def laidHeap (hp : Array Obj) : Array Obj := ((((hp.modify 0 (laidObj 0)).modify 1 (laidObj 1)).modify 4 (laidObj 4)).modify 7 (laidObj 7)).modify 8 (laidObj 8)
noncomputable def laidWorld (os : Os) : World :=
  { World.holding Tryz.prog os ⟨#[], #[], []⟩ with heap := laidHeap (World.holding Tryz.prog os ⟨#[], #[], []⟩).heap }
def witArgs3 : Array Value := #[.string .empty, .agg #[.int .i64 0, .int .i64 0, .int .i64 0, .int .i64 0], .float .f32 0]
set_option maxRecDepth 100000 in
theorem laid_met (os : Os) : laidMet Tryz.prog Rows.traceBasicsRow.laid ((laidWorld os).forCall (fun _ _ => 0) ⟨#[], witArgs3, []⟩).memory :=
  laidMet_of_run' 8 (by kernel_rfl) (by kernel_rfl)
set_option maxRecDepth 100000 in
theorem reads3 (os : Os) {H : Type} (enc : TypeId × Value → H) : ∃ d places, DataW.whole enc Tryz.prog ((laidWorld os).forCall (fun _ _ => 0) ⟨#[], witArgs3, []⟩).memory Tryz.f3.params.toList Rows.traceBasicsSpec.vars false witArgs3.toList 8 = some (d, [], places) :=
  ⟨[.lit (.string []), .agg [.lit (.int .i64 0), .lit (.int .i64 0), .lit (.int .i64 0), .lit (.int .i64 0)], .lit (.float .f32 0)], [], by kernel_rfl⟩
set_option maxRecDepth 100000 in
theorem lifted3 (walk : Walk 3 Tryz.f3 Rows.traceBasicsRow.laid) (os : Os) (started : os.Started) (H : Type) (enc : TypeId × Value → H) (F : Stop.Interp) :
    ReturnsInHanded {} Tryz.checked os 3 .any ((OpenSpec.ofChange Rows.traceBasicsSpec).preRow enc Tryz.prog Tryz.f3 Rows.traceBasicsRow.domain false Rows.traceBasicsRow.laid) (((OpenSpec.ofChange Rows.traceBasicsSpec).at F).post enc Tryz.prog Tryz.f3 false true false false) := by
  obtain ⟨d, places, hx⟩ := reads3 os enc
  refine returnsInHanded_of_row (C := Tryz.checked) (s := OpenSpec.ofChange Rows.traceBasicsSpec) own started (by kernel_rfl) Tryz.func3
    (witness_row_at (enc := enc) (C := Tryz.checked) false (laidWorld os) witArgs3 rfl (by kernel_rfl) (by kernel_rfl) (by kernel_rfl)
      (OpenSpec.preRow_of_cond 8 hx (by kernel_rfl) (fun k hk => by cases hk) (by kernel_rfl) (laid_met os))) ?_
  intro W base args ds gs before hval hW _ _ _ hL _ _
  exact contract3 walk H enc W base args ds gs before hval hW hL
end Go.Proofs.YtdelgpbfdimefaaGreatDoor
