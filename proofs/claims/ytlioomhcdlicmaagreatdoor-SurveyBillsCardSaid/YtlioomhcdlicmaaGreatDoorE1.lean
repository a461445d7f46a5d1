/- The walk of SurveyBills; the frame of a card. -/
import Derived.Test.YtlioomhcdlicmaaGreatDoorA6
import Derived.Test.YtlioomhcdlicmaaGreatDoorW4
import Derived.Test.YtlioomhcdlicmaaGreatDoorCards
import Derived.Test.YtlioomhcdlicmaaGreatDoorTie
import Derived.Test.YtlioomhcdlicmaaGreatDoorS1
import Derived.Test.YtlioomhcdlicmaaGreatDoorK4
import Derived.Test.YtlioomhcdlicmaaGreatDoorC2
import Derived.Test.YtlioomhcdlicmaaGreatDoorC10
import Derived.Test.YtlioomhcdlicmaaGreatDoorC16
import Derived.Test.YtlioomhcdlicmaaGreatDoorL1
set_option linter.all false
namespace Go.Proofs.YtlioomhcdlicmaaGreatDoor
open Go Go.Ab Go.RowKit Go.ChangeShapes Go.WideShapes Go.ChangeAt

theorem own : ownKnob Tryz.prog.godebug = none := by kernel_rfl
theorem laidOut : laidOutB Tryz.prog = true := by kernel_rfl

/-- What a walk of the law must show: called with any readable arguments in a world that holds the tables. -/
def Walk (f : Nat) (fn : Func) (laid : List (String × DataW Unit)) : Prop :=
  ∀ (H : Type) (enc : TypeId × Value → H) (W : World) (base : Nat) (args : Array Value) (ds : List (DataW H)) (p : List MemPlace),
    (∀ (j : Nat) t v, fn.params[j]? = some t → args[j]? = some v → Value.okWide Tryz.prog W .any base t v) →
    DataW.TrodAll enc Tryz.prog W 0 (fun _ => true) true fn.params.toList args.toList ds p → laidMetH Tryz.prog laid W →
    Calls Tryz.prog f args W fun e W' => e = .returned (.bool true) ∧ Below W.heap.size W W'

/-- A WORLD FOR THE WITNESS: the settled one, the tables holding what their initialisers lay. -/
def laidObj (g : Nat) : Obj → Obj
  | .cells _ t frozen => .cells ⟨tabAt g⟩ t frozen
  | o => o
noncomputable def laidHeap (hp : Array Obj) : Array Obj := (((hp.modify 1 (laidObj 1)).modify 2 (laidObj 2)).modify 3 (laidObj 3))
noncomputable def laidWorld (os : Os) : World :=
  { World.holding Tryz.prog os ⟨#[], #[], []⟩ with heap := laidHeap (World.holding Tryz.prog os ⟨#[], #[], []⟩).heap }
end Go.Proofs.YtlioomhcdlicmaaGreatDoor

/- Arguments opened; from a contract to a walk. -/
namespace Go.Proofs.YtlioomhcdlicmaaGreatDoor
open Go Go.Ab Go.RowKit Go.ChangeShapes Go.WideShapes Go.ChangeAt
set_option maxRecDepth 10000
variable {H' : Type} {enc : TypeId × Value → H'} {w : World} {base : Nat} {sp : Nat → Bool} {held : Bool}
theorem tab_gd : ∀ k, (tabAt k).all gd = true := by
  intro k
  unfold tabAt
  split <;> decide +kernel
theorem laid_gd {a : Addr} {v : Value} (h : laidBase a = some v) : gd v = true := by
  unfold laidBase at h
  split at h
  · exact List.all_eq_true.1 (tab_gd _) v (List.mem_of_getElem? h)
  · cases h
theorem lrel_nil {ρ : Ctx} : LRel ρ [] [] := ⟨rfl, fun j v v' a _ => by simp at a⟩
theorem lrel_cons {ρ : Ctx} {v v' : Value} {l l' : List Value} (h : VRel ρ v v') (r : LRel ρ l l') : LRel ρ (v :: l) (v' :: l') := ⟨by simp [r.1], fun j a b q1 q2 => by
  cases j with
  | zero => simp at q1 q2; subst q1 q2; exact h
  | succ j => simp at q1 q2; exact r.2 j a b q1 q2⟩
theorem laid_wbase2 {W : World} (hB : BaseOk W.heap.size laidBase W) : ∀ a v, laidBase a = some v → wbase2 W a = some v := fun a v h => by
  obtain ⟨_, _, u, q, r⟩ := hB.cell a v h
  have := r.gd_eq (laid_gd h)
  subst this
  exact wbase2_some q (baseV_gd (laid_gd h))
theorem walk_cf3 {W : World} (hB : BaseOk W.heap.size laidBase W) {f : Nat} (hf : extz f = none) {args args' : List Value} (hA : LRel (fun _ => none) args args') {Q : H → Prop}
    (hc : Cf (mz (wbase2 W)) (.func (.func f) #[] #[]) args H.empty fun v h' => v = .bool true ∧ Q h') : Calls Tryz.prog f args'.toArray W fun e W' => e = .returned (.bool true) ∧ Below W.heap.size W W' := by
  obtain ⟨v, h', ⟨N, hn⟩, rfl, _⟩ := hc
  exact calls_of_ev mixed (wbase2_ok W) (extz_sound (laid_wbase2 hB)) no_count hf (hn N (Nat.le_refl _)) hA rfl
end Go.Proofs.YtlioomhcdlicmaaGreatDoor

/- Arguments opened: vessels, watches, lists of records. -/
namespace Go.Proofs.YtlioomhcdlicmaaGreatDoor
open Go Go.Ab Go.RowKit Go.ChangeShapes Go.WideShapes Go.ChangeAt
set_option maxRecDepth 10000
variable {H' : Type} {enc : TypeId × Value → H'} {w : World} {base : Nat} {sp : Nat → Bool} {held : Bool}
theorem one_int {fuel : Nat} {v : Value} {x : DataW H' × List MemPlace} (h : DataW.trod enc Tryz.prog w base sp held fuel 3 [v] = some x) : ∃ y : Int, v = .int .i64 y := by
  obtain ⟨b, e, _⟩ := DataW.trod_int Tryz.underlying3 h
  cases e
  exact ⟨b, rfl⟩
theorem open_agg {t : TypeId} {fs : Array Field} (hu : Tryz.prog.underlying t = some (.struct fs)) {n : Nat} (hn : Tryz.prog.cellsOf t = n) {r : Reach} {b0 : Nat} {v : Value} {d : DataW H'} {ps : List MemPlace} (hval : Value.okWide Tryz.prog w r b0 t v) (hd : DataW.Trod enc Tryz.prog w base sp held t v d ps) :
    ∃ (cs : List Value) (fuel : Nat), v = .agg ⟨cs⟩ ∧ cs.length = n ∧ DataW.trod enc Tryz.prog w base sp held fuel t cs = some (d, ps) := by
  have hv : ∃ cs : List Value, v = .agg ⟨cs⟩ := by
    simp only [Value.okWide, hu] at hval
    obtain ⟨⟨cs⟩, rfl, _⟩ := hval
    exact ⟨cs, rfl⟩
  obtain ⟨cs, rfl⟩ := hv
  obtain ⟨fuel, hf⟩ := hd
  have hf : DataW.trod enc Tryz.prog w base sp held fuel t cs = some (d, ps) := hf
  obtain ⟨hl, hff⟩ := trod_fields hu hf
  exact ⟨cs, fuel, rfl, hl.trans hn, hf⟩
end Go.Proofs.YtlioomhcdlicmaaGreatDoor

/- Entries opened. -/
namespace Go.Proofs.YtlioomhcdlicmaaGreatDoor
open Go Go.Ab Go.RowKit Go.ChangeShapes Go.WideShapes Go.ChangeAt
set_option maxRecDepth 10000
variable {H' : Type} {enc : TypeId × Value → H'} {w : World} {base : Nat} {sp : Nat → Bool} {held : Bool}
theorem two_i79 {fuel : Nat} {v u : Value} {x : DataW H' × List MemPlace} (h : DataW.trod enc Tryz.prog w base sp held fuel 79 [v, u] = some x) : ∃ y z : Int, v = .int .i64 y ∧ u = .int .i64 z := by
  obtain ⟨hl, hff⟩ := trod_fields Tryz.underlying79 h
  have kc3 : Tryz.prog.cellsOf 3 = 1 := by kernel_rfl
  simp only [List.mem_cons, List.not_mem_nil, or_false, forall_eq_or_imp, forall_eq, kc3] at hff
  obtain ⟨⟨f0, y0, k0⟩, ⟨f1, y1, k1⟩⟩ := hff
  obtain ⟨a, e0⟩ := one_int k0
  obtain ⟨b, e1⟩ := one_int k1
  exact ⟨a, b, e0, e1⟩
theorem sl_max {t e : TypeId} {fuel : Nat} {z : Value} {x : DataW H' × List MemPlace} (ht : Tryz.prog.underlying t = some (.slice e)) (h : DataW.trod enc Tryz.prog w base sp held fuel t [z] = some x) {a : Option Addr} {n c : Nat} (k : VRel (fun _ => none) (.slice a n c) z) : n ≤ maxLen := by
  rcases DataW.trod_slice ht h with ⟨e, _⟩ | ⟨a1, n1, c1, elems, rest, m, _, e, _, hb, h1, h2, _⟩
  · have e : [z] = [.slice none 0 0] := e
    cases e
    cases k <;> exact Nat.zero_le _
  · have e : [z] = [.slice (some a1) n1 c1] := e
    cases e
    have hn0 : n1 ≤ maxLen := Nat.le_trans h1 h2
    cases k <;> first | exact hn0 | exact Nat.zero_le _
theorem open_max {t e : TypeId} (ht : Tryz.prog.underlying t = some (.slice e)) {r : Reach} {b0 : Nat} {v : Value} {d : DataW H'} {ps : List MemPlace} (hval : Value.okWide Tryz.prog w r b0 t v) (hd : DataW.Trod enc Tryz.prog w base sp held t v d ps) {a : Option Addr} {n c : Nat} (k : VRel (fun _ => none) (.slice a n c) v) : n ≤ maxLen := by
  have hv : ∃ a n c, v = .slice a n c := by
    simp only [Value.okWide, ht, Cell.okWide] at hval
    cases v <;> simp_all [Cell.ok]
  obtain ⟨a0, n0, c0, rfl⟩ := hv
  obtain ⟨fuel, hf⟩ := hd
  exact sl_max ht hf k
theorem en_read {fuel : Nat} {cs : List Value} {x : DataW H' × List MemPlace} (hl : cs.length = 3) (hf : DataW.trod enc Tryz.prog w base sp held fuel 184 cs = some x) :
    ∃ t : En, True ∧ ∀ (j : Nat) u, t.cells[j]? = some u → ∃ z, cs[j]? = some z ∧ baseV z = some u := by
  match cs, hl with
  | [z0, z1, z2], _ =>
    obtain ⟨_, hff⟩ := trod_fields Tryz.underlying184 hf
    have kc79 : Tryz.prog.cellsOf 79 = 2 := by kernel_rfl
    have kc9 : Tryz.prog.cellsOf 9 = 1 := by kernel_rfl
    simp only [List.mem_cons, List.not_mem_nil, or_false, forall_eq_or_imp, forall_eq, kc79, kc9] at hff
    obtain ⟨⟨f0, y0, k0⟩, ⟨f1, y1, k1⟩⟩ := hff
    obtain ⟨a, b, rfl, rfl⟩ := two_i79 k0
    obtain ⟨nm, g0, _⟩ := DataW.trod_string Tryz.underlying9 k1
    simp at g0
    subst g0
    refine ⟨⟨a, b, nm⟩, trivial, fun j u hj => ?_⟩
    have h3 : j < 3 := (List.getElem?_eq_some_iff.1 hj).1
    match j, h3 with
    | 0, _ | 1, _ | 2, _ => cases hj; exact ⟨_, rfl, rfl⟩
theorem open_ens {r : Reach} {b0 : Nat} {v : Value} {d : DataW H'} {ps : List MemPlace} (hval : Value.okWide Tryz.prog w r b0 83 v) (hd : DataW.Trod enc Tryz.prog w base sp held 83 v d ps) :
    ∃ (a : Option Addr) (n c : Nat) (l : List En), Sl (wbase2 w) H.empty 3 (.slice a n c) n (l.flatMap En.cells) ∧ l.length = n ∧ n ≤ maxLen ∧ VRel (fun _ => none) (.slice a n c) v := by
  obtain ⟨v0, n, ts, k, s, hl, q⟩ := open_slN En.cells (fun _ => True) (es := 3) (by omega) (fun _ => rfl) Tryz.underlying83 (by kernel_rfl) (fun _ _ _ hl q => en_read hl q) hval hd
  obtain ⟨a, c, rfl⟩ := s.form
  exact ⟨a, n, c, ts, s, hl, open_max Tryz.underlying83 hval hd k, k⟩
end Go.Proofs.YtlioomhcdlicmaaGreatDoor

/- Results and contracts opened. -/
namespace Go.Proofs.YtlioomhcdlicmaaGreatDoor
open Go Go.Ab Go.RowKit Go.ChangeShapes Go.WideShapes Go.ChangeAt
set_option maxRecDepth 10000
variable {H' : Type} {enc : TypeId × Value → H'} {w : World} {base : Nat} {sp : Nat → Bool} {held : Bool}
theorem rs_read {fuel : Nat} {cs : List Value} {x : DataW H' × List MemPlace} (hl : cs.length = 3) (hf : DataW.trod enc Tryz.prog w base sp held fuel 207 cs = some x) :
    ∃ t : Rs, True ∧ ∀ (j : Nat) u, t.cells[j]? = some u → ∃ z, cs[j]? = some z ∧ baseV z = some u := by
  match cs, hl with
  | [z0, z1, z2], _ =>
    obtain ⟨_, hff⟩ := trod_fields Tryz.underlying207 hf
    have kc3 : Tryz.prog.cellsOf 3 = 1 := by kernel_rfl
    have kc9 : Tryz.prog.cellsOf 9 = 1 := by kernel_rfl
    simp only [List.mem_cons, List.not_mem_nil, or_false, forall_eq_or_imp, forall_eq, kc3, kc9] at hff
    obtain ⟨⟨f0, y0, k0⟩, ⟨f1, y1, k1⟩, ⟨f2, y2, k2⟩⟩ := hff
    obtain ⟨nm, g0, _⟩ := DataW.trod_string Tryz.underlying9 k0
    simp at g0
    subst g0
    obtain ⟨a, rfl⟩ := one_int k1
    obtain ⟨b, rfl⟩ := one_int k2
    refine ⟨⟨nm, a, b⟩, trivial, fun j u hj => ?_⟩
    have h3 : j < 3 := (List.getElem?_eq_some_iff.1 hj).1
    match j, h3 with
    | 0, _ | 1, _ | 2, _ => cases hj; exact ⟨_, rfl, rfl⟩
theorem open_rss {r : Reach} {b0 : Nat} {v : Value} {d : DataW H'} {ps : List MemPlace} (hval : Value.okWide Tryz.prog w r b0 106 v) (hd : DataW.Trod enc Tryz.prog w base sp held 106 v d ps) :
    ∃ (a : Option Addr) (n c : Nat) (l : List Rs), Sl (wbase2 w) H.empty 3 (.slice a n c) n (l.flatMap Rs.cells) ∧ l.length = n ∧ n ≤ maxLen ∧ VRel (fun _ => none) (.slice a n c) v := by
  obtain ⟨v0, n, ts, k, s, hl, q⟩ := open_slN Rs.cells (fun _ => True) (es := 3) (by omega) (fun _ => rfl) Tryz.underlying106 (by kernel_rfl) (fun _ _ _ hl q => rs_read hl q) hval hd
  obtain ⟨a, c, rfl⟩ := s.form
  exact ⟨a, n, c, ts, s, hl, open_max Tryz.underlying106 hval hd k, k⟩
theorem open_con {r : Reach} {b0 : Nat} {v : Value} {d : DataW H'} {ps : List MemPlace} (hval : Value.okWide Tryz.prog w r b0 105 v) (hd : DataW.Trod enc Tryz.prog w base sp held 105 v d ps) :
    ∃ c0 c1 c2 c3 c4 c5 c6 c7 c8 : Int, VRel (fun _ => none) (.agg ⟨[.int .i64 c0, .int .i64 c1, .int .i64 c2, .int .i64 c3, .int .i64 c4, .int .i64 c5, .int .i64 c6, .int .i64 c7, .int .i64 c8]⟩) v := by
  obtain ⟨cs, fuel, rfl, hl, hf⟩ := open_agg Tryz.underlying105 (n := 9) (by kernel_rfl) hval hd
  obtain ⟨_, hff⟩ := trod_fields Tryz.underlying105 hf
  have kc3 : Tryz.prog.cellsOf 3 = 1 := by kernel_rfl
  match cs, hl with
  | [z0, z1, z2, z3, z4, z5, z6, z7, z8], _ =>
    simp only [List.mem_cons, List.not_mem_nil, or_false, forall_eq_or_imp, forall_eq, kc3] at hff
    obtain ⟨⟨f0, y0, k0⟩, ⟨f1, y1, k1⟩, ⟨f2, y2, k2⟩, ⟨f3, y3, k3⟩, ⟨f4, y4, k4⟩, ⟨f5, y5, k5⟩, ⟨f6, y6, k6⟩, ⟨f7, y7, k7⟩, ⟨f8, y8, k8⟩⟩ := hff
    obtain ⟨c0, rfl⟩ := one_int k0
    obtain ⟨c1, rfl⟩ := one_int k1
    obtain ⟨c2, rfl⟩ := one_int k2
    obtain ⟨c3, rfl⟩ := one_int k3
    obtain ⟨c4, rfl⟩ := one_int k4
    obtain ⟨c5, rfl⟩ := one_int k5
    obtain ⟨c6, rfl⟩ := one_int k6
    obtain ⟨c7, rfl⟩ := one_int k7
    obtain ⟨c8, rfl⟩ := one_int k8
    exact ⟨c0, c1, c2, c3, c4, c5, c6, c7, c8, VRel.gd_refl rfl⟩
end Go.Proofs.YtlioomhcdlicmaaGreatDoor

namespace Go.Proofs.YtlioomhcdlicmaaGreatDoor
open Go Go.Ab Go.RowKit Go.ChangeShapes Go.WideShapes Go.ChangeAt

set_option maxRecDepth 100000 in
theorem contract8 (walk : Walk 8 Tryz.f8 Rows.surveyBillsRow.laid) (H : Type) (enc : TypeId × Value → H) (W : World) (base : Nat) (args : Array Value) (ds gs : List (DataW H)) (before : List MemPlace)
    (hval : ∀ (j : Nat) t v, Tryz.f8.params[j]? = some t → args[j]? = some v → Value.okWide Tryz.prog W .any base t v)
    (hW : DataW.Whole enc Tryz.prog Tryz.f8.params.toList Rows.surveyBillsSpec.vars false W args.toList ds gs before) (hL : laidMetH Tryz.prog Rows.surveyBillsRow.laid W) :
    Calls Tryz.prog 8 args W fun e W' => ∃ v, e = .returned v ∧ Rows.surveyBillsSpec.post enc Tryz.prog Tryz.f8 false true false false W args v W' := by
  have hW' := hW
  obtain ⟨p, q, hA0, hV, rfl, hfz, hnd⟩ := hW
  have hA : DataW.TrodAll enc Tryz.prog W 0 (fun _ => true) true Tryz.f8.params.toList args.toList ds p := hA0
  obtain ⟨rfl, rfl⟩ := trodVars_none hV
  refine (walk H enc W base args ds p hval hA hL).mono fun e W' ⟨he, hb⟩ => ?_
  subst he
  refine ⟨_, rfl, law_post laidOut (by kernel_rfl) rfl (tb := 4) (by kernel_rfl) (by kernel_rfl) ?_ hW' hb⟩
  have hp : Tryz.f8.params.toList = [105, 83, 106] := by kernel_rfl
  rw [hp] at hA
  obtain ⟨v0, vs0, d0, ds0, p0, q0, hargs, rfl, rfl, h0, r0⟩ := trodAll_cons hA
  obtain ⟨v1, vs1, d1, ds1, p1, q1, rfl, rfl, rfl, h1, r1⟩ := trodAll_cons r0
  obtain ⟨v2, vs2, d2, ds2, p2, q2, rfl, rfl, rfl, h2, r2⟩ := trodAll_cons r1
  obtain ⟨rfl, rfl, rfl⟩ := trodAll_nil r2
  rfl
def witArgs8 : Array Value := #[.agg #[.int .i64 0, .int .i64 0, .int .i64 0, .int .i64 0, .int .i64 0, .int .i64 0, .int .i64 0, .int .i64 0, .int .i64 0], .slice none 0 0, .slice none 0 0]
set_option maxRecDepth 100000 in
theorem laid_met8 (os : Os) : laidMet Tryz.prog Rows.surveyBillsRow.laid ((laidWorld os).forCall (fun _ _ => 0) ⟨#[], witArgs8, []⟩).memory :=
  laidMet_of_run' 8 (by kernel_rfl) (by kernel_rfl)
set_option maxRecDepth 100000 in
theorem reads8 (os : Os) {H : Type} (enc : TypeId × Value → H) : ∃ d places, DataW.whole enc Tryz.prog ((laidWorld os).forCall (fun _ _ => 0) ⟨#[], witArgs8, []⟩).memory Tryz.f8.params.toList Rows.surveyBillsSpec.vars false witArgs8.toList 8 = some (d, [], places) :=
  ⟨[.agg [.lit (.int .i64 0), .lit (.int .i64 0), .lit (.int .i64 0), .lit (.int .i64 0), .lit (.int .i64 0), .lit (.int .i64 0), .lit (.int .i64 0), .lit (.int .i64 0), .lit (.int .i64 0)], .nil, .nil], [], by kernel_rfl⟩
set_option maxRecDepth 100000 in
theorem lifted8 (walk : Walk 8 Tryz.f8 Rows.surveyBillsRow.laid) (os : Os) (started : os.Started) (H : Type) (enc : TypeId × Value → H) (F : Stop.Interp) :
    ReturnsInHanded {} Tryz.checked os 8 .any ((OpenSpec.ofChange Rows.surveyBillsSpec).preRow enc Tryz.prog Tryz.f8 Rows.surveyBillsRow.domain false Rows.surveyBillsRow.laid) (((OpenSpec.ofChange Rows.surveyBillsSpec).at F).post enc Tryz.prog Tryz.f8 false true false false) := by
  obtain ⟨d, places, hx⟩ := reads8 os enc
  refine returnsInHanded_of_row (C := Tryz.checked) (s := OpenSpec.ofChange Rows.surveyBillsSpec) own started (by kernel_rfl) Tryz.func8
    (witness_row_at (enc := enc) (C := Tryz.checked) false (laidWorld os) witArgs8 rfl (by kernel_rfl) (by kernel_rfl) (by kernel_rfl)
      (OpenSpec.preRow_of_cond 8 hx (by kernel_rfl) (fun k hk => by cases hk) (by kernel_rfl) (laid_met8 os))) ?_
  intro W base args ds gs before hval hW _ _ _ hL _ _
  exact contract8 walk H enc W base args ds gs before hval hW hL
end Go.Proofs.YtlioomhcdlicmaaGreatDoor

/- The walk of SurveyBills, from its contract. -/
namespace Go.Proofs.YtlioomhcdlicmaaGreatDoor
open Go Go.Ab Go.RowKit Go.ChangeShapes Go.WideShapes Go.ChangeAt
set_option maxRecDepth 10000
theorem walk8 : Walk 8 Tryz.f8 Rows.surveyBillsRow.laid := by
  intro H enc W base args ds p hval hA hL
  have hp : Tryz.f8.params.toList = [105, 83, 106] := by kernel_rfl
  have hv : ∀ (j : Nat) t v, [105, 83, 106][j]? = some t → args.toList[j]? = some v → Value.okWide Tryz.prog W .any base t v := fun j t v h1 h2 => hval j t v (by rw [← hp] at h1; simpa using h1) (by simpa using h2)
  rw [hp] at hA
  obtain ⟨al⟩ := args
  simp only at hA hv
  obtain ⟨v0, vs0, d0, ds0, p0, q0, rfl, rfl, rfl, h0, r0⟩ := trodAll_cons hA
  obtain ⟨v1, vs1, d1, ds1, p1, q1, rfl, rfl, rfl, h1, r1⟩ := trodAll_cons r0
  obtain ⟨v2, vs2, d2, ds2, p2, q2, rfl, rfl, rfl, h2, r2⟩ := trodAll_cons r1
  obtain ⟨rfl, rfl, rfl⟩ := trodAll_nil r2
  obtain ⟨x0, x1, x2, x3, x4, x5, x6, x7, x8, k0⟩ := open_con (hv 0 105 _ rfl rfl) h0
  obtain ⟨va, n, vc, l, s, hl, hnm, k1⟩ := open_ens (hv 1 83 _ rfl rfl) h1
  obtain ⟨ra, m, rc, rs, sr, hrl, hmm, k2⟩ := open_rss (hv 2 106 _ rfl rfl) h2
  exact walk_cf3 (base_ok hL) rfl (lrel_cons k0 (lrel_cons k1 (lrel_cons k2 lrel_nil))) (c8 s hl hnm sr hrl hmm Wf.empty)
end Go.Proofs.YtlioomhcdlicmaaGreatDoor
