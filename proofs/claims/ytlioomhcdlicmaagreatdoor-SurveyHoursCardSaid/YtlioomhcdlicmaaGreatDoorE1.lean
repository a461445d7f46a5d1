/- The walk of SurveyHours; the frame of a card. -/
import Derived.Test.YtlioomhcdlicmaaGreatDoorA6
import Derived.Test.YtlioomhcdlicmaaGreatDoorW4
import Derived.Test.YtlioomhcdlicmaaGreatDoorCards
import Derived.Test.YtlioomhcdlicmaaGreatDoorTie
import Derived.Test.YtlioomhcdlicmaaGreatDoorS1
import Derived.Test.YtlioomhcdlicmaaGreatDoorK4
import Derived.Test.YtlioomhcdlicmaaGreatDoorC2
import Derived.Test.YtlioomhcdlicmaaGreatDoorC10
import Derived.Test.YtlioomhcdlicmaaGreatDoorL1
set_option linter.all false
namespace Go.Proofs.YtlioomhcdlicmaaGreatDoor
open Go Go.Ab Go.RowKit Go.ChangeShapes Go.WideShapes Go.ChangeAt

theorem own : ownKnob Tryz.prog.godebug = none := by kernel_rfl
theorem laidOut : laidOutB Tryz.prog = true := by kernel_rfl

/-- What a walk of the law must show: called with any readable arguments in a world that holds the tables. -/
def Walk (f : Nat) (fn : Func) (laid : List (String × DataW Unit)) : Prop :=
  ∀ (H : Type) (enc : TypeId × Value → H) (W : World) (base : Nat) (args : Array Value) (ds : List (DataW H)) (p : List MemPlace),
    (∀ (j : Nat) t v, fn.params[j]? = some t → args[j]? = some v → Value.okWide Tryz.prog W .any base t v) →
    DataW.TrodAll enc Tryz.prog W 0 (fun _ => true) true fn.params.toList args.toList ds p → laidMetH Tryz.prog laid W →
    Calls Tryz.prog f args W fun e W' => e = .returned (.bool true) ∧ Below W.heap.size W W'

/-- A WORLD FOR THE WITNESS: the settled one, the tables holding what their initialisers lay. -/
def laidObj (g : Nat) : Obj → Obj
  | .cells _ t frozen => .cells ⟨tabAt g⟩ t frozen
  | o => o
noncomputable def laidHeap (hp : Array Obj) : Array Obj := (((hp.modify 1 (laidObj 1)).modify 2 (laidObj 2)).modify 3 (laidObj 3))
noncomputable def laidWorld (os : Os) : World :=
  { World.holding Tryz.prog os ⟨#[], #[], []⟩ with heap := laidHeap (World.holding Tryz.prog os ⟨#[], #[], []⟩).heap }
end Go.Proofs.YtlioomhcdlicmaaGreatDoor

/- Arguments opened; from a contract to a walk. -/
namespace Go.Proofs.YtlioomhcdlicmaaGreatDoor
open Go Go.Ab Go.RowKit Go.ChangeShapes Go.WideShapes Go.ChangeAt
set_option maxRecDepth 10000
variable {H' : Type} {enc : TypeId × Value → H'} {w : World} {base : Nat} {sp : Nat → Bool} {held : Bool}
theorem tab_gd : ∀ k, (tabAt k).all gd = true := by
  intro k
  unfold tabAt
  split <;> decide +kernel
theorem laid_gd {a : Addr} {v : Value} (h : laidBase a = some v) : gd v = true := by
  unfold laidBase at h
  split at h
  · exact List.all_eq_true.1 (tab_gd _) v (List.mem_of_getElem? h)
  · cases h
theorem lrel_nil {ρ : Ctx} : LRel ρ [] [] := ⟨rfl, fun j v v' a _ => by simp at a⟩
theorem lrel_cons {ρ : Ctx} {v v' : Value} {l l' : List Value} (h : VRel ρ v v') (r : LRel ρ l l') : LRel ρ (v :: l) (v' :: l') := ⟨by simp [r.1], fun j a b q1 q2 => by
  cases j with
  | zero => simp at q1 q2; subst q1 q2; exact h
  | succ j => simp at q1 q2; exact r.2 j a b q1 q2⟩
theorem laid_wbase2 {W : World} (hB : BaseOk W.heap.size laidBase W) : ∀ a v, laidBase a = some v → wbase2 W a = some v := fun a v h => by
  obtain ⟨_, _, u, q, r⟩ := hB.cell a v h
  have := r.gd_eq (laid_gd h)
  subst this
  exact wbase2_some q (baseV_gd (laid_gd h))
theorem walk_cf3 {W : World} (hB : BaseOk W.heap.size laidBase W) {f : Nat} (hf : extz f = none) {args args' : List Value} (hA : LRel (fun _ => none) args args') {Q : H → Prop}
    (hc : Cf (mz (wbase2 W)) (.func (.func f) #[] #[]) args H.empty fun v h' => v = .bool true ∧ Q h') : Calls Tryz.prog f args'.toArray W fun e W' => e = .returned (.bool true) ∧ Below W.heap.size W W' := by
  obtain ⟨v, h', ⟨N, hn⟩, rfl, _⟩ := hc
  exact calls_of_ev mixed (wbase2_ok W) (extz_sound (laid_wbase2 hB)) no_count hf (hn N (Nat.le_refl _)) hA rfl
end Go.Proofs.YtlioomhcdlicmaaGreatDoor

/- Arguments opened: vessels, watches, lists of records. -/
namespace Go.Proofs.YtlioomhcdlicmaaGreatDoor
open Go Go.Ab Go.RowKit Go.ChangeShapes Go.WideShapes Go.ChangeAt
set_option maxRecDepth 10000
variable {H' : Type} {enc : TypeId × Value → H'} {w : World} {base : Nat} {sp : Nat → Bool} {held : Bool}
theorem one_int {fuel : Nat} {v : Value} {x : DataW H' × List MemPlace} (h : DataW.trod enc Tryz.prog w base sp held fuel 3 [v] = some x) : ∃ y : Int, v = .int .i64 y := by
  obtain ⟨b, e, _⟩ := DataW.trod_int Tryz.underlying3 h
  cases e
  exact ⟨b, rfl⟩
end Go.Proofs.YtlioomhcdlicmaaGreatDoor

/- Entries opened. -/
namespace Go.Proofs.YtlioomhcdlicmaaGreatDoor
open Go Go.Ab Go.RowKit Go.ChangeShapes Go.WideShapes Go.ChangeAt
set_option maxRecDepth 10000
variable {H' : Type} {enc : TypeId × Value → H'} {w : World} {base : Nat} {sp : Nat → Bool} {held : Bool}
theorem two_i79 {fuel : Nat} {v u : Value} {x : DataW H' × List MemPlace} (h : DataW.trod enc Tryz.prog w base sp held fuel 79 [v, u] = some x) : ∃ y z : Int, v = .int .i64 y ∧ u = .int .i64 z := by
  obtain ⟨hl, hff⟩ := trod_fields Tryz.underlying79 h
  have kc3 : Tryz.prog.cellsOf 3 = 1 := by kernel_rfl
  simp only [List.mem_cons, List.not_mem_nil, or_false, forall_eq_or_imp, forall_eq, kc3] at hff
  obtain ⟨⟨f0, y0, k0⟩, ⟨f1, y1, k1⟩⟩ := hff
  obtain ⟨a, e0⟩ := one_int k0
  obtain ⟨b, e1⟩ := one_int k1
  exact ⟨a, b, e0, e1⟩
theorem sl_max {t e : TypeId} {fuel : Nat} {z : Value} {x : DataW H' × List MemPlace} (ht : Tryz.prog.underlying t = some (.slice e)) (h : DataW.trod enc Tryz.prog w base sp held fuel t [z] = some x) {a : Option Addr} {n c : Nat} (k : VRel (fun _ => none) (.slice a n c) z) : n ≤ maxLen := by
  rcases DataW.trod_slice ht h with ⟨e, _⟩ | ⟨a1, n1, c1, elems, rest, m, _, e, _, hb, h1, h2, _⟩
  · have e : [z] = [.slice none 0 0] := e
    cases e
    cases k <;> exact Nat.zero_le _
  · have e : [z] = [.slice (some a1) n1 c1] := e
    cases e
    have hn0 : n1 ≤ maxLen := Nat.le_trans h1 h2
    cases k <;> first | exact hn0 | exact Nat.zero_le _
theorem open_max {t e : TypeId} (ht : Tryz.prog.underlying t = some (.slice e)) {r : Reach} {b0 : Nat} {v : Value} {d : DataW H'} {ps : List MemPlace} (hval : Value.okWide Tryz.prog w r b0 t v) (hd : DataW.Trod enc Tryz.prog w base sp held t v d ps) {a : Option Addr} {n c : Nat} (k : VRel (fun _ => none) (.slice a n c) v) : n ≤ maxLen := by
  have hv : ∃ a n c, v = .slice a n c := by
    simp only [Value.okWide, ht, Cell.okWide] at hval
    cases v <;> simp_all [Cell.ok]
  obtain ⟨a0, n0, c0, rfl⟩ := hv
  obtain ⟨fuel, hf⟩ := hd
  exact sl_max ht hf k
theorem en_read {fuel : Nat} {cs : List Value} {x : DataW H' × List MemPlace} (hl : cs.length = 3) (hf : DataW.trod enc Tryz.prog w base sp held fuel 184 cs = some x) :
    ∃ t : En, True ∧ ∀ (j : Nat) u, t.cells[j]? = some u → ∃ z, cs[j]? = some z ∧ baseV z = some u := by
  match cs, hl with
  | [z0, z1, z2], _ =>
    obtain ⟨_, hff⟩ := trod_fields Tryz.underlying184 hf
    have kc79 : Tryz.prog.cellsOf 79 = 2 := by kernel_rfl
    have kc9 : Tryz.prog.cellsOf 9 = 1 := by kernel_rfl
    simp only [List.mem_cons, List.not_mem_nil, or_false, forall_eq_or_imp, forall_eq, kc79, kc9] at hff
    obtain ⟨⟨f0, y0, k0⟩, ⟨f1, y1, k1⟩⟩ := hff
    obtain ⟨a, b, rfl, rfl⟩ := two_i79 k0
    obtain ⟨nm, g0, _⟩ := DataW.trod_string Tryz.underlying9 k1
    simp at g0
    subst g0
    refine ⟨⟨a, b, nm⟩, trivial, fun j u hj => ?_⟩
    have h3 : j < 3 := (List.getElem?_eq_some_iff.1 hj).1
    match j, h3 with
    | 0, _ | 1, _ | 2, _ => cases hj; exact ⟨_, rfl, rfl⟩
theorem open_ens {r : Reach} {b0 : Nat} {v : Value} {d : DataW H'} {ps : List MemPlace} (hval : Value.okWide Tryz.prog w r b0 83 v) (hd : DataW.Trod enc Tryz.prog w base sp held 83 v d ps) :
    ∃ (a : Option Addr) (n c : Nat) (l : List En), Sl (wbase2 w) H.empty 3 (.slice a n c) n (l.flatMap En.cells) ∧ l.length = n ∧ n ≤ maxLen ∧ VRel (fun _ => none) (.slice a n c) v := by
  obtain ⟨v0, n, ts, k, s, hl, q⟩ := open_slN En.cells (fun _ => True) (es := 3) (by omega) (fun _ => rfl) Tryz.underlying83 (by kernel_rfl) (fun _ _ _ hl q => en_read hl q) hval hd
  obtain ⟨a, c, rfl⟩ := s.form
  exact ⟨a, n, c, ts, s, hl, open_max Tryz.underlying83 hval hd k, k⟩
end Go.Proofs.YtlioomhcdlicmaaGreatDoor

namespace Go.Proofs.YtlioomhcdlicmaaGreatDoor
open Go Go.Ab Go.RowKit Go.ChangeShapes Go.WideShapes Go.ChangeAt

set_option maxRecDepth 100000 in
theorem contract7 (walk : Walk 7 Tryz.f7 Rows.surveyHoursRow.laid) (H : Type) (enc : TypeId × Value → H) (W : World) (base : Nat) (args : Array Value) (ds gs : List (DataW H)) (before : List MemPlace)
    (hval : ∀ (j : Nat) t v, Tryz.f7.params[j]? = some t → args[j]? = some v → Value.okWide Tryz.prog W .any base t v)
    (hW : DataW.Whole enc Tryz.prog Tryz.f7.params.toList Rows.surveyHoursSpec.vars false W args.toList ds gs before) (hL : laidMetH Tryz.prog Rows.surveyHoursRow.laid W) :
    Calls Tryz.prog 7 args W fun e W' => ∃ v, e = .returned v ∧ Rows.surveyHoursSpec.post enc Tryz.prog Tryz.f7 false true false false W args v W' := by
  have hW' := hW
  obtain ⟨p, q, hA0, hV, rfl, hfz, hnd⟩ := hW
  have hA : DataW.TrodAll enc Tryz.prog W 0 (fun _ => true) true Tryz.f7.params.toList args.toList ds p := hA0
  obtain ⟨rfl, rfl⟩ := trodVars_none hV
  refine (walk H enc W base args ds p hval hA hL).mono fun e W' ⟨he, hb⟩ => ?_
  subst he
  refine ⟨_, rfl, law_post laidOut (by kernel_rfl) rfl (tb := 4) (by kernel_rfl) (by kernel_rfl) ?_ hW' hb⟩
  have hp : Tryz.f7.params.toList = [83] := by kernel_rfl
  rw [hp] at hA
  obtain ⟨v0, vs0, d0, ds0, p0, q0, hargs, rfl, rfl, h0, r0⟩ := trodAll_cons hA
  obtain ⟨rfl, rfl, rfl⟩ := trodAll_nil r0
  rfl
def witArgs7 : Array Value := #[.slice none 0 0]
set_option maxRecDepth 100000 in
theorem laid_met7 (os : Os) : laidMet Tryz.prog Rows.surveyHoursRow.laid ((laidWorld os).forCall (fun _ _ => 0) ⟨#[], witArgs7, []⟩).memory :=
  laidMet_of_run' 8 (by kernel_rfl) (by kernel_rfl)
set_option maxRecDepth 100000 in
theorem reads7 (os : Os) {H : Type} (enc : TypeId × Value → H) : ∃ d places, DataW.whole enc Tryz.prog ((laidWorld os).forCall (fun _ _ => 0) ⟨#[], witArgs7, []⟩).memory Tryz.f7.params.toList Rows.surveyHoursSpec.vars false witArgs7.toList 8 = some (d, [], places) :=
  ⟨[.nil], [], by kernel_rfl⟩
set_option maxRecDepth 100000 in
theorem lifted7 (walk : Walk 7 Tryz.f7 Rows.surveyHoursRow.laid) (os : Os) (started : os.Started) (H : Type) (enc : TypeId × Value → H) (F : Stop.Interp) :
    ReturnsInHanded {} Tryz.checked os 7 .any ((OpenSpec.ofChange Rows.surveyHoursSpec).preRow enc Tryz.prog Tryz.f7 Rows.surveyHoursRow.domain false Rows.surveyHoursRow.laid) (((OpenSpec.ofChange Rows.surveyHoursSpec).at F).post enc Tryz.prog Tryz.f7 false true false false) := by
  obtain ⟨d, places, hx⟩ := reads7 os enc
  refine returnsInHanded_of_row (C := Tryz.checked) (s := OpenSpec.ofChange Rows.surveyHoursSpec) own started (by kernel_rfl) Tryz.func7
    (witness_row_at (enc := enc) (C := Tryz.checked) false (laidWorld os) witArgs7 rfl (by kernel_rfl) (by kernel_rfl) (by kernel_rfl)
      (OpenSpec.preRow_of_cond 8 hx (by kernel_rfl) (fun k hk => by cases hk) (by kernel_rfl) (laid_met7 os))) ?_
  intro W base args ds gs before hval hW _ _ _ hL _ _
  exact contract7 walk H enc W base args ds gs before hval hW hL
end Go.Proofs.YtlioomhcdlicmaaGreatDoor

/- The walk of SurveyHours, from its contract. -/
namespace Go.Proofs.YtlioomhcdlicmaaGreatDoor
open Go Go.Ab Go.RowKit Go.ChangeShapes Go.WideShapes Go.ChangeAt
set_option maxRecDepth 10000
theorem walk7 : Walk 7 Tryz.f7 Rows.surveyHoursRow.laid := by
  intro H enc W base args ds p hval hA hL
  have hp : Tryz.f7.params.toList = [83] := by kernel_rfl
  have hv : ∀ (j : Nat) t v, [83][j]? = some t → args.toList[j]? = some v → Value.okWide Tryz.prog W .any base t v := fun j t v h1 h2 => hval j t v (by rw [← hp] at h1; simpa using h1) (by simpa using h2)
  rw [hp] at hA
  obtain ⟨al⟩ := args
  simp only at hA hv
  obtain ⟨v0, vs0, d0, ds0, p0, q0, rfl, rfl, rfl, h0, r0⟩ := trodAll_cons hA
  obtain ⟨rfl, rfl, rfl⟩ := trodAll_nil r0
  obtain ⟨a, n, c, l, s, hl, hnm, k0⟩ := open_ens (hv 0 83 _ rfl rfl) h0
  exact walk_cf3 (base_ok hL) rfl (lrel_cons k0 lrel_nil) (c7 s hl hnm Wf.empty)
end Go.Proofs.YtlioomhcdlicmaaGreatDoor
