/- The walk of SurveyDiaries; the frame of a card. -/
import Derived.Test.YtlioomhcdlicmaaGreatDoorA6
import Derived.Test.YtlioomhcdlicmaaGreatDoorW4
import Derived.Test.YtlioomhcdlicmaaGreatDoorCards
import Derived.Test.YtlioomhcdlicmaaGreatDoorTie
import Derived.Test.YtlioomhcdlicmaaGreatDoorS1
import Derived.Test.YtlioomhcdlicmaaGreatDoorK4
import Derived.Test.YtlioomhcdlicmaaGreatDoorC2
import Derived.Test.YtlioomhcdlicmaaGreatDoorC8
import Derived.Test.YtlioomhcdlicmaaGreatDoorL1
set_option linter.all false
namespace Go.Proofs.YtlioomhcdlicmaaGreatDoor
open Go Go.Ab Go.RowKit Go.ChangeShapes Go.WideShapes Go.ChangeAt

theorem own : ownKnob Tryz.prog.godebug = none := by kernel_rfl
theorem laidOut : laidOutB Tryz.prog = true := by kernel_rfl

/-- What a walk of the law must show: called with any readable arguments in a world that holds the tables. -/
def Walk (f : Nat) (fn : Func) (laid : List (String × DataW Unit)) : Prop :=
  ∀ (H : Type) (enc : TypeId × Value → H) (W : World) (base : Nat) (args : Array Value) (ds : List (DataW H)) (p : List MemPlace),
    (∀ (j : Nat) t v, fn.params[j]? = some t → args[j]? = some v → Value.okWide Tryz.prog W .any base t v) →
    DataW.TrodAll enc Tryz.prog W 0 (fun _ => true) true fn.params.toList args.toList ds p → laidMetH Tryz.prog laid W →
    Calls Tryz.prog f args W fun e W' => e = .returned (.bool true) ∧ Below W.heap.size W W'

/-- A WORLD FOR THE WITNESS: the settled one, the tables holding what their initialisers lay. -/
def laidObj (g : Nat) : Obj → Obj
  | .cells _ t frozen => .cells ⟨tabAt g⟩ t frozen
  | o => o
noncomputable def laidHeap (hp : Array Obj) : Array Obj := (((hp.modify 1 (laidObj 1)).modify 2 (laidObj 2)).modify 3 (laidObj 3))
noncomputable def laidWorld (os : Os) : World :=
  { World.holding Tryz.prog os ⟨#[], #[], []⟩ with heap := laidHeap (World.holding Tryz.prog os ⟨#[], #[], []⟩).heap }
end Go.Proofs.YtlioomhcdlicmaaGreatDoor

/- Arguments opened; from a contract to a walk. -/
namespace Go.Proofs.YtlioomhcdlicmaaGreatDoor
open Go Go.Ab Go.RowKit Go.ChangeShapes Go.WideShapes Go.ChangeAt
set_option maxRecDepth 10000
variable {H' : Type} {enc : TypeId × Value → H'} {w : World} {base : Nat} {sp : Nat → Bool} {held : Bool}
theorem tab_gd : ∀ k, (tabAt k).all gd = true := by
  intro k
  unfold tabAt
  split <;> decide +kernel
theorem laid_gd {a : Addr} {v : Value} (h : laidBase a = some v) : gd v = true := by
  unfold laidBase at h
  split at h
  · exact List.all_eq_true.1 (tab_gd _) v (List.mem_of_getElem? h)
  · cases h
theorem lrel_nil {ρ : Ctx} : LRel ρ [] [] := ⟨rfl, fun j v v' a _ => by simp at a⟩
theorem lrel_cons {ρ : Ctx} {v v' : Value} {l l' : List Value} (h : VRel ρ v v') (r : LRel ρ l l') : LRel ρ (v :: l) (v' :: l') := ⟨by simp [r.1], fun j a b q1 q2 => by
  cases j with
  | zero => simp at q1 q2; subst q1 q2; exact h
  | succ j => simp at q1 q2; exact r.2 j a b q1 q2⟩
theorem laid_wbase2 {W : World} (hB : BaseOk W.heap.size laidBase W) : ∀ a v, laidBase a = some v → wbase2 W a = some v := fun a v h => by
  obtain ⟨_, _, u, q, r⟩ := hB.cell a v h
  have := r.gd_eq (laid_gd h)
  subst this
  exact wbase2_some q (baseV_gd (laid_gd h))
theorem walk_cf3 {W : World} (hB : BaseOk W.heap.size laidBase W) {f : Nat} (hf : extz f = none) {args args' : List Value} (hA : LRel (fun _ => none) args args') {Q : H → Prop}
    (hc : Cf (mz (wbase2 W)) (.func (.func f) #[] #[]) args H.empty fun v h' => v = .bool true ∧ Q h') : Calls Tryz.prog f args'.toArray W fun e W' => e = .returned (.bool true) ∧ Below W.heap.size W W' := by
  obtain ⟨v, h', ⟨N, hn⟩, rfl, _⟩ := hc
  exact calls_of_ev mixed (wbase2_ok W) (extz_sound (laid_wbase2 hB)) no_count hf (hn N (Nat.le_refl _)) hA rfl
end Go.Proofs.YtlioomhcdlicmaaGreatDoor

/- Arguments opened: vessels, watches, lists of records. -/
namespace Go.Proofs.YtlioomhcdlicmaaGreatDoor
open Go Go.Ab Go.RowKit Go.ChangeShapes Go.WideShapes Go.ChangeAt
set_option maxRecDepth 10000
variable {H' : Type} {enc : TypeId × Value → H'} {w : World} {base : Nat} {sp : Nat → Bool} {held : Bool}
theorem one_int {fuel : Nat} {v : Value} {x : DataW H' × List MemPlace} (h : DataW.trod enc Tryz.prog w base sp held fuel 3 [v] = some x) : ∃ y : Int, v = .int .i64 y := by
  obtain ⟨b, e, _⟩ := DataW.trod_int Tryz.underlying3 h
  cases e
  exact ⟨b, rfl⟩
theorem two_int {t : TypeId} (ht : Tryz.prog.underlying t = Tryz.prog.underlying 35) {fuel : Nat} {v u : Value} {x : DataW H' × List MemPlace} (h : DataW.trod enc Tryz.prog w base sp held fuel t [v, u] = some x) : ∃ y z : Int, v = .int .i64 y ∧ u = .int .i64 z := by
  obtain ⟨hl, hff⟩ := trod_fields (ht.trans Tryz.underlying35) h
  have kc3 : Tryz.prog.cellsOf 3 = 1 := by kernel_rfl
  simp only [List.mem_cons, List.not_mem_nil, or_false, forall_eq_or_imp, forall_eq, kc3] at hff
  obtain ⟨⟨f0, y0, k0⟩, ⟨f1, y1, k1⟩⟩ := hff
  obtain ⟨a, e0⟩ := one_int k0
  obtain ⟨b, e1⟩ := one_int k1
  exact ⟨a, b, e0, e1⟩
theorem sg_read {fuel : Nat} {cs : List Value} {x : DataW H' × List MemPlace} (hl : cs.length = 3) (hf : DataW.trod enc Tryz.prog w base sp held fuel 145 cs = some x) :
    ∃ t : Sg, True ∧ ∀ (j : Nat) u, t.cells[j]? = some u → ∃ z, cs[j]? = some z ∧ baseV z = some u := by
  obtain ⟨_, hff⟩ := trod_fields Tryz.underlying145 hf
  have kc35 : Tryz.prog.cellsOf 35 = 2 := by kernel_rfl
  have kc3 : Tryz.prog.cellsOf 3 = 1 := by kernel_rfl
  match cs, hl with
  | [z0, z1, z2], _ =>
    simp only [List.mem_cons, List.not_mem_nil, or_false, forall_eq_or_imp, forall_eq, kc3, kc35] at hff
    obtain ⟨⟨f0, y0, k0⟩, ⟨f1, y1, k1⟩⟩ := hff
    obtain ⟨a, rfl⟩ := one_int k0
    obtain ⟨b, c, rfl, rfl⟩ := two_int rfl k1
    refine ⟨⟨a, b, c⟩, trivial, fun j u hj => ?_⟩
    have h3 : j < 3 := (List.getElem?_eq_some_iff.1 hj).1
    match j, h3 with
    | 0, _ | 1, _ | 2, _ => cases hj; exact ⟨_, rfl, rfl⟩
theorem open_agg {t : TypeId} {fs : Array Field} (hu : Tryz.prog.underlying t = some (.struct fs)) {n : Nat} (hn : Tryz.prog.cellsOf t = n) {r : Reach} {b0 : Nat} {v : Value} {d : DataW H'} {ps : List MemPlace} (hval : Value.okWide Tryz.prog w r b0 t v) (hd : DataW.Trod enc Tryz.prog w base sp held t v d ps) :
    ∃ (cs : List Value) (fuel : Nat), v = .agg ⟨cs⟩ ∧ cs.length = n ∧ DataW.trod enc Tryz.prog w base sp held fuel t cs = some (d, ps) := by
  have hv : ∃ cs : List Value, v = .agg ⟨cs⟩ := by
    simp only [Value.okWide, hu] at hval
    obtain ⟨⟨cs⟩, rfl, _⟩ := hval
    exact ⟨cs, rfl⟩
  obtain ⟨cs, rfl⟩ := hv
  obtain ⟨fuel, hf⟩ := hd
  have hf : DataW.trod enc Tryz.prog w base sp held fuel t cs = some (d, ps) := hf
  obtain ⟨hl, hff⟩ := trod_fields hu hf
  exact ⟨cs, fuel, rfl, hl.trans hn, hf⟩
theorem open_ves {r : Reach} {b0 : Nat} {v : Value} {d : DataW H'} {ps : List MemPlace} (hval : Value.okWide Tryz.prog w r b0 37 v) (hd : DataW.Trod enc Tryz.prog w base sp held 37 v d ps) :
    ∃ x y u z t : Int, VRel (fun _ => none) (.agg ⟨[.int .i64 x, .int .i64 y, .int .i64 u, .int .i64 z, .int .i64 t]⟩) v := by
  obtain ⟨cs, fuel, rfl, hl, hf⟩ := open_agg Tryz.underlying37 (n := 5) (by kernel_rfl) hval hd
  obtain ⟨_, hff⟩ := trod_fields Tryz.underlying37 hf
  have kc35 : Tryz.prog.cellsOf 35 = 2 := by kernel_rfl
  have kc3 : Tryz.prog.cellsOf 3 = 1 := by kernel_rfl
  match cs, hl with
  | [z0, z1, z2, z3, z4], _ =>
    simp only [List.mem_cons, List.not_mem_nil, or_false, forall_eq_or_imp, forall_eq, kc3, kc35] at hff
    obtain ⟨⟨f0, y0, k0⟩, ⟨f1, y1, k1⟩, ⟨f2, y2, k2⟩⟩ := hff
    obtain ⟨a, b, rfl, rfl⟩ := two_int rfl k0
    obtain ⟨c, d, rfl, rfl⟩ := two_int rfl k1
    obtain ⟨e, rfl⟩ := one_int k2
    exact ⟨a, b, c, d, e, VRel.gd_refl rfl⟩
theorem five_int {fuel : Nat} {z0 z1 z2 z3 z4 : Value} {x : DataW H' × List MemPlace} (hf : DataW.trod enc Tryz.prog w base sp held fuel 39 [z0, z1, z2, z3, z4] = some x) :
    ∃ a b c d e : Int, z0 = .int .i64 a ∧ z1 = .int .i64 b ∧ z2 = .int .i64 c ∧ z3 = .int .i64 d ∧ z4 = .int .i64 e := by
  obtain ⟨_, hff⟩ := trod_fields Tryz.underlying39 hf
  have kc3 : Tryz.prog.cellsOf 3 = 1 := by kernel_rfl
  simp only [List.mem_cons, List.not_mem_nil, or_false, forall_eq_or_imp, forall_eq, kc3] at hff
  obtain ⟨⟨f0, y0, k0⟩, ⟨f1, y1, k1⟩, ⟨f2, y2, k2⟩, ⟨f3, y3, k3⟩, ⟨f4, y4, k4⟩⟩ := hff
  obtain ⟨a, rfl⟩ := one_int k0
  obtain ⟨b, rfl⟩ := one_int k1
  obtain ⟨c, rfl⟩ := one_int k2
  obtain ⟨d, rfl⟩ := one_int k3
  obtain ⟨e, rfl⟩ := one_int k4
  exact ⟨a, b, c, d, e, rfl, rfl, rfl, rfl, rfl⟩
theorem open_seen {r : Reach} {b0 : Nat} {v : Value} {d : DataW H'} {ps : List MemPlace} (hval : Value.okWide Tryz.prog w r b0 70 v) (hd : DataW.Trod enc Tryz.prog w base sp held 70 v d ps) :
    ∃ (x y u z t : Int) (a : Option Addr) (n c : Nat) (l : List Sg), Sl (wbase2 w) H.empty 3 (.slice a n c) n (l.flatMap Sg.cells) ∧ l.length = n ∧ VRel (fun _ => none) (.agg ⟨[.int .i64 x, .int .i64 y, .int .i64 u, .int .i64 z, .int .i64 t, .slice a n c]⟩) v := by
  obtain ⟨cs, fuel, rfl, hl, hf⟩ := open_agg Tryz.underlying70 (n := 6) (by kernel_rfl) hval hd
  obtain ⟨_, hff⟩ := trod_fields Tryz.underlying70 hf
  have kc39 : Tryz.prog.cellsOf 39 = 5 := by kernel_rfl
  have kc40 : Tryz.prog.cellsOf 40 = 1 := by kernel_rfl
  match cs, hl with
  | [z0, z1, z2, z3, z4, z5], _ =>
    simp only [List.mem_cons, List.not_mem_nil, or_false, forall_eq_or_imp, forall_eq, kc39, kc40] at hff
    obtain ⟨⟨f0, y0, k0⟩, ⟨f1, y1, k1⟩⟩ := hff
    obtain ⟨a, b, c, d, e, rfl, rfl, rfl, rfl, rfl⟩ := five_int k0
    obtain ⟨sv, sv0, n, l, g1, hv1, sl1, hln1, _⟩ := trod_slN Sg.cells (fun _ => True) (es := 3) (by omega) (fun _ => rfl) Tryz.underlying40 (by kernel_rfl) (fun _ _ _ hl q => sg_read hl q) k1
    obtain ⟨ca, cc, rfl⟩ := sl1.form
    simp at g1
    subst g1
    refine ⟨a, b, c, d, e, ca, n, cc, l, sl1, hln1, .agg _ _ rfl fun j u u' h1 h2 => ?_⟩
    have hj : j < 6 := (List.getElem?_eq_some_iff.1 h1).1
    match j, hj with
    | 0, _ | 1, _ | 2, _ | 3, _ | 4, _ => cases h1; cases h2; exact .int _ _
    | 5, _ => cases h1; cases h2; exact baseV_rel hv1
end Go.Proofs.YtlioomhcdlicmaaGreatDoor

/- Shares and weather opened. -/
namespace Go.Proofs.YtlioomhcdlicmaaGreatDoor
open Go Go.Ab Go.RowKit Go.ChangeShapes Go.WideShapes Go.ChangeAt
set_option maxRecDepth 10000
variable {H' : Type} {enc : TypeId × Value → H'} {w : World} {base : Nat} {sp : Nat → Bool} {held : Bool}
theorem spn_read {fuel : Nat} {cs : List Value} {x : DataW H' × List MemPlace} (hl : cs.length = 2) (hf : DataW.trod enc Tryz.prog w base sp held fuel 79 cs = some x) :
    ∃ t : Spn, True ∧ ∀ (j : Nat) u, t.cells[j]? = some u → ∃ z, cs[j]? = some z ∧ baseV z = some u := by
  match cs, hl with
  | [z0, z1], _ =>
    obtain ⟨_, hff⟩ := trod_fields Tryz.underlying79 hf
    have kc3 : Tryz.prog.cellsOf 3 = 1 := by kernel_rfl
    simp only [List.mem_cons, List.not_mem_nil, or_false, forall_eq_or_imp, forall_eq, kc3] at hff
    obtain ⟨⟨f0, y0, k0⟩, ⟨f1, y1, k1⟩⟩ := hff
    obtain ⟨a, rfl⟩ := one_int k0
    obtain ⟨b, rfl⟩ := one_int k1
    refine ⟨⟨a, b⟩, trivial, fun j u hj => ?_⟩
    have h3 : j < 2 := (List.getElem?_eq_some_iff.1 hj).1
    match j, h3 with
    | 0, _ | 1, _ => cases hj; exact ⟨_, rfl, rfl⟩
theorem open_sps {r : Reach} {b0 : Nat} {v : Value} {d : DataW H'} {ps : List MemPlace} (hval : Value.okWide Tryz.prog w r b0 125 v) (hd : DataW.Trod enc Tryz.prog w base sp held 125 v d ps) :
    ∃ (sa wa : Option Addr) (m sc wn wc : Nat) (tk : Int) (L M : List Spn), Sl (wbase2 w) H.empty 2 (.slice sa m sc) m (L.flatMap Spn.cells) ∧ L.length = m ∧ Sl (wbase2 w) H.empty 2 (.slice wa wn wc) wn (M.flatMap Spn.cells) ∧ M.length = wn ∧ VRel (fun _ => none) (.agg ⟨[.slice sa m sc, .slice wa wn wc, .int .i64 tk]⟩) v := by
  obtain ⟨cs, fuel, rfl, hl, hf⟩ := open_agg Tryz.underlying125 (n := 3) (by kernel_rfl) hval hd
  obtain ⟨_, hff⟩ := trod_fields Tryz.underlying125 hf
  have kc3 : Tryz.prog.cellsOf 3 = 1 := by kernel_rfl
  have kc52 : Tryz.prog.cellsOf 52 = 1 := by kernel_rfl
  match cs, hl with
  | [z0, z1, z2], _ =>
    simp only [List.mem_cons, List.not_mem_nil, or_false, forall_eq_or_imp, forall_eq, kc3, kc52] at hff
    obtain ⟨⟨f0, y0, k0⟩, ⟨f1, y1, k1⟩, ⟨f2, y2, k2⟩⟩ := hff
    obtain ⟨tk, rfl⟩ := one_int k2
    obtain ⟨sv, sv0, n, l, g1, hv1, sl1, hln1, _⟩ := trod_slN Spn.cells (fun _ => True) (es := 2) (by omega) (fun _ => rfl) Tryz.underlying52 (by kernel_rfl) (fun _ _ _ hl q => spn_read hl q) k0
    obtain ⟨ca, cc, rfl⟩ := sl1.form
    simp at g1
    subst g1
    obtain ⟨tv, tv0, n', l', g2, hv2, sl2, hln2, _⟩ := trod_slN Spn.cells (fun _ => True) (es := 2) (by omega) (fun _ => rfl) Tryz.underlying52 (by kernel_rfl) (fun _ _ _ hl q => spn_read hl q) k1
    obtain ⟨da, dc, rfl⟩ := sl2.form
    simp at g2
    subst g2
    refine ⟨ca, da, n, cc, n', dc, tk, l, l', sl1, hln1, sl2, hln2, .agg _ _ rfl fun j u u' h1 h2 => ?_⟩
    have hj : j < 3 := (List.getElem?_eq_some_iff.1 h1).1
    match j, hj with
    | 0, _ => cases h1; cases h2; exact baseV_rel hv1
    | 1, _ => cases h1; cases h2; exact baseV_rel hv2
    | 2, _ => cases h1; cases h2; exact .int _ _
end Go.Proofs.YtlioomhcdlicmaaGreatDoor

namespace Go.Proofs.YtlioomhcdlicmaaGreatDoor
open Go Go.Ab Go.RowKit Go.ChangeShapes Go.WideShapes Go.ChangeAt

set_option maxRecDepth 100000 in
theorem contract10 (walk : Walk 10 Tryz.f10 Rows.surveyDiariesRow.laid) (H : Type) (enc : TypeId × Value → H) (W : World) (base : Nat) (args : Array Value) (ds gs : List (DataW H)) (before : List MemPlace)
    (hval : ∀ (j : Nat) t v, Tryz.f10.params[j]? = some t → args[j]? = some v → Value.okWide Tryz.prog W .any base t v)
    (hW : DataW.Whole enc Tryz.prog Tryz.f10.params.toList Rows.surveyDiariesSpec.vars false W args.toList ds gs before) (hL : laidMetH Tryz.prog Rows.surveyDiariesRow.laid W) :
    Calls Tryz.prog 10 args W fun e W' => ∃ v, e = .returned v ∧ Rows.surveyDiariesSpec.post enc Tryz.prog Tryz.f10 false true false false W args v W' := by
  have hW' := hW
  obtain ⟨p, q, hA0, hV, rfl, hfz, hnd⟩ := hW
  have hA : DataW.TrodAll enc Tryz.prog W 0 (fun _ => true) true Tryz.f10.params.toList args.toList ds p := hA0
  obtain ⟨rfl, rfl⟩ := trodVars_none hV
  refine (walk H enc W base args ds p hval hA hL).mono fun e W' ⟨he, hb⟩ => ?_
  subst he
  refine ⟨_, rfl, law_post laidOut (by kernel_rfl) rfl (tb := 4) (by kernel_rfl) (by kernel_rfl) ?_ hW' hb⟩
  have hp : Tryz.f10.params.toList = [37, 70, 125] := by kernel_rfl
  rw [hp] at hA
  obtain ⟨v0, vs0, d0, ds0, p0, q0, hargs, rfl, rfl, h0, r0⟩ := trodAll_cons hA
  obtain ⟨v1, vs1, d1, ds1, p1, q1, rfl, rfl, rfl, h1, r1⟩ := trodAll_cons r0
  obtain ⟨v2, vs2, d2, ds2, p2, q2, rfl, rfl, rfl, h2, r2⟩ := trodAll_cons r1
  obtain ⟨rfl, rfl, rfl⟩ := trodAll_nil r2
  rfl
def witArgs10 : Array Value := #[.agg #[.int .i64 0, .int .i64 0, .int .i64 0, .int .i64 0, .int .i64 0], .agg #[.int .i64 0, .int .i64 0, .int .i64 0, .int .i64 0, .int .i64 0, .slice none 0 0], .agg #[.slice none 0 0, .slice none 0 0, .int .i64 0]]
set_option maxRecDepth 100000 in
theorem laid_met10 (os : Os) : laidMet Tryz.prog Rows.surveyDiariesRow.laid ((laidWorld os).forCall (fun _ _ => 0) ⟨#[], witArgs10, []⟩).memory :=
  laidMet_of_run' 8 (by kernel_rfl) (by kernel_rfl)
set_option maxRecDepth 100000 in
theorem reads10 (os : Os) {H : Type} (enc : TypeId × Value → H) : ∃ d places, DataW.whole enc Tryz.prog ((laidWorld os).forCall (fun _ _ => 0) ⟨#[], witArgs10, []⟩).memory Tryz.f10.params.toList Rows.surveyDiariesSpec.vars false witArgs10.toList 8 = some (d, [], places) :=
  ⟨[.agg [.agg [.lit (.int .i64 0), .lit (.int .i64 0)], .agg [.lit (.int .i64 0), .lit (.int .i64 0)], .lit (.int .i64 0)], .agg [.agg [.lit (.int .i64 0), .lit (.int .i64 0), .lit (.int .i64 0), .lit (.int .i64 0), .lit (.int .i64 0)], .nil], .agg [.nil, .nil, .lit (.int .i64 0)]], [], by kernel_rfl⟩
set_option maxRecDepth 100000 in
theorem lifted10 (walk : Walk 10 Tryz.f10 Rows.surveyDiariesRow.laid) (os : Os) (started : os.Started) (H : Type) (enc : TypeId × Value → H) (F : Stop.Interp) :
    ReturnsInHanded {} Tryz.checked os 10 .any ((OpenSpec.ofChange Rows.surveyDiariesSpec).preRow enc Tryz.prog Tryz.f10 Rows.surveyDiariesRow.domain false Rows.surveyDiariesRow.laid) (((OpenSpec.ofChange Rows.surveyDiariesSpec).at F).post enc Tryz.prog Tryz.f10 false true false false) := by
  obtain ⟨d, places, hx⟩ := reads10 os enc
  refine returnsInHanded_of_row (C := Tryz.checked) (s := OpenSpec.ofChange Rows.surveyDiariesSpec) own started (by kernel_rfl) Tryz.func10
    (witness_row_at (enc := enc) (C := Tryz.checked) false (laidWorld os) witArgs10 rfl (by kernel_rfl) (by kernel_rfl) (by kernel_rfl)
      (OpenSpec.preRow_of_cond 8 hx (by kernel_rfl) (fun k hk => by cases hk) (by kernel_rfl) (laid_met10 os))) ?_
  intro W base args ds gs before hval hW _ _ _ hL _ _
  exact contract10 walk H enc W base args ds gs before hval hW hL
end Go.Proofs.YtlioomhcdlicmaaGreatDoor

/- The walk of SurveyDiaries, from its contract. -/
namespace Go.Proofs.YtlioomhcdlicmaaGreatDoor
open Go Go.Ab Go.RowKit Go.ChangeShapes Go.WideShapes Go.ChangeAt
set_option maxRecDepth 10000
theorem walk10 : Walk 10 Tryz.f10 Rows.surveyDiariesRow.laid := by
  intro H enc W base args ds p hval hA hL
  have hp : Tryz.f10.params.toList = [37, 70, 125] := by kernel_rfl
  have hv : ∀ (j : Nat) t v, [37, 70, 125][j]? = some t → args.toList[j]? = some v → Value.okWide Tryz.prog W .any base t v := fun j t v h1 h2 => hval j t v (by rw [← hp] at h1; simpa using h1) (by simpa using h2)
  rw [hp] at hA
  obtain ⟨al⟩ := args
  simp only at hA hv
  obtain ⟨v0, vs0, d0, ds0, p0, q0, rfl, rfl, rfl, h0, r0⟩ := trodAll_cons hA
  obtain ⟨v1, vs1, d1, ds1, p1, q1, rfl, rfl, rfl, h1, r1⟩ := trodAll_cons r0
  obtain ⟨v2, vs2, d2, ds2, p2, q2, rfl, rfl, rfl, h2, r2⟩ := trodAll_cons r1
  obtain ⟨rfl, rfl, rfl⟩ := trodAll_nil r2
  obtain ⟨x, y, u, v, t, k0⟩ := open_ves (hv 0 37 _ rfl rfl) h0
  obtain ⟨r, sp, lo, cl, so, a, n, c, l, s, hl, k1⟩ := open_seen (hv 1 70 _ rfl rfl) h1
  obtain ⟨sa, wa, m, sc, wn, wc, tk, L, M, p, hlen, pw, hM, k2⟩ := open_sps (hv 2 125 _ rfl rfl) h2
  exact walk_cf3 (base_ok hL) rfl (lrel_cons k0 (lrel_cons k1 (lrel_cons k2 lrel_nil))) (c10 s hl p hlen pw hM Wf.empty)
end Go.Proofs.YtlioomhcdlicmaaGreatDoor
