/- The walk of CoverMoved; the frame of a card. -/
import Derived.Test.YtnkmencbnoipmaaGreatDoorA6
import Derived.Test.YtnkmencbnoipmaaGreatDoorW4
import Derived.Test.YtnkmencbnoipmaaGreatDoorCards
import Derived.Test.YtnkmencbnoipmaaGreatDoorTie
import Derived.Test.YtnkmencbnoipmaaGreatDoorS1
import Derived.Test.YtnkmencbnoipmaaGreatDoorK4
import Derived.Test.YtnkmencbnoipmaaGreatDoorM1
import Derived.Test.YtnkmencbnoipmaaGreatDoorL3
set_option linter.all false
namespace Go.Proofs.YtnkmencbnoipmaaGreatDoor
open Go Go.Ab Go.RowKit Go.ChangeShapes Go.WideShapes Go.ChangeAt

theorem own : ownKnob Tryz.prog.godebug = none := by kernel_rfl
theorem laidOut : laidOutB Tryz.prog = true := by kernel_rfl

/-- What a walk of the law must show: called with any readable arguments in a world that holds the tables. -/
def Walk (f : Nat) (fn : Func) (laid : List (String × DataW Unit)) : Prop :=
  ∀ (H : Type) (enc : TypeId × Value → H) (W : World) (base : Nat) (args : Array Value) (ds : List (DataW H)) (p : List MemPlace),
    (∀ (j : Nat) t v, fn.params[j]? = some t → args[j]? = some v → Value.okWide Tryz.prog W .any base t v) →
    DataW.TrodAll enc Tryz.prog W 0 (fun _ => true) true fn.params.toList args.toList ds p → laidMetH Tryz.prog laid W →
    Calls Tryz.prog f args W fun e W' => e = .returned (.bool true) ∧ Below W.heap.size W W'

/-- A WORLD FOR THE WITNESS: the settled one, the tables holding what their initialisers lay. -/
def laidObj (g : Nat) : Obj → Obj
  | .cells _ t frozen => .cells ⟨tabAt g⟩ t frozen
  | o => o
noncomputable def laidHeap (hp : Array Obj) : Array Obj := ((((hp.modify 0 (laidObj 0)).modify 2 (laidObj 2)).modify 3 (laidObj 3)).modify 4 (laidObj 4))
noncomputable def laidWorld (os : Os) : World :=
  { World.holding Tryz.prog os ⟨#[], #[], []⟩ with heap := laidHeap (World.holding Tryz.prog os ⟨#[], #[], []⟩).heap }
end Go.Proofs.YtnkmencbnoipmaaGreatDoor

/- Arguments opened; from a contract to a walk. -/
namespace Go.Proofs.YtnkmencbnoipmaaGreatDoor
open Go Go.Ab Go.RowKit Go.ChangeShapes Go.WideShapes Go.ChangeAt
set_option maxRecDepth 10000
variable {H' : Type} {enc : TypeId × Value → H'} {w : World} {base : Nat} {sp : Nat → Bool} {held : Bool}
theorem tab_gd : ∀ k, (tabAt k).all gd = true := by
  intro k
  unfold tabAt
  split <;> decide +kernel
theorem laid_gd {a : Addr} {v : Value} (h : laidBase a = some v) : gd v = true := by
  unfold laidBase at h
  split at h
  · exact List.all_eq_true.1 (tab_gd _) v (List.mem_of_getElem? h)
  · cases h
theorem lrel_nil {ρ : Ctx} : LRel ρ [] [] := ⟨rfl, fun j v v' a _ => by simp at a⟩
theorem lrel_cons {ρ : Ctx} {v v' : Value} {l l' : List Value} (h : VRel ρ v v') (r : LRel ρ l l') : LRel ρ (v :: l) (v' :: l') := ⟨by simp [r.1], fun j a b q1 q2 => by
  cases j with
  | zero => simp at q1 q2; subst q1 q2; exact h
  | succ j => simp at q1 q2; exact r.2 j a b q1 q2⟩
theorem laid_wbase2 {W : World} (hB : BaseOk W.heap.size laidBase W) : ∀ a v, laidBase a = some v → wbase2 W a = some v := fun a v h => by
  obtain ⟨_, _, u, q, r⟩ := hB.cell a v h
  have := r.gd_eq (laid_gd h)
  subst this
  exact wbase2_some q (baseV_gd (laid_gd h))
theorem walk_cf3 {W : World} (hB : BaseOk W.heap.size laidBase W) {f : Nat} (hf : extz f = none) {args args' : List Value} (hA : LRel (fun _ => none) args args') {Q : H → Prop}
    (hc : Cf (mz (wbase2 W)) (.func (.func f) #[] #[]) args H.empty fun v h' => v = .bool true ∧ Q h') : Calls Tryz.prog f args'.toArray W fun e W' => e = .returned (.bool true) ∧ Below W.heap.size W W' := by
  obtain ⟨v, h', ⟨N, hn⟩, rfl, _⟩ := hc
  exact calls_of_ev mixed (wbase2_ok W) (extz_sound (laid_wbase2 hB)) no_count hf (hn N (Nat.le_refl _)) hA rfl
/-- An integer of a kind. -/
theorem open_int {t : TypeId} {k : IntKind} (hu : Tryz.prog.underlying t = some (.int k)) {r : Reach} {b0 : Nat} {v : Value} {d : DataW H'} {ps : List MemPlace} (hval : Value.okWide Tryz.prog w r b0 t v) (hd : DataW.Trod enc Tryz.prog w base sp held t v d ps) :
    ∃ z : Int, VRel (fun _ => none) (.int k z) v ∧ k.min ≤ z ∧ z ≤ k.max := by
  have hv : ∃ k z, v = .int k z := by
    simp only [Value.okWide, hu, Cell.okWide] at hval
    cases v <;> simp_all [Cell.ok]
  obtain ⟨k', z, rfl⟩ := hv
  obtain ⟨fuel, hf⟩ := hd
  have hf : DataW.trod enc Tryz.prog w base sp held fuel t [.int k' z] = some (d, ps) := hf
  obtain ⟨y, e, _, hw⟩ := DataW.trod_int hu hf
  cases e
  have hw' : k.min ≤ z ∧ z ≤ k.max := by simpa [Lit.wf] using hw
  exact ⟨z, VRel.gd_refl rfl, hw'⟩
end Go.Proofs.YtnkmencbnoipmaaGreatDoor

/- Arguments opened: lists, lines, jobs. -/
namespace Go.Proofs.YtnkmencbnoipmaaGreatDoor
open Go Go.Ab Go.RowKit Go.ChangeShapes Go.WideShapes Go.ChangeAt
set_option maxRecDepth 10000
variable {H' : Type} {enc : TypeId × Value → H'} {w : World} {base : Nat} {sp : Nat → Bool} {held : Bool}
theorem flat_sing {α : Type} (f : α → Value) (l : List α) : l.flatMap (fun y => [f y]) = l.map f := by
  induction l with
  | nil => rfl
  | cons a l ih => simp [List.flatMap_cons, ih]
theorem int_read {fuel : Nat} {cs : List Value} {x : DataW H' × List MemPlace} (h : DataW.trod enc Tryz.prog w base sp held fuel 3 cs = some x) : ∃ y : Int, True ∧ ∀ (j : Nat) u, ([Value.int .i64 y])[j]? = some u → ∃ z, cs[j]? = some z ∧ baseV z = some u := by
  obtain ⟨b, rfl, _⟩ := DataW.trod_int Tryz.underlying3 h
  refine ⟨b, trivial, fun j u hj => ?_⟩
  match j, hj with
  | 0, hj => cases hj; exact ⟨_, rfl, rfl⟩
theorem one_int {fuel : Nat} {v : Value} {x : DataW H' × List MemPlace} (h : DataW.trod enc Tryz.prog w base sp held fuel 3 [v] = some x) : ∃ y : Int, v = .int .i64 y := by
  obtain ⟨b, e, _⟩ := DataW.trod_int Tryz.underlying3 h
  cases e
  exact ⟨b, rfl⟩
theorem two_int {t : TypeId} (ht : Tryz.prog.underlying t = Tryz.prog.underlying 23) {fuel : Nat} {v u : Value} {x : DataW H' × List MemPlace} (h : DataW.trod enc Tryz.prog w base sp held fuel t [v, u] = some x) : ∃ y z : Int, v = .int .i64 y ∧ u = .int .i64 z := by
  obtain ⟨hl, hff⟩ := trod_fields (ht.trans Tryz.underlying23) h
  have kc3 : Tryz.prog.cellsOf 3 = 1 := by kernel_rfl
  simp only [List.mem_cons, List.not_mem_nil, or_false, forall_eq_or_imp, forall_eq, kc3] at hff
  obtain ⟨⟨f0, y0, k0⟩, ⟨f1, y1, k1⟩⟩ := hff
  obtain ⟨a, e0⟩ := one_int k0
  obtain ⟨b, e1⟩ := one_int k1
  exact ⟨a, b, e0, e1⟩
theorem ln_read {fuel : Nat} {cs : List Value} {x : DataW H' × List MemPlace} (hl : cs.length = 12) (hf : DataW.trod enc Tryz.prog w base sp held fuel 45 cs = some x) :
    ∃ t : LnM, LnO (wbase2 w) H.empty t ∧ ∀ (j : Nat) u, t.cells[j]? = some u → ∃ z, cs[j]? = some z ∧ baseV z = some u := by
  obtain ⟨_, hff⟩ := trod_fields Tryz.underlying45 hf
  have kc23 : Tryz.prog.cellsOf 23 = 2 := by kernel_rfl
  have kc9 : Tryz.prog.cellsOf 9 = 1 := by kernel_rfl
  have kc41 : Tryz.prog.cellsOf 41 = 1 := by kernel_rfl
  have kc3 : Tryz.prog.cellsOf 3 = 1 := by kernel_rfl
  match cs, hl with
  | [z0, z1, z2, z3, z4, z5, z6, z7, z8, z9, z10, z11], _ =>
    simp only [List.mem_cons, List.not_mem_nil, or_false, forall_eq_or_imp, forall_eq, kc23, kc3, kc9, kc41] at hff
    obtain ⟨⟨f0, y0, k0⟩, ⟨f1, y1, k1⟩, ⟨f2, y2, k2⟩, ⟨f3, y3, k3⟩, ⟨f4, y4, k4⟩, ⟨f5, y5, k5⟩, ⟨f6, y6, k6⟩, ⟨f7, y7, k7⟩⟩ := hff
    obtain ⟨nm, g0, _⟩ := DataW.trod_string Tryz.underlying9 k0
    obtain ⟨x, y, rfl, rfl⟩ := two_int rfl k1
    obtain ⟨tx, ty, rfl, rfl⟩ := two_int rfl k2
    obtain ⟨sh, rfl⟩ := one_int k3
    obtain ⟨nx, ny, rfl, rfl⟩ := two_int rfl k4
    obtain ⟨px, py, rfl, rfl⟩ := two_int rfl k5
    obtain ⟨ch, rfl⟩ := one_int k6
    obtain ⟨sv, sv0, n, rf, g1, hv, sl, hln, _⟩ := trod_slN (fun y : Int => [Value.int .i64 y]) (fun _ => True) (es := 1) (by omega) (fun _ => rfl) Tryz.underlying41 (by kernel_rfl) (fun _ _ _ _ q => int_read q) k7
    rw [flat_sing] at sl
    obtain ⟨a, c, rfl⟩ := sl.form
    simp at g0 g1
    subst g0 g1
    subst hln
    refine ⟨⟨⟨nm, x, y, tx, ty, sh, nx, ny, px, py, ch, rf⟩, a, c⟩, ⟨sl⟩, fun j u hj => ?_⟩
    have hj12 : j < 12 := (List.getElem?_eq_some_iff.1 hj).1
    match j, hj12 with
    | 0, _ | 1, _ | 2, _ | 3, _ | 4, _ | 5, _ | 6, _ | 7, _ | 8, _ | 9, _ | 10, _ => cases hj; exact ⟨_, rfl, rfl⟩
    | 11, _ => cases hj; exact ⟨_, rfl, hv⟩
theorem sl_max {t e : TypeId} {fuel : Nat} {z : Value} {x : DataW H' × List MemPlace} (ht : Tryz.prog.underlying t = some (.slice e)) (h : DataW.trod enc Tryz.prog w base sp held fuel t [z] = some x) {a : Option Addr} {n c : Nat} (k : VRel (fun _ => none) (.slice a n c) z) : n ≤ maxLen := by
  rcases DataW.trod_slice ht h with ⟨e, _⟩ | ⟨a1, n1, c1, elems, rest, m, _, e, _, hb, h1, h2, _⟩
  · have e : [z] = [.slice none 0 0] := e
    cases e
    cases k <;> exact Nat.zero_le _
  · have e : [z] = [.slice (some a1) n1 c1] := e
    cases e
    have hn0 : n1 ≤ maxLen := Nat.le_trans h1 h2
    cases k <;> first | exact hn0 | exact Nat.zero_le _
theorem open_job {r : Reach} {b0 : Nat} {v : Value} {d : DataW H'} {ps : List MemPlace} (hval : Value.okWide Tryz.prog w r b0 69 v) (hd : DataW.Trod enc Tryz.prog w base sp held 69 v d ps) :
    ∃ (ox oy wi u p q W : Int) (ca : Option Addr) (m cc : Nat) (cl : List Int) (la : Option Addr) (n lc : Nat) (ts : List LnM), Sl (wbase2 w) H.empty 1 (.slice ca m cc) m (cl.map (.int .i64)) ∧ m ≤ maxLen ∧ SlN (wbase2 w) H.empty (.slice la n lc) n ts ∧ n ≤ maxLen ∧
      VRel (fun _ => none) (.agg ⟨[.int .i64 ox, .int .i64 oy, .int .i64 wi, .int .i64 u, .int .i64 p, .int .i64 q, .slice ca m cc, .slice la n lc, .int .i64 W]⟩) v := by
  have hv : ∃ cs : List Value, v = .agg ⟨cs⟩ := by
    simp only [Value.okWide, Tryz.underlying69] at hval
    obtain ⟨⟨cs⟩, rfl, _⟩ := hval
    exact ⟨cs, rfl⟩
  obtain ⟨cs, rfl⟩ := hv
  obtain ⟨fuel, hf⟩ := hd
  have hf : DataW.trod enc Tryz.prog w base sp held fuel 69 cs = some (d, ps) := hf
  obtain ⟨hl, hff⟩ := trod_fields Tryz.underlying69 hf
  have kc69 : Tryz.prog.cellsOf 69 = 9 := by kernel_rfl
  have kc25 : Tryz.prog.cellsOf 25 = 6 := by kernel_rfl
  have kc23 : Tryz.prog.cellsOf 23 = 2 := by kernel_rfl
  have kc41 : Tryz.prog.cellsOf 41 = 1 := by kernel_rfl
  have kc26 : Tryz.prog.cellsOf 26 = 1 := by kernel_rfl
  have kc3 : Tryz.prog.cellsOf 3 = 1 := by kernel_rfl
  rw [kc69] at hl
  match cs, hl with
  | [z0, z1, z2, z3, z4, z5, z6, z7, z8], _ =>
    simp only [List.mem_cons, List.not_mem_nil, or_false, forall_eq_or_imp, forall_eq, kc25, kc3, kc41, kc26] at hff
    obtain ⟨⟨f0, y0, k0⟩, ⟨f1, y1, k1⟩, ⟨f2, y2, k2⟩, ⟨f3, y3, k3⟩⟩ := hff
    obtain ⟨_, hgg⟩ := trod_fields Tryz.underlying25 k0
    simp only [List.mem_cons, List.not_mem_nil, or_false, forall_eq_or_imp, forall_eq, kc23, kc3] at hgg
    obtain ⟨⟨g0, x0, j0⟩, ⟨g1, x1, j1⟩, ⟨g2, x2, j2⟩, ⟨g3, x3, j3⟩, ⟨g4, x4, j4⟩⟩ := hgg
    obtain ⟨a, b, rfl, rfl⟩ := two_int rfl j0
    obtain ⟨wi, rfl⟩ := one_int j1
    obtain ⟨u, rfl⟩ := one_int j2
    obtain ⟨p, rfl⟩ := one_int j3
    obtain ⟨q, rfl⟩ := one_int j4
    obtain ⟨W, rfl⟩ := one_int k3
    obtain ⟨sv, sv0, m, cl, g1, hv1, sl1, hln1, _⟩ := trod_slN (fun y : Int => [Value.int .i64 y]) (fun _ => True) (es := 1) (by omega) (fun _ => rfl) Tryz.underlying41 (by kernel_rfl) (fun _ _ _ _ q => int_read q) k1
    rw [flat_sing] at sl1
    obtain ⟨ca, cc, rfl⟩ := sl1.form
    obtain ⟨tv, tv0, n, ts, g2, hv2, sl2, hln2, hok⟩ := trod_slN LnM.cells (LnO (wbase2 w) H.empty) (es := 12) (by omega) (fun _ => rfl) Tryz.underlying26 (by kernel_rfl) (fun _ _ _ hl q => ln_read hl q) k2
    obtain ⟨la, lc, rfl⟩ := sl2.form
    simp at g1 g2
    subst g1 g2
    have m1 := sl_max Tryz.underlying41 k1 (baseV_rel hv1)
    have m2 := sl_max Tryz.underlying26 k2 (baseV_rel hv2)
    refine ⟨a, b, wi, u, p, q, W, ca, m, cc, cl, la, n, lc, ts, sl1, m1, ⟨sl2, hln2, hok⟩, m2, .agg _ _ rfl fun j u u' h1 h2 => ?_⟩
    have hj : j < 9 := (List.getElem?_eq_some_iff.1 h1).1
    match j, hj with
    | 0, _ | 1, _ | 2, _ | 3, _ | 4, _ | 5, _ | 8, _ => cases h1; cases h2; exact .int _ _
    | 6, _ => cases h1; cases h2; exact baseV_rel hv1
    | 7, _ => cases h1; cases h2; exact baseV_rel hv2
end Go.Proofs.YtnkmencbnoipmaaGreatDoor

namespace Go.Proofs.YtnkmencbnoipmaaGreatDoor
open Go Go.Ab Go.RowKit Go.ChangeShapes Go.WideShapes Go.ChangeAt

set_option maxRecDepth 100000 in
theorem contract7 (walk : Walk 7 Tryz.f7 Rows.coverMovedRow.laid) (H : Type) (enc : TypeId × Value → H) (W : World) (base : Nat) (args : Array Value) (ds gs : List (DataW H)) (before : List MemPlace)
    (hval : ∀ (j : Nat) t v, Tryz.f7.params[j]? = some t → args[j]? = some v → Value.okWide Tryz.prog W .any base t v)
    (hW : DataW.Whole enc Tryz.prog Tryz.f7.params.toList Rows.coverMovedSpec.vars false W args.toList ds gs before) (hL : laidMetH Tryz.prog Rows.coverMovedRow.laid W) :
    Calls Tryz.prog 7 args W fun e W' => ∃ v, e = .returned v ∧ Rows.coverMovedSpec.post enc Tryz.prog Tryz.f7 false true false false W args v W' := by
  have hW' := hW
  obtain ⟨p, q, hA0, hV, rfl, hfz, hnd⟩ := hW
  have hA : DataW.TrodAll enc Tryz.prog W 0 (fun _ => true) true Tryz.f7.params.toList args.toList ds p := hA0
  obtain ⟨rfl, rfl⟩ := trodVars_none hV
  refine (walk H enc W base args ds p hval hA hL).mono fun e W' ⟨he, hb⟩ => ?_
  subst he
  refine ⟨_, rfl, law_post laidOut (by kernel_rfl) rfl (tb := 4) (by kernel_rfl) (by kernel_rfl) ?_ hW' hb⟩
  have hp : Tryz.f7.params.toList = [69, 23, 5] := by kernel_rfl
  rw [hp] at hA
  obtain ⟨v0, vs0, d0, ds0, p0, q0, hargs, rfl, rfl, h0, r0⟩ := trodAll_cons hA
  obtain ⟨v1, vs1, d1, ds1, p1, q1, rfl, rfl, rfl, h1, r1⟩ := trodAll_cons r0
  obtain ⟨v2, vs2, d2, ds2, p2, q2, rfl, rfl, rfl, h2, r2⟩ := trodAll_cons r1
  obtain ⟨rfl, rfl, rfl⟩ := trodAll_nil r2
  rfl
def witArgs7 : Array Value := #[.agg #[.int .i64 0, .int .i64 0, .int .i64 0, .int .i64 0, .int .i64 0, .int .i64 0, .slice none 0 0, .slice none 0 0, .int .i64 0], .agg #[.int .i64 0, .int .i64 0], .int .u8 0]
set_option maxRecDepth 100000 in
theorem laid_met7 (os : Os) : laidMet Tryz.prog Rows.coverMovedRow.laid ((laidWorld os).forCall (fun _ _ => 0) ⟨#[], witArgs7, []⟩).memory :=
  laidMet_of_run' 8 (by kernel_rfl) (by kernel_rfl)
set_option maxRecDepth 100000 in
theorem reads7 (os : Os) {H : Type} (enc : TypeId × Value → H) : ∃ d places, DataW.whole enc Tryz.prog ((laidWorld os).forCall (fun _ _ => 0) ⟨#[], witArgs7, []⟩).memory Tryz.f7.params.toList Rows.coverMovedSpec.vars false witArgs7.toList 8 = some (d, [], places) :=
  ⟨[.agg [.agg [.agg [.lit (.int .i64 0), .lit (.int .i64 0)], .lit (.int .i64 0), .lit (.int .i64 0), .lit (.int .i64 0), .lit (.int .i64 0)], .nil, .nil, .lit (.int .i64 0)], .agg [.lit (.int .i64 0), .lit (.int .i64 0)], .lit (.int .u8 0)], [], by kernel_rfl⟩
set_option maxRecDepth 100000 in
theorem lifted7 (walk : Walk 7 Tryz.f7 Rows.coverMovedRow.laid) (os : Os) (started : os.Started) (H : Type) (enc : TypeId × Value → H) (F : Stop.Interp) :
    ReturnsInHanded {} Tryz.checked os 7 .any ((OpenSpec.ofChange Rows.coverMovedSpec).preRow enc Tryz.prog Tryz.f7 Rows.coverMovedRow.domain false Rows.coverMovedRow.laid) (((OpenSpec.ofChange Rows.coverMovedSpec).at F).post enc Tryz.prog Tryz.f7 false true false false) := by
  obtain ⟨d, places, hx⟩ := reads7 os enc
  refine returnsInHanded_of_row (C := Tryz.checked) (s := OpenSpec.ofChange Rows.coverMovedSpec) own started (by kernel_rfl) Tryz.func7
    (witness_row_at (enc := enc) (C := Tryz.checked) false (laidWorld os) witArgs7 rfl (by kernel_rfl) (by kernel_rfl) (by kernel_rfl)
      (OpenSpec.preRow_of_cond 8 hx (by kernel_rfl) (fun k hk => by cases hk) (by kernel_rfl) (laid_met7 os))) ?_
  intro W base args ds gs before hval hW _ _ _ hL _ _
  exact contract7 walk H enc W base args ds gs before hval hW hL
end Go.Proofs.YtnkmencbnoipmaaGreatDoor

/- The walk of CoverMoved, from its contract. -/
namespace Go.Proofs.YtnkmencbnoipmaaGreatDoor
open Go Go.Ab Go.RowKit Go.ChangeShapes Go.WideShapes Go.ChangeAt
set_option maxRecDepth 10000
variable {H' : Type} {enc : TypeId × Value → H'} {w : World} {base : Nat} {sp : Nat → Bool} {held : Bool}
theorem open_two {t : TypeId} (fs : Array Field) (hu : Tryz.prog.underlying t = some (.struct fs)) (ht : Tryz.prog.cellsOf t = 2) (h2 : ∀ (fuel : Nat) (v u : Value) (x : DataW H' × List MemPlace), DataW.trod enc Tryz.prog w base sp held fuel t [v, u] = some x → ∃ y z : Int, v = .int .i64 y ∧ u = .int .i64 z) {r : Reach} {b0 : Nat} {v : Value} {d : DataW H'} {ps : List MemPlace} (hval : Value.okWide Tryz.prog w r b0 t v) (hd : DataW.Trod enc Tryz.prog w base sp held t v d ps) :
    ∃ a b : Int, VRel (fun _ => none) (.agg ⟨[.int .i64 a, .int .i64 b]⟩) v := by
  have hv : ∃ cs : List Value, v = .agg ⟨cs⟩ := by
    simp only [Value.okWide, hu] at hval
    obtain ⟨⟨cs⟩, rfl, _⟩ := hval
    exact ⟨cs, rfl⟩
  obtain ⟨cs, rfl⟩ := hv
  obtain ⟨fuel, hf⟩ := hd
  have hf : DataW.trod enc Tryz.prog w base sp held fuel t cs = some (d, ps) := hf
  obtain ⟨hl, hff⟩ := trod_fields hu hf
  rw [ht] at hl
  match cs, hl with
  | [x0, x1], _ =>
    obtain ⟨a, b, rfl, rfl⟩ := h2 _ _ _ _ hf
    exact ⟨a, b, VRel.gd_refl rfl⟩
theorem walk7 : Walk 7 Tryz.f7 Rows.coverMovedRow.laid := by
  intro H enc W base args ds p hval hA hL
  have hp : Tryz.f7.params.toList = [69, 23, 5] := by kernel_rfl
  have hv : ∀ (j : Nat) t v, [69, 23, 5][j]? = some t → args.toList[j]? = some v → Value.okWide Tryz.prog W .any base t v := fun j t v h1 h2 => hval j t v (by rw [← hp] at h1; simpa using h1) (by simpa using h2)
  rw [hp] at hA
  obtain ⟨al⟩ := args
  simp only at hA hv
  obtain ⟨v0, vs0, d0, ds0, p0, q0, rfl, rfl, rfl, h0, r0⟩ := trodAll_cons hA
  obtain ⟨v1, vs1, d1, ds1, p1, q1, rfl, rfl, rfl, h1, r1⟩ := trodAll_cons r0
  obtain ⟨v2, vs2, d2, ds2, p2, q2, rfl, rfl, rfl, h2, r2⟩ := trodAll_cons r1
  obtain ⟨rfl, rfl, rfl⟩ := trodAll_nil r2
  obtain ⟨a, b, w, u, x, y, Z, ca, m, cc, cl, la, n, lc, ts, sc, hm, s, hn, k0⟩ := open_job (hv 0 69 _ rfl rfl) h0
  obtain ⟨bx, bz, k1⟩ := open_two _ Tryz.underlying23 (by kernel_rfl) (fun _ _ _ _ h => two_int rfl h) (hv 1 23 _ rfl rfl) h1
  obtain ⟨z, k2, z1, z2⟩ := open_int Tryz.underlying5 (hv 2 5 _ rfl rfl) h2
  exact walk_cf3 (base_ok hL) rfl (lrel_cons k0 (lrel_cons k1 (lrel_cons k2 lrel_nil))) (c7 sc hm s hn ⟨z1, z2⟩ Wf.empty (laid_wbase2 (base_ok hL)))
end Go.Proofs.YtnkmencbnoipmaaGreatDoor
