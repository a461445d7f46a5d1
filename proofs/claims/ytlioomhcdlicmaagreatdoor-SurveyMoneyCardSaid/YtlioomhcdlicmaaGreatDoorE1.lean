/- The walk of SurveyMoney; the frame of a card. -/
import Derived.Test.YtlioomhcdlicmaaGreatDoorA6
import Derived.Test.YtlioomhcdlicmaaGreatDoorW4
import Derived.Test.YtlioomhcdlicmaaGreatDoorCards
import Derived.Test.YtlioomhcdlicmaaGreatDoorTie
import Derived.Test.YtlioomhcdlicmaaGreatDoorS1
import Derived.Test.YtlioomhcdlicmaaGreatDoorK4
import Derived.Test.YtlioomhcdlicmaaGreatDoorC2
import Derived.Test.YtlioomhcdlicmaaGreatDoorC10
import Derived.Test.YtlioomhcdlicmaaGreatDoorC8
import Derived.Test.YtlioomhcdlicmaaGreatDoorC16
import Derived.Test.YtlioomhcdlicmaaGreatDoorL2
set_option linter.all false
namespace Go.Proofs.YtlioomhcdlicmaaGreatDoor
open Go Go.Ab Go.RowKit Go.ChangeShapes Go.WideShapes Go.ChangeAt
theorem own : ownKnob Tryz.prog.godebug = none := by kernel_rfl
theorem laidOut : laidOutB Tryz.prog = true := by kernel_rfl
def Walk (f : Nat) (fn : Func) (laid : List (String × DataW Unit)) : Prop :=
 ∀ (H : Type) (enc : TypeId × Value → H) (W : World) (base : Nat) (args : Array Value) (ds : List (DataW H)) (p : List MemPlace),
   (∀ (j : Nat) t v, fn.params[j]? = some t → args[j]? = some v → Value.okWide Tryz.prog W .any base t v) →
   DataW.TrodAll enc Tryz.prog W 0 (fun _ => true) true fn.params.toList args.toList ds p → laidMetH Tryz.prog laid W →
   Calls Tryz.prog f args W fun e W' => e = .returned (.bool true) ∧ Below W.heap.size W W'
def laidObj (g : Nat) : Obj → Obj
 | .cells _ t frozen => .cells ⟨tabAt g⟩ t frozen
 | o => o
noncomputable def laidHeap (hp : Array Obj) : Array Obj := (((hp.modify 1 (laidObj 1)).modify 2 (laidObj 2)).modify 3 (laidObj 3))
noncomputable def laidWorld (os : Os) : World :=
 { World.holding Tryz.prog os ⟨#[], #[], []⟩ with heap := laidHeap (World.holding Tryz.prog os ⟨#[], #[], []⟩).heap }
/- Arguments opened; from a contract to a walk. -/
set_option maxRecDepth 10000
variable {H' : Type} {enc : TypeId × Value → H'} {w : World} {base : Nat} {sp : Nat → Bool} {held : Bool}
theorem tab_gd : ∀ k, (tabAt k).all gd = true := by
 intro k
 unfold tabAt
 split <;> decide +kernel
theorem laid_gd {a : Addr} {v : Value} (h : laidBase a = some v) : gd v = true := by
 unfold laidBase at h
 split at h
 · exact List.all_eq_true.1 (tab_gd _) v (List.mem_of_getElem? h)
 · cases h
theorem lrel_nil {ρ : Ctx} : LRel ρ [] [] := ⟨rfl, fun j v v' a _ => by simp at a⟩
theorem lrel_cons {ρ : Ctx} {v v' : Value} {l l' : List Value} (h : VRel ρ v v') (r : LRel ρ l l') : LRel ρ (v :: l) (v' :: l') := ⟨by simp [r.1], fun j a b q1 q2 => by
 cases j with
 | zero => simp at q1 q2; subst q1 q2; exact h
 | succ j => simp at q1 q2; exact r.2 j a b q1 q2⟩
theorem laid_wbase2 {W : World} (hB : BaseOk W.heap.size laidBase W) : ∀ a v, laidBase a = some v → wbase2 W a = some v := fun a v h => by
 obtain ⟨_, _, u, q, r⟩ := hB.cell a v h
 have := r.gd_eq (laid_gd h)
 subst this
 exact wbase2_some q (baseV_gd (laid_gd h))
theorem walk_cf3 {W : World} (hB : BaseOk W.heap.size laidBase W) {f : Nat} (hf : extz f = none) {args args' : List Value} (hA : LRel (fun _ => none) args args') {Q : H → Prop}
   (hc : Cf (mz (wbase2 W)) (.func (.func f) #[] #[]) args H.empty fun v h' => v = .bool true ∧ Q h') : Calls Tryz.prog f args'.toArray W fun e W' => e = .returned (.bool true) ∧ Below W.heap.size W W' := by
 obtain ⟨v, h', ⟨N, hn⟩, rfl, _⟩ := hc
 exact calls_of_ev mixed (wbase2_ok W) (extz_sound (laid_wbase2 hB)) no_count hf (hn N (Nat.le_refl _)) hA rfl
/- Arguments opened: vessels, watches, lists of records. -/
theorem bZ_ {fuel : Nat} {v : Value} {x : DataW H' × List MemPlace} (h : DataW.trod enc Tryz.prog w base sp held fuel 3 [v] = some x) : ∃ y : Int, v = .int .i64 y := by
 obtain ⟨b, e, _⟩ := DataW.trod_int Tryz.underlying3 h
 cases e
 exact ⟨b, rfl⟩
theorem two_int {t : TypeId} (ht : Tryz.prog.underlying t = Tryz.prog.underlying 35) {fuel : Nat} {v u : Value} {x : DataW H' × List MemPlace} (h : DataW.trod enc Tryz.prog w base sp held fuel t [v, u] = some x) : ∃ y z : Int, v = .int .i64 y ∧ u = .int .i64 z := by
 obtain ⟨hl, hff⟩ := bT_ (ht.trans Tryz.underlying35) h
 have kc3 : Tryz.prog.cellsOf 3 = 1 := by kernel_rfl
 simp only [List.mem_cons, List.not_mem_nil, or_false, forall_eq_or_imp, forall_eq, kc3] at hff
 obtain ⟨⟨f0, y0, k0⟩, ⟨f1, y1, k1⟩⟩ := hff
 obtain ⟨a, e0⟩ := bZ_ k0
 obtain ⟨b, e1⟩ := bZ_ k1
 exact ⟨a, b, e0, e1⟩
theorem sg_read {fuel : Nat} {cs : List Value} {x : DataW H' × List MemPlace} (hl : cs.length = 3) (hf : DataW.trod enc Tryz.prog w base sp held fuel 145 cs = some x) :
   ∃ t : Sg, True ∧ ∀ (j : Nat) u, t.cells[j]? = some u → ∃ z, cs[j]? = some z ∧ baseV z = some u := by
 obtain ⟨_, hff⟩ := bT_ Tryz.underlying145 hf
 have kc35 : Tryz.prog.cellsOf 35 = 2 := by kernel_rfl
 have kc3 : Tryz.prog.cellsOf 3 = 1 := by kernel_rfl
 match cs, hl with
 | [z0, z1, z2], _ =>
   simp only [List.mem_cons, List.not_mem_nil, or_false, forall_eq_or_imp, forall_eq, kc3, kc35] at hff
   obtain ⟨⟨f0, y0, k0⟩, ⟨f1, y1, k1⟩⟩ := hff
   obtain ⟨a, rfl⟩ := bZ_ k0
   obtain ⟨b, c, rfl, rfl⟩ := two_int rfl k1
   refine ⟨⟨a, b, c⟩, trivial, fun j u hj => ?_⟩
   have h3 : j < 3 := (List.getElem?_eq_some_iff.1 hj).1
   match j, h3 with
   | 0, _ | 1, _ | 2, _ => cases hj; exact ⟨_, rfl, rfl⟩
theorem open_agg {t : TypeId} {fs : Array Field} (hu : Tryz.prog.underlying t = some (.struct fs)) {n : Nat} (hn : Tryz.prog.cellsOf t = n) {r : Reach} {b0 : Nat} {v : Value} {d : DataW H'} {ps : List MemPlace} (hval : Value.okWide Tryz.prog w r b0 t v) (hd : DataW.Trod enc Tryz.prog w base sp held t v d ps) :
   ∃ (cs : List Value) (fuel : Nat), v = .agg ⟨cs⟩ ∧ cs.length = n ∧ DataW.trod enc Tryz.prog w base sp held fuel t cs = some (d, ps) := by
 have hv : ∃ cs : List Value, v = .agg ⟨cs⟩ := by
   simp only [Value.okWide, hu] at hval
   obtain ⟨⟨cs⟩, rfl, _⟩ := hval
   exact ⟨cs, rfl⟩
 obtain ⟨cs, rfl⟩ := hv
 obtain ⟨fuel, hf⟩ := hd
 have hf : DataW.trod enc Tryz.prog w base sp held fuel t cs = some (d, ps) := hf
 obtain ⟨hl, hff⟩ := bT_ hu hf
 exact ⟨cs, fuel, rfl, hl.trans hn, hf⟩
theorem five_int {fuel : Nat} {z0 z1 z2 z3 z4 : Value} {x : DataW H' × List MemPlace} (hf : DataW.trod enc Tryz.prog w base sp held fuel 39 [z0, z1, z2, z3, z4] = some x) :
   ∃ a b c d e : Int, z0 = .int .i64 a ∧ z1 = .int .i64 b ∧ z2 = .int .i64 c ∧ z3 = .int .i64 d ∧ z4 = .int .i64 e := by
 obtain ⟨_, hff⟩ := bT_ Tryz.underlying39 hf
 have kc3 : Tryz.prog.cellsOf 3 = 1 := by kernel_rfl
 simp only [List.mem_cons, List.not_mem_nil, or_false, forall_eq_or_imp, forall_eq, kc3] at hff
 obtain ⟨⟨f0, y0, k0⟩, ⟨f1, y1, k1⟩, ⟨f2, y2, k2⟩, ⟨f3, y3, k3⟩, ⟨f4, y4, k4⟩⟩ := hff
 obtain ⟨a, rfl⟩ := bZ_ k0
 obtain ⟨b, rfl⟩ := bZ_ k1
 obtain ⟨c, rfl⟩ := bZ_ k2
 obtain ⟨d, rfl⟩ := bZ_ k3
 obtain ⟨e, rfl⟩ := bZ_ k4
 exact ⟨a, b, c, d, e, rfl, rfl, rfl, rfl, rfl⟩
/- Entries opened. -/
theorem two_i79 {fuel : Nat} {v u : Value} {x : DataW H' × List MemPlace} (h : DataW.trod enc Tryz.prog w base sp held fuel 79 [v, u] = some x) : ∃ y z : Int, v = .int .i64 y ∧ u = .int .i64 z := by
 obtain ⟨hl, hff⟩ := bT_ Tryz.underlying79 h
 have kc3 : Tryz.prog.cellsOf 3 = 1 := by kernel_rfl
 simp only [List.mem_cons, List.not_mem_nil, or_false, forall_eq_or_imp, forall_eq, kc3] at hff
 obtain ⟨⟨f0, y0, k0⟩, ⟨f1, y1, k1⟩⟩ := hff
 obtain ⟨a, e0⟩ := bZ_ k0
 obtain ⟨b, e1⟩ := bZ_ k1
 exact ⟨a, b, e0, e1⟩
theorem sl_max {t e : TypeId} {fuel : Nat} {z : Value} {x : DataW H' × List MemPlace} (ht : Tryz.prog.underlying t = some (.slice e)) (h : DataW.trod enc Tryz.prog w base sp held fuel t [z] = some x) {a : Option Addr} {n c : Nat} (k : VRel (fun _ => none) (.slice a n c) z) : n ≤ maxLen := by
 rcases DataW.trod_slice ht h with ⟨e, _⟩ | ⟨a1, n1, c1, elems, rest, m, _, e, _, hb, h1, h2, _⟩
 · have e : [z] = [.slice none 0 0] := e
   cases e
   cases k <;> exact Nat.zero_le _
 · have e : [z] = [.slice (some a1) n1 c1] := e
   cases e
   have hn0 : n1 ≤ maxLen := Nat.le_trans h1 h2
   cases k <;> first | exact hn0 | exact Nat.zero_le _
theorem open_max {t e : TypeId} (ht : Tryz.prog.underlying t = some (.slice e)) {r : Reach} {b0 : Nat} {v : Value} {d : DataW H'} {ps : List MemPlace} (hval : Value.okWide Tryz.prog w r b0 t v) (hd : DataW.Trod enc Tryz.prog w base sp held t v d ps) {a : Option Addr} {n c : Nat} (k : VRel (fun _ => none) (.slice a n c) v) : n ≤ maxLen := by
 have hv : ∃ a n c, v = .slice a n c := by
   simp only [Value.okWide, ht, Cell.okWide] at hval
   cases v <;> simp_all [Cell.ok]
 obtain ⟨a0, n0, c0, rfl⟩ := hv
 obtain ⟨fuel, hf⟩ := hd
 exact sl_max ht hf k
theorem en_read {fuel : Nat} {cs : List Value} {x : DataW H' × List MemPlace} (hl : cs.length = 3) (hf : DataW.trod enc Tryz.prog w base sp held fuel 184 cs = some x) :
   ∃ t : En, True ∧ ∀ (j : Nat) u, t.cells[j]? = some u → ∃ z, cs[j]? = some z ∧ baseV z = some u := by
 match cs, hl with
 | [z0, z1, z2], _ =>
   obtain ⟨_, hff⟩ := bT_ Tryz.underlying184 hf
   have kc79 : Tryz.prog.cellsOf 79 = 2 := by kernel_rfl
   have kc9 : Tryz.prog.cellsOf 9 = 1 := by kernel_rfl
   simp only [List.mem_cons, List.not_mem_nil, or_false, forall_eq_or_imp, forall_eq, kc79, kc9] at hff
   obtain ⟨⟨f0, y0, k0⟩, ⟨f1, y1, k1⟩⟩ := hff
   obtain ⟨a, b, rfl, rfl⟩ := two_i79 k0
   obtain ⟨nm, g0, _⟩ := DataW.trod_string Tryz.underlying9 k1
   simp at g0
   subst g0
   refine ⟨⟨a, b, nm⟩, trivial, fun j u hj => ?_⟩
   have h3 : j < 3 := (List.getElem?_eq_some_iff.1 hj).1
   match j, h3 with
   | 0, _ | 1, _ | 2, _ => cases hj; exact ⟨_, rfl, rfl⟩
theorem open_ens {r : Reach} {b0 : Nat} {v : Value} {d : DataW H'} {ps : List MemPlace} (hval : Value.okWide Tryz.prog w r b0 83 v) (hd : DataW.Trod enc Tryz.prog w base sp held 83 v d ps) :
   ∃ (a : Option Addr) (n c : Nat) (l : List En), Sl (wbase2 w) H.empty 3 (.slice a n c) n (l.flatMap En.cells) ∧ l.length = n ∧ n ≤ maxLen ∧ VRel (fun _ => none) (.slice a n c) v := by
 obtain ⟨v0, n, ts, k, s, hl, q⟩ := open_slN En.cells (fun _ => True) (es := 3) (by omega) (fun _ => rfl) Tryz.underlying83 (by kernel_rfl) (fun _ _ _ hl q => en_read hl q) hval hd
 obtain ⟨a, c, rfl⟩ := s.form
 exact ⟨a, n, c, ts, s, hl, open_max Tryz.underlying83 hval hd k, k⟩
/- Shares and weather opened. -/
theorem spn_read {fuel : Nat} {cs : List Value} {x : DataW H' × List MemPlace} (hl : cs.length = 2) (hf : DataW.trod enc Tryz.prog w base sp held fuel 79 cs = some x) :
   ∃ t : Spn, True ∧ ∀ (j : Nat) u, t.cells[j]? = some u → ∃ z, cs[j]? = some z ∧ baseV z = some u := by
 match cs, hl with
 | [z0, z1], _ =>
   obtain ⟨_, hff⟩ := bT_ Tryz.underlying79 hf
   have kc3 : Tryz.prog.cellsOf 3 = 1 := by kernel_rfl
   simp only [List.mem_cons, List.not_mem_nil, or_false, forall_eq_or_imp, forall_eq, kc3] at hff
   obtain ⟨⟨f0, y0, k0⟩, ⟨f1, y1, k1⟩⟩ := hff
   obtain ⟨a, rfl⟩ := bZ_ k0
   obtain ⟨b, rfl⟩ := bZ_ k1
   refine ⟨⟨a, b⟩, trivial, fun j u hj => ?_⟩
   have h3 : j < 2 := (List.getElem?_eq_some_iff.1 hj).1
   match j, h3 with
   | 0, _ | 1, _ => cases hj; exact ⟨_, rfl, rfl⟩
/- Results and contracts opened. -/
theorem rs_read {fuel : Nat} {cs : List Value} {x : DataW H' × List MemPlace} (hl : cs.length = 3) (hf : DataW.trod enc Tryz.prog w base sp held fuel 207 cs = some x) :
   ∃ t : Rs, True ∧ ∀ (j : Nat) u, t.cells[j]? = some u → ∃ z, cs[j]? = some z ∧ baseV z = some u := by
 match cs, hl with
 | [z0, z1, z2], _ =>
   obtain ⟨_, hff⟩ := bT_ Tryz.underlying207 hf
   have kc3 : Tryz.prog.cellsOf 3 = 1 := by kernel_rfl
   have kc9 : Tryz.prog.cellsOf 9 = 1 := by kernel_rfl
   simp only [List.mem_cons, List.not_mem_nil, or_false, forall_eq_or_imp, forall_eq, kc3, kc9] at hff
   obtain ⟨⟨f0, y0, k0⟩, ⟨f1, y1, k1⟩, ⟨f2, y2, k2⟩⟩ := hff
   obtain ⟨nm, g0, _⟩ := DataW.trod_string Tryz.underlying9 k0
   simp at g0
   subst g0
   obtain ⟨a, rfl⟩ := bZ_ k1
   obtain ⟨b, rfl⟩ := bZ_ k2
   refine ⟨⟨nm, a, b⟩, trivial, fun j u hj => ?_⟩
   have h3 : j < 3 := (List.getElem?_eq_some_iff.1 hj).1
   match j, h3 with
   | 0, _ | 1, _ | 2, _ => cases hj; exact ⟨_, rfl, rfl⟩
theorem open_con {r : Reach} {b0 : Nat} {v : Value} {d : DataW H'} {ps : List MemPlace} (hval : Value.okWide Tryz.prog w r b0 105 v) (hd : DataW.Trod enc Tryz.prog w base sp held 105 v d ps) :
   ∃ c0 c1 c2 c3 c4 c5 c6 c7 c8 : Int, VRel (fun _ => none) (.agg ⟨[.int .i64 c0, .int .i64 c1, .int .i64 c2, .int .i64 c3, .int .i64 c4, .int .i64 c5, .int .i64 c6, .int .i64 c7, .int .i64 c8]⟩) v := by
 obtain ⟨cs, fuel, rfl, hl, hf⟩ := open_agg Tryz.underlying105 (n := 9) (by kernel_rfl) hval hd
 obtain ⟨_, hff⟩ := bT_ Tryz.underlying105 hf
 have kc3 : Tryz.prog.cellsOf 3 = 1 := by kernel_rfl
 match cs, hl with
 | [z0, z1, z2, z3, z4, z5, z6, z7, z8], _ =>
   simp only [List.mem_cons, List.not_mem_nil, or_false, forall_eq_or_imp, forall_eq, kc3] at hff
   obtain ⟨⟨f0, y0, k0⟩, ⟨f1, y1, k1⟩, ⟨f2, y2, k2⟩, ⟨f3, y3, k3⟩, ⟨f4, y4, k4⟩, ⟨f5, y5, k5⟩, ⟨f6, y6, k6⟩, ⟨f7, y7, k7⟩, ⟨f8, y8, k8⟩⟩ := hff
   obtain ⟨c0, rfl⟩ := bZ_ k0
   obtain ⟨c1, rfl⟩ := bZ_ k1
   obtain ⟨c2, rfl⟩ := bZ_ k2
   obtain ⟨c3, rfl⟩ := bZ_ k3
   obtain ⟨c4, rfl⟩ := bZ_ k4
   obtain ⟨c5, rfl⟩ := bZ_ k5
   obtain ⟨c6, rfl⟩ := bZ_ k6
   obtain ⟨c7, rfl⟩ := bZ_ k7
   obtain ⟨c8, rfl⟩ := bZ_ k8
   exact ⟨c0, c1, c2, c3, c4, c5, c6, c7, c8, VRel.gd_refl rfl⟩
/- Days opened. -/
theorem open_day {r0 : Reach} {b0 : Nat} {vv : Value} {d : DataW H'} {ps : List MemPlace} (hval : Value.okWide Tryz.prog w r0 b0 127 vv) (hd : DataW.Trod enc Tryz.prog w base sp held 127 vv d ps) :
   ∃ (x y u v t r sp lo cl so tk : Int) (sa pa wa ra : Option Addr) (ns sc pm pc wm wc m rc : Nat) (sl : List Sg) (L M : List Spn) (rs : List Rs), Sl (wbase2 w) H.empty 3 (.slice sa ns sc) ns (sl.flatMap Sg.cells) ∧ sl.length = ns ∧ Sl (wbase2 w) H.empty 2 (.slice pa pm pc) pm (L.flatMap Spn.cells) ∧ L.length = pm ∧ Sl (wbase2 w) H.empty 2 (.slice wa wm wc) wm (M.flatMap Spn.cells) ∧ M.length = wm ∧ Sl (wbase2 w) H.empty 3 (.slice ra m rc) m (rs.flatMap Rs.cells) ∧ rs.length = m ∧ m ≤ maxLen ∧ VRel (fun _ => none) (.agg ⟨[.int .i64 x, .int .i64 y, .int .i64 u, .int .i64 v, .int .i64 t, .int .i64 r, .int .i64 sp, .int .i64 lo, .int .i64 cl, .int .i64 so, .slice sa ns sc, .slice pa pm pc, .slice wa wm wc, .int .i64 tk, .slice ra m rc]⟩) vv := by
 obtain ⟨cs, fuel, rfl, hl, hf⟩ := open_agg Tryz.underlying127 (n := 15) (by kernel_rfl) hval hd
 obtain ⟨_, hff⟩ := bT_ Tryz.underlying127 hf
 have kc37 : Tryz.prog.cellsOf 37 = 5 := by kernel_rfl
 have kc70 : Tryz.prog.cellsOf 70 = 6 := by kernel_rfl
 have kc125 : Tryz.prog.cellsOf 125 = 3 := by kernel_rfl
 have kc106 : Tryz.prog.cellsOf 106 = 1 := by kernel_rfl
 have kc35 : Tryz.prog.cellsOf 35 = 2 := by kernel_rfl
 have kc3 : Tryz.prog.cellsOf 3 = 1 := by kernel_rfl
 have kc39 : Tryz.prog.cellsOf 39 = 5 := by kernel_rfl
 have kc40 : Tryz.prog.cellsOf 40 = 1 := by kernel_rfl
 have kc52 : Tryz.prog.cellsOf 52 = 1 := by kernel_rfl
 match cs, hl with
 | [z0, z1, z2, z3, z4, z5, z6, z7, z8, z9, z10, z11, z12, z13, z14], _ =>
   simp only [List.mem_cons, List.not_mem_nil, or_false, forall_eq_or_imp, forall_eq, kc37, kc70, kc125, kc106] at hff
   obtain ⟨⟨f0, d0, k0⟩, ⟨f1, d1, k1⟩, ⟨f2, d2, k2⟩, ⟨f3, d3, k3⟩⟩ := hff
   have k0 : DataW.trod enc Tryz.prog w base sp held f0 37 [z0, z1, z2, z3, z4] = some d0 := k0
   have k1 : DataW.trod enc Tryz.prog w base sp held f1 70 [z5, z6, z7, z8, z9, z10] = some d1 := k1
   have k2 : DataW.trod enc Tryz.prog w base sp held f2 125 [z11, z12, z13] = some d2 := k2
   have k3 : DataW.trod enc Tryz.prog w base sp held f3 106 [z14] = some d3 := k3
   obtain ⟨_, h0⟩ := bT_ Tryz.underlying37 k0
   simp only [List.mem_cons, List.not_mem_nil, or_false, forall_eq_or_imp, forall_eq, kc3, kc35] at h0
   obtain ⟨⟨_, _, j0⟩, ⟨_, _, j1⟩, ⟨_, _, j2⟩⟩ := h0
   obtain ⟨x, y, rfl, rfl⟩ := two_int rfl j0
   obtain ⟨u, v, rfl, rfl⟩ := two_int rfl j1
   obtain ⟨t, rfl⟩ := bZ_ j2
   obtain ⟨_, h1⟩ := bT_ Tryz.underlying70 k1
   simp only [List.mem_cons, List.not_mem_nil, or_false, forall_eq_or_imp, forall_eq, kc39, kc40] at h1
   obtain ⟨⟨_, _, j3⟩, ⟨_, _, j4⟩⟩ := h1
   obtain ⟨r, sp', lo, cl, so, rfl, rfl, rfl, rfl, rfl⟩ := five_int j3
   obtain ⟨sv, sv0, ns, sl, g1, hv1, sl1, hln1, _⟩ := trod_slN Sg.cells (fun _ => True) (es := 3) (by omega) (fun _ => rfl) Tryz.underlying40 (by kernel_rfl) (fun _ _ _ hl q => sg_read hl q) j4
   obtain ⟨sa, sc, rfl⟩ := sl1.form
   simp at g1
   subst g1
   obtain ⟨_, h2⟩ := bT_ Tryz.underlying125 k2
   simp only [List.mem_cons, List.not_mem_nil, or_false, forall_eq_or_imp, forall_eq, kc3, kc52] at h2
   obtain ⟨⟨_, _, j5⟩, ⟨_, _, j6⟩, ⟨_, _, j7⟩⟩ := h2
   obtain ⟨tk, rfl⟩ := bZ_ j7
   obtain ⟨pv, pv0, pm, L, g2, hv2, sl2, hln2, _⟩ := trod_slN Spn.cells (fun _ => True) (es := 2) (by omega) (fun _ => rfl) Tryz.underlying52 (by kernel_rfl) (fun _ _ _ hl q => spn_read hl q) j5
   obtain ⟨pa, pc, rfl⟩ := sl2.form
   simp at g2
   subst g2
   obtain ⟨tv, tv0, wm, M, g3, hv3, sl3, hln3, _⟩ := trod_slN Spn.cells (fun _ => True) (es := 2) (by omega) (fun _ => rfl) Tryz.underlying52 (by kernel_rfl) (fun _ _ _ hl q => spn_read hl q) j6
   obtain ⟨wa, wc, rfl⟩ := sl3.form
   simp at g3
   subst g3
   obtain ⟨rv, rv0, m, rs, g4, hv4, sl4, hln4, _⟩ := trod_slN Rs.cells (fun _ => True) (es := 3) (by omega) (fun _ => rfl) Tryz.underlying106 (by kernel_rfl) (fun _ _ _ hl q => rs_read hl q) k3
   obtain ⟨ra, rc, rfl⟩ := sl4.form
   simp at g4
   subst g4
   refine ⟨x, y, u, v, t, r, sp', lo, cl, so, tk, sa, pa, wa, ra, ns, sc, pm, pc, wm, wc, m, rc, sl, L, M, rs, sl1, hln1, sl2, hln2, sl3, hln3, sl4, hln4, sl_max Tryz.underlying106 k3 (baseV_rel hv4), .agg _ _ rfl fun j a a' q1 q2 => ?_⟩
   have hj : j < 15 := (List.getElem?_eq_some_iff.1 q1).1
   match j, hj with
   | 0, _ | 1, _ | 2, _ | 3, _ | 4, _ | 5, _ | 6, _ | 7, _ | 8, _ | 9, _ | 13, _ => cases q1; cases q2; exact .int _ _
   | 10, _ => cases q1; cases q2; exact baseV_rel hv1
   | 11, _ => cases q1; cases q2; exact baseV_rel hv2
   | 12, _ => cases q1; cases q2; exact baseV_rel hv3
   | 14, _ => cases q1; cases q2; exact baseV_rel hv4
end Go.Proofs.YtlioomhcdlicmaaGreatDoor
namespace Go.Proofs.YtlioomhcdlicmaaGreatDoor
open Go Go.Ab Go.RowKit Go.ChangeShapes Go.WideShapes Go.ChangeAt
set_option maxRecDepth 100000 in
theorem contract9 (walk : Walk 9 Tryz.f9 Rows.surveyMoneyRow.laid) (H : Type) (enc : TypeId × Value → H) (W : World) (base : Nat) (args : Array Value) (ds gs : List (DataW H)) (before : List MemPlace)
   (hval : ∀ (j : Nat) t v, Tryz.f9.params[j]? = some t → args[j]? = some v → Value.okWide Tryz.prog W .any base t v)
   (hW : DataW.Whole enc Tryz.prog Tryz.f9.params.toList Rows.surveyMoneySpec.vars false W args.toList ds gs before) (hL : laidMetH Tryz.prog Rows.surveyMoneyRow.laid W) :
   Calls Tryz.prog 9 args W fun e W' => ∃ v, e = .returned v ∧ Rows.surveyMoneySpec.post enc Tryz.prog Tryz.f9 false true false false W args v W' := by
 have hW' := hW
 obtain ⟨p, q, hA0, hV, rfl, hfz, hnd⟩ := hW
 have hA : DataW.TrodAll enc Tryz.prog W 0 (fun _ => true) true Tryz.f9.params.toList args.toList ds p := hA0
 obtain ⟨rfl, rfl⟩ := trodVars_none hV
 refine (walk H enc W base args ds p hval hA hL).mono fun e W' ⟨he, hb⟩ => ?_
 subst he
 refine ⟨_, rfl, law_post laidOut (by kernel_rfl) rfl (tb := 4) (by kernel_rfl) (by kernel_rfl) ?_ hW' hb⟩
 have hp : Tryz.f9.params.toList = [105, 83, 127] := by kernel_rfl
 rw [hp] at hA
 obtain ⟨v0, vs0, d0, ds0, p0, q0, hargs, rfl, rfl, h0, r0⟩ := trodAll_cons hA
 obtain ⟨v1, vs1, d1, ds1, p1, q1, rfl, rfl, rfl, h1, r1⟩ := trodAll_cons r0
 obtain ⟨v2, vs2, d2, ds2, p2, q2, rfl, rfl, rfl, h2, r2⟩ := trodAll_cons r1
 obtain ⟨rfl, rfl, rfl⟩ := trodAll_nil r2
 rfl
def witArgs9 : Array Value := #[.agg #[.int .i64 0, .int .i64 0, .int .i64 0, .int .i64 0, .int .i64 0, .int .i64 0, .int .i64 0, .int .i64 0, .int .i64 0], .slice none 0 0, .agg #[.int .i64 0, .int .i64 0, .int .i64 0, .int .i64 0, .int .i64 0, .int .i64 0, .int .i64 0, .int .i64 0, .int .i64 0, .int .i64 0, .slice none 0 0, .slice none 0 0, .slice none 0 0, .int .i64 0, .slice none 0 0]]
set_option maxRecDepth 100000 in
theorem laid_met9 (os : Os) : laidMet Tryz.prog Rows.surveyMoneyRow.laid ((laidWorld os).forCall (fun _ _ => 0) ⟨#[], witArgs9, []⟩).memory :=
 laidMet_of_run' 8 (by kernel_rfl) (by kernel_rfl)
set_option maxRecDepth 100000 in
theorem reads9 (os : Os) {H : Type} (enc : TypeId × Value → H) : ∃ d places, DataW.whole enc Tryz.prog ((laidWorld os).forCall (fun _ _ => 0) ⟨#[], witArgs9, []⟩).memory Tryz.f9.params.toList Rows.surveyMoneySpec.vars false witArgs9.toList 8 = some (d, [], places) :=
 ⟨[.agg [.lit (.int .i64 0), .lit (.int .i64 0), .lit (.int .i64 0), .lit (.int .i64 0), .lit (.int .i64 0), .lit (.int .i64 0), .lit (.int .i64 0), .lit (.int .i64 0), .lit (.int .i64 0)], .nil, .agg [.agg [.agg [.lit (.int .i64 0), .lit (.int .i64 0)], .agg [.lit (.int .i64 0), .lit (.int .i64 0)], .lit (.int .i64 0)], .agg [.agg [.lit (.int .i64 0), .lit (.int .i64 0), .lit (.int .i64 0), .lit (.int .i64 0), .lit (.int .i64 0)], .nil], .agg [.nil, .nil, .lit (.int .i64 0)], .nil]], [], by kernel_rfl⟩
set_option maxRecDepth 100000 in
theorem lifted9 (walk : Walk 9 Tryz.f9 Rows.surveyMoneyRow.laid) (os : Os) (started : os.Started) (H : Type) (enc : TypeId × Value → H) (F : Stop.Interp) :
   ReturnsInHanded {} Tryz.checked os 9 .any ((OpenSpec.ofChange Rows.surveyMoneySpec).preRow enc Tryz.prog Tryz.f9 Rows.surveyMoneyRow.domain false Rows.surveyMoneyRow.laid) (((OpenSpec.ofChange Rows.surveyMoneySpec).at F).post enc Tryz.prog Tryz.f9 false true false false) := by
 obtain ⟨d, places, hx⟩ := reads9 os enc
 refine returnsInHanded_of_row (C := Tryz.checked) (s := OpenSpec.ofChange Rows.surveyMoneySpec) own started (by kernel_rfl) Tryz.func9
   (witness_row_at (enc := enc) (C := Tryz.checked) false (laidWorld os) witArgs9 rfl (by kernel_rfl) (by kernel_rfl) (by kernel_rfl)
     (OpenSpec.preRow_of_cond 8 hx (by kernel_rfl) (fun k hk => by cases hk) (by kernel_rfl) (laid_met9 os))) ?_
 intro W base args ds gs before hval hW _ _ _ hL _ _
 exact contract9 walk H enc W base args ds gs before hval hW hL
/- The walk of SurveyMoney, from its contract. -/
set_option maxRecDepth 10000
theorem walk9 : Walk 9 Tryz.f9 Rows.surveyMoneyRow.laid := by
 intro H enc W base args ds p hval hA hL
 have hp : Tryz.f9.params.toList = [105, 83, 127] := by kernel_rfl
 have hv : ∀ (j : Nat) t v, [105, 83, 127][j]? = some t → args.toList[j]? = some v → Value.okWide Tryz.prog W .any base t v := fun j t v h1 h2 => hval j t v (by rw [← hp] at h1; simpa using h1) (by simpa using h2)
 rw [hp] at hA
 obtain ⟨al⟩ := args
 simp only at hA hv
 obtain ⟨v0, vs0, d0, ds0, p0, q0, rfl, rfl, rfl, h0, r0⟩ := trodAll_cons hA
 obtain ⟨v1, vs1, d1, ds1, p1, q1, rfl, rfl, rfl, h1, r1⟩ := trodAll_cons r0
 obtain ⟨v2, vs2, d2, ds2, p2, q2, rfl, rfl, rfl, h2, r2⟩ := trodAll_cons r1
 obtain ⟨rfl, rfl, rfl⟩ := trodAll_nil r2
 obtain ⟨x0, x1, x2, x3, x4, x5, x6, x7, x8, k0⟩ := open_con (hv 0 105 _ rfl rfl) h0
 obtain ⟨va, n, vc, l, s, hl, hnm, k1⟩ := open_ens (hv 1 83 _ rfl rfl) h1
 obtain ⟨x, y, u, v, t, rr, spd, lo, cl, so, tk, sa, pa, wa, ra, ns, sc, pm, pc, wm, wc, m, rc, sl, L, M, rs, ss, hsl, pp, hlen, pw, hM, sr, hrl, hmm, k2⟩ := open_day (hv 2 127 _ rfl rfl) h2
 exact walk_cf3 (base_ok hL) rfl (lrel_cons k0 (lrel_cons k1 (lrel_cons k2 lrel_nil))) (c9 s hl hnm ss hsl pp hlen pw hM sr hrl hmm Wf.empty)
end Go.Proofs.YtlioomhcdlicmaaGreatDoor
