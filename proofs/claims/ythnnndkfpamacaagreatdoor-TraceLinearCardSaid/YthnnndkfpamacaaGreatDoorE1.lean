/- The walk of TraceLinear; the frame of a card. -/
import Derived.Test.YthnnndkfpamacaaGreatDoorC0
import Derived.Test.YthnnndkfpamacaaGreatDoorA6
import Derived.Test.YthnnndkfpamacaaGreatDoorS1
import Derived.Test.YthnnndkfpamacaaGreatDoorK3
import Derived.Test.YthnnndkfpamacaaGreatDoorW1
import Derived.Test.YthnnndkfpamacaaGreatDoorCards
import Derived.Test.YthnnndkfpamacaaGreatDoorTie
import Derived.Test.YthnnndkfpamacaaGreatDoorK4
import Derived.Test.YthnnndkfpamacaaGreatDoorN3
import Derived.Test.YthnnndkfpamacaaGreatDoorY8
set_option linter.all false
/- From a contract to a walk. -/
namespace Go.Proofs.YthnnndkfpamacaaGreatDoor
open Go Go.Ab Go.RowKit Go.ChangeShapes Go.WideShapes Go.ChangeAt
/- From a contract to a walk, with arguments in memory. -/
theorem tab_gd : ∀ k, (tabAt k).all gd = true := by
 intro k
 unfold tabAt
 split <;> decide +kernel
theorem laid_gd {a : Addr} {v : Value} (h : laidBase a = some v) : gd v = true := by
 unfold laidBase at h
 split at h
 · exact List.all_eq_true.1 (tab_gd _) v (List.mem_of_getElem? h)
 · cases h
theorem lrel_nil {ρ : Ctx} : LRel ρ [] [] := ⟨rfl, fun j v v' a _ => by simp at a⟩
theorem lrel_cons {ρ : Ctx} {v v' : Value} {l l' : List Value} (h : VRel ρ v v') (r : LRel ρ l l') : LRel ρ (v :: l) (v' :: l') := ⟨by simp [r.1], fun j a b q1 q2 => by
 cases j with
 | zero => simp at q1 q2; subst q1 q2; exact h
 | succ j => simp at q1 q2; exact r.2 j a b q1 q2⟩
theorem own : ownKnob Tryz.prog.godebug = none := by kernel_rfl
theorem laidOut : laidOutB Tryz.prog = true := by kernel_rfl
def Walk (f : Nat) (fn : Func) (laid : List (String × DataW Unit)) : Prop :=
 ∀ (H : Type) (enc : TypeId × Value → H) (W : World) (base : Nat) (args : Array Value) (ds : List (DataW H)) (p : List MemPlace),
   (∀ (j : Nat) t v, fn.params[j]? = some t → args[j]? = some v → Value.okWide Tryz.prog W .any base t v) →
   DataW.TrodAll enc Tryz.prog W 0 (fun _ => true) true fn.params.toList args.toList ds p → laidMetH Tryz.prog laid W →
   Calls Tryz.prog f args W fun e W' => e = .returned (.bool true) ∧ Below W.heap.size W W'
def laidObj (g : Nat) : Obj → Obj
 | .cells _ t frozen => .cells ⟨tabAt g⟩ t frozen
 | o => o
noncomputable def laidHeap (hp : Array Obj) : Array Obj := ((((hp.modify 0 (laidObj 0)).modify 1 (laidObj 1)).modify 6 (laidObj 6)).modify 9 (laidObj 9)).modify 10 (laidObj 10)
noncomputable def laidWorld (os : Os) : World :=
 { World.holding Tryz.prog os ⟨#[], #[], []⟩ with heap := laidHeap (World.holding Tryz.prog os ⟨#[], #[], []⟩).heap }
set_option maxRecDepth 100000 in
theorem contract11 (walk : Walk 11 Tryz.f11 Rows.traceLinearRow.laid) (H : Type) (enc : TypeId × Value → H) (W : World) (base : Nat) (args : Array Value) (ds gs : List (DataW H)) (before : List MemPlace)
   (hval : ∀ (j : Nat) t v, Tryz.f11.params[j]? = some t → args[j]? = some v → Value.okWide Tryz.prog W .any base t v)
   (hW : DataW.Whole enc Tryz.prog Tryz.f11.params.toList Rows.traceLinearSpec.vars false W args.toList ds gs before) (hL : laidMetH Tryz.prog Rows.traceLinearRow.laid W) :
   Calls Tryz.prog 11 args W fun e W' => ∃ v, e = .returned v ∧ Rows.traceLinearSpec.post enc Tryz.prog Tryz.f11 false true false false W args v W' := by
 have hW' := hW
 obtain ⟨p, q, hA0, hV, rfl, hfz, hnd⟩ := hW
 have hA : DataW.TrodAll enc Tryz.prog W 0 (fun _ => true) true Tryz.f11.params.toList args.toList ds p := hA0
 obtain ⟨rfl, rfl⟩ := trodVars_none hV
 refine (walk H enc W base args ds p hval hA hL).mono fun e W' ⟨he, hb⟩ => ?_
 subst he
 refine ⟨_, rfl, law_post laidOut (by kernel_rfl) rfl (tb := 4) (by kernel_rfl) (by kernel_rfl) ?_ hW' hb⟩
 have hp : Tryz.f11.params.toList = [43, 124, 125] := by kernel_rfl
 rw [hp] at hA
 obtain ⟨v0, vs0, d0, ds0, p0, q0, hargs, rfl, rfl, h0, r0⟩ := trodAll_cons hA
 obtain ⟨v1, vs1, d1, ds1, p1, q1, rfl, rfl, rfl, h1, r1⟩ := trodAll_cons r0
 obtain ⟨v2, vs2, d2, ds2, p2, q2, rfl, rfl, rfl, h2, r2⟩ := trodAll_cons r1
 obtain ⟨rfl, rfl, rfl⟩ := trodAll_nil r2
 rfl
def witArgs11 : Array Value := #[.agg #[.string .empty, .slice none 0 0], .slice none 0 0, .int .i8 0]
set_option maxRecDepth 100000 in
theorem laid_met11 (os : Os) : laidMet Tryz.prog Rows.traceLinearRow.laid ((laidWorld os).forCall (fun _ _ => 0) ⟨#[], witArgs11, []⟩).memory :=
 laidMet_of_run' 8 (by kernel_rfl) (by kernel_rfl)
set_option maxRecDepth 100000 in
theorem reads11 (os : Os) {H : Type} (enc : TypeId × Value → H) : ∃ d places, DataW.whole enc Tryz.prog ((laidWorld os).forCall (fun _ _ => 0) ⟨#[], witArgs11, []⟩).memory Tryz.f11.params.toList Rows.traceLinearSpec.vars false witArgs11.toList 8 = some (d, [], places) :=
 ⟨[.agg [.lit (.string []), .nil], .nil, .lit (.int .i8 0)], [], by kernel_rfl⟩
set_option maxRecDepth 100000 in
theorem lifted11 (walk : Walk 11 Tryz.f11 Rows.traceLinearRow.laid) (os : Os) (started : os.Started) (H : Type) (enc : TypeId × Value → H) (F : Stop.Interp) :
   ReturnsInHanded {} Tryz.checked os 11 .any ((OpenSpec.ofChange Rows.traceLinearSpec).preRow enc Tryz.prog Tryz.f11 Rows.traceLinearRow.domain false Rows.traceLinearRow.laid) (((OpenSpec.ofChange Rows.traceLinearSpec).at F).post enc Tryz.prog Tryz.f11 false true false false) := by
 obtain ⟨d, places, hx⟩ := reads11 os enc
 refine returnsInHanded_of_row (C := Tryz.checked) (s := OpenSpec.ofChange Rows.traceLinearSpec) own started (by kernel_rfl) Tryz.func11
   (witness_row_at (enc := enc) (C := Tryz.checked) false (laidWorld os) witArgs11 rfl (by kernel_rfl) (by kernel_rfl) (by kernel_rfl)
     (OpenSpec.preRow_of_cond 8 hx (by kernel_rfl) (fun k hk => by cases hk) (by kernel_rfl) (laid_met11 os))) ?_
 intro W base args ds gs before hval hW _ _ _ hL _ _
 exact contract11 walk H enc W base args ds gs before hval hW hL
/- Arguments that are shots and traces, opened. -/
set_option maxRecDepth 10000
variable {H' : Type} {enc : TypeId × Value → H'} {w : World} {base : Nat} {sp : Nat → Bool} {held : Bool}
theorem fl_read {fuel : Nat} {cs : List Value} {x : DataW H' × List MemPlace} (h : DataW.trod enc Tryz.prog w base sp held fuel 23 cs = some x) : ∃ y : Nat, True ∧ ∀ (j : Nat) u, ([Value.float .f32 y])[j]? = some u → ∃ z, cs[j]? = some z ∧ baseV z = some u := by
 obtain ⟨b, rfl, _⟩ := trod_float' Tryz.underlying23 h
 refine ⟨b, trivial, fun j u hj => ?_⟩
 match j, hj with
 | 0, hj => cases hj; exact ⟨_, rfl, rfl⟩
theorem tr_read {t0 : TypeId} (ht : Tryz.prog.underlying t0 = Tryz.prog.underlying 47) {fuel : Nat} {cs : List Value} {x : DataW H' × List MemPlace} (hl : cs.length = 10) (h : DataW.trod enc Tryz.prog w base sp held fuel t0 cs = some x) :
   ∃ t : Trc, TrOk (wbase2 w) H.empty t ∧ ∀ (j : Nat) u, t.cells[j]? = some u → ∃ z, cs[j]? = some z ∧ baseV z = some u := by
 obtain ⟨_, hf⟩ := trod_fields (ht.trans Tryz.underlying47) h
 obtain ⟨f0, y0, k0⟩ := hf _ (List.mem_cons_self)
 obtain ⟨f1, y1, k1⟩ := hf _ (List.mem_cons_of_mem _ (List.mem_cons_self))
 obtain ⟨f2, y2, k2⟩ := hf _ (List.mem_cons_of_mem _ (List.mem_cons_of_mem _ (List.mem_cons_self)))
 have c44 : Tryz.prog.cellsOf 44 = 8 := by kernel_rfl
 have c4' : Tryz.prog.cellsOf 4 = 1 := by kernel_rfl
 have c45 : Tryz.prog.cellsOf 45 = 1 := by kernel_rfl
 have c23 : Tryz.prog.cellsOf 23 = 1 := by kernel_rfl
 simp only [c44, c4', c45] at k0 k1 k2
 obtain ⟨ls, g0, l0⟩ := trod_ints Tryz.underlying44 Tryz.underlying3 (by kernel_rfl) c44 k0
 obtain ⟨b, g1, _⟩ := DataW.trod_bool Tryz.underlying4 k1
 obtain ⟨v, v0, n, l, g2, hv, sl, hln, _⟩ := trod_slN (fun y : Nat => [Value.float .f32 y]) (fun _ => True) (es := 1) (by omega) (fun _ => rfl) Tryz.underlying45 c23 (fun _ _ _ _ q => fl_read q) k2
 obtain ⟨sa, c, rfl⟩ := sl.form
 have sl' : Sl (wbase2 w) H.empty 1 (.slice sa n c) n (l.map (.float .f32)) := by
   have e : l.flatMap (fun y : Nat => [Value.float .f32 y]) = l.map (.float .f32) := by clear sl hln hv; induction l with | nil => rfl | cons a l ih => simp [List.flatMap_cons, ih]
   rwa [e] at sl
 match ls, l0 with
 | [a0, a1, a2, a3, a4, a5, a6, a7], _ =>
   match cs, hl with
   | [x0, x1, x2, x3, x4, x5, x6, x7, x8, x9], _ =>
     simp at g0 g1 g2
     obtain ⟨rfl, rfl, rfl, rfl, rfl, rfl, rfl, rfl⟩ := g0
     subst g1 g2
     refine ⟨⟨fun i => [a0, a1, a2, a3, a4, a5, a6, a7].getD i 0, b, sa, n, c, l⟩, ⟨sl'⟩, fun j u hj => ?_⟩
     have hj10 : j < 10 := (List.getElem?_eq_some_iff.1 hj).1
     match j, hj10 with
     | 0, _ | 1, _ | 2, _ | 3, _ | 4, _ | 5, _ | 6, _ | 7, _ | 8, _ => cases hj; exact ⟨_, rfl, rfl⟩
     | 9, _ => cases hj; exact ⟨_, rfl, hv⟩
theorem okWide_struct {t : TypeId} {fs : Array Field} {W : World} {r : Reach} {b0 : Nat} {v : Value} (ht : Tryz.prog.underlying t = some (.struct fs)) (h : Value.okWide Tryz.prog W r b0 t v) : ∃ cs : List Value, v = .agg ⟨cs⟩ := by
 simp only [Value.okWide, ht] at h
 obtain ⟨⟨cs⟩, rfl, _⟩ := h
 exact ⟨cs, rfl⟩
theorem laid_wbase2 {W : World} (hB : BaseOk W.heap.size laidBase W) : ∀ a v, laidBase a = some v → wbase2 W a = some v := fun a v h => by
 obtain ⟨_, _, u, q, r⟩ := hB.cell a v h
 have := r.gd_eq (laid_gd h)
 subst this
 exact wbase2_some q (baseV_gd (laid_gd h))
theorem walk_cf3 {W : World} (hB : BaseOk W.heap.size laidBase W) {f : Nat} (hf : extz f = none) {args args' : List Value} (hA : LRel (fun _ => none) args args') {Q : H → Prop}
   (hc : Cf (mz (wbase2 W)) (.func (.func f) #[] #[]) args H.empty fun v h' => v = .bool true ∧ Q h') : Calls Tryz.prog f args'.toArray W fun e W' => e = .returned (.bool true) ∧ Below W.heap.size W W' := by
 obtain ⟨v, h', ⟨N, hn⟩, rfl, _⟩ := hc
 exact calls_of_ev mixed (wbase2_ok W) (extz_sound (laid_wbase2 hB)) no_count hf (hn N (Nat.le_refl _)) hA rfl
theorem open_sh {t0 s0 e0 : TypeId} (hu : ∃ fs : Array Field, Tryz.prog.underlying t0 = some (.struct fs) ∧ fs.toList.map (fun f => (f.type, f.offset)) = [(9, 0), (s0, 1)]) (hs0 : Tryz.prog.underlying s0 = some (.slice e0)) (hc0 : Tryz.prog.cellsOf t0 = 2) (hs1 : Tryz.prog.cellsOf s0 = 1) (he : Tryz.prog.underlying e0 = Tryz.prog.underlying 47) (hce : Tryz.prog.cellsOf e0 = 10)
   {r : Reach} {b0 : Nat} {v : Value} {d : DataW H'} {ps : List MemPlace} (hval : Value.okWide Tryz.prog w r b0 t0 v) (hd : DataW.Trod enc Tryz.prog w base sp held t0 v d ps) :
   ∃ (nm : ByteArray) (a : Option Addr) (n c : Nat) (ts : List Trc), SlT (wbase2 w) H.empty (.slice a n c) n ts ∧ VRel (fun _ => none) (.agg ⟨shC nm a n c⟩) v := by
 obtain ⟨fs, hu, hfs⟩ := hu
 obtain ⟨cs, rfl⟩ := okWide_struct hu hval
 obtain ⟨fuel, hf⟩ := hd
 have hf : DataW.trod enc Tryz.prog w base sp held fuel t0 cs = some (d, ps) := hf
 obtain ⟨hl, hff⟩ := trod_fields hu hf
 rw [hc0] at hl
 have key : ∀ p ∈ [((9 : TypeId), 0), (s0, 1)], ∃ fuel' y, DataW.trod enc Tryz.prog w base sp held fuel' p.1 ((cs.drop p.2).take (Tryz.prog.cellsOf p.1)) = some y := by
   intro p hp
   rw [← hfs] at hp
   obtain ⟨f, hf, rfl⟩ := List.mem_map.1 hp
   exact hff f hf
 obtain ⟨f0, y0, k0⟩ := key (9, 0) (by simp)
 obtain ⟨f1, y1, k1⟩ := key (s0, 1) (by simp)
 have c9 : Tryz.prog.cellsOf 9 = 1 := by kernel_rfl
 simp only [c9, hs1] at k0 k1
 obtain ⟨nm, g0, _⟩ := DataW.trod_string Tryz.underlying9 k0
 obtain ⟨sv, sv0, n, ts, g1, hv, sl, hln, hok⟩ := trod_slN Trc.cells (TrOk (wbase2 w) H.empty) (es := 10) (by omega) (fun _ => rfl) hs0 hce (fun _ _ _ hl q => tr_read he hl q) k1
 obtain ⟨a, c, rfl⟩ := sl.form
 match cs, hl with
 | [x0, x1], _ =>
   simp at g0 g1
   subst g0 g1
   refine ⟨nm, a, n, c, ts, ⟨sl, hln, hok⟩, .agg _ _ rfl fun j u u' h1 h2 => ?_⟩
   match j, h1, h2 with
   | 0, h1, h2 => cases h1; cases h2; exact .string _
   | 1, h1, h2 => cases h1; cases h2; exact baseV_rel hv
/- The walk of TraceLinear, from its contract. -/
theorem flat_sing {α : Type} (f : α → Value) (l : List α) : l.flatMap (fun y => [f y]) = l.map f := by
 induction l with
 | nil => rfl
 | cons a l ih => simp [List.flatMap_cons, ih]
theorem lst_read {fuel : Nat} {cs : List Value} {x : DataW H' × List MemPlace} (h : DataW.trod enc Tryz.prog w base sp held fuel 45 cs = some x) :
   ∃ y : Lst, Sl (wbase2 w) H.empty 1 y.val y.n (y.l.map (.float .f32)) ∧ ∀ (j : Nat) u, ([y.val])[j]? = some u → ∃ z, cs[j]? = some z ∧ baseV z = some u := by
 obtain ⟨u0, v0, n, l, e, hv, s, _⟩ := trod_slN (fun y : Nat => [Value.float .f32 y]) (fun _ => True) (es := 1) (by omega) (fun _ => rfl) Tryz.underlying45 (by kernel_rfl) (fun _ _ _ _ q => fl_read q) h
 rw [flat_sing] at s
 obtain ⟨a, c, rfl⟩ := s.form
 subst e
 refine ⟨⟨a, n, c, l⟩, s, fun j u hj => ?_⟩
 match j, hj with
 | 0, hj => cases hj; exact ⟨_, rfl, hv⟩
theorem open_lists {r : Reach} {b0 : Nat} {v : Value} {d : DataW H'} {ps : List MemPlace} (hval : Value.okWide Tryz.prog w r b0 124 v) (hd : DataW.Trod enc Tryz.prog w base sp held 124 v d ps) :
   ∃ (a : Option Addr) (n c : Nat) (ls : List Lst), VRel (fun _ => none) (.slice a n c) v ∧ LsOk (wbase2 w) H.empty (.slice a n c) n ls := by
 obtain ⟨v0, n, l, k, s, _, q⟩ := open_slN (fun y : Lst => [y.val]) (fun y => Sl (wbase2 w) H.empty 1 y.val y.n (y.l.map (.float .f32))) (es := 1) (by omega) (fun _ => rfl) Tryz.underlying124 (by kernel_rfl) (fun _ _ _ _ q => lst_read q) hval hd
 rw [flat_sing] at s
 obtain ⟨a, c, rfl⟩ := s.form
 exact ⟨a, n, c, l, k, s, q⟩
theorem i8_wf {z : Int} (h : (Lit.int .i8 z).wf = true) : -128 ≤ z ∧ z ≤ 127 := by
 have h1 : IntKind.i8.min = -128 := rfl
 have h2 : IntKind.i8.max = 127 := rfl
 unfold Lit.wf at h
 simpa [h1, h2] using h
theorem open_i8 {r : Reach} {b0 : Nat} {v : Value} {d : DataW H'} {ps : List MemPlace} (hval : Value.okWide Tryz.prog w r b0 125 v) (hd : DataW.Trod enc Tryz.prog w base sp held 125 v d ps) :
   ∃ z : Int, (-128 ≤ z ∧ z ≤ 127) ∧ VRel (fun _ => none) (.int .i8 z) v := by
 have hv : ∃ k z, v = .int k z := by
   simp only [Value.okWide, Tryz.underlying125, Cell.okWide] at hval
   cases v <;> simp_all [Cell.ok]
 obtain ⟨k, z, rfl⟩ := hv
 obtain ⟨fuel, hf⟩ := hd
 have hf : DataW.trod enc Tryz.prog w base sp held fuel 125 [.int k z] = some (d, ps) := hf
 obtain ⟨y, e, _, hw⟩ := DataW.trod_int Tryz.underlying125 hf
 cases e
 exact ⟨z, i8_wf hw, VRel.gd_refl rfl⟩
theorem walk11 : Walk 11 Tryz.f11 Rows.traceLinearRow.laid := by
 intro H enc W base args ds p hval hA hL
 have hp : Tryz.f11.params.toList = [43, 124, 125] := by kernel_rfl
 have hv : ∀ (j : Nat) t v, [43, 124, 125][j]? = some t → args.toList[j]? = some v → Value.okWide Tryz.prog W .any base t v := fun j t v h1 h2 => hval j t v (by rw [← hp] at h1; simpa using h1) (by simpa using h2)
 rw [hp] at hA
 obtain ⟨al⟩ := args
 simp only at hA hv
 obtain ⟨v0, vs0, d0, ds0, p0, q0, rfl, rfl, rfl, h0, r0⟩ := trodAll_cons hA
 obtain ⟨v1, vs1, d1, ds1, p1, q1, rfl, rfl, rfl, h1, r1⟩ := trodAll_cons r0
 obtain ⟨v2, vs2, d2, ds2, p2, q2, rfl, rfl, rfl, h2, r2⟩ := trodAll_cons r1
 obtain ⟨rfl, rfl, rfl⟩ := trodAll_nil r2
 obtain ⟨nm, a, n, c, ts, s, k0⟩ := open_sh ⟨_, Tryz.underlying43, rfl⟩ Tryz.underlying41 (by kernel_rfl) (by kernel_rfl) (e0 := 47) rfl (by kernel_rfl) (hv 0 43 _ rfl rfl) h0
 obtain ⟨oa, on, oc, ls, k1, so⟩ := open_lists (hv 1 124 _ rfl rfl) h1
 obtain ⟨z, hz, k2⟩ := open_i8 (hv 2 125 _ rfl rfl) h2
 exact walk_cf3 (base_ok hL) rfl (lrel_cons k0 (lrel_cons k1 (lrel_cons k2 lrel_nil))) (c11 s so hz Wf.empty (laid_wbase2 (base_ok hL)))
end Go.Proofs.YthnnndkfpamacaaGreatDoor
