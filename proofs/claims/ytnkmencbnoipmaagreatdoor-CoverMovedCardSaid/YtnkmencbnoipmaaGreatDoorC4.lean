/- Cover: points after points, the traces of a line, indices in order. -/
import Derived.Test.YtnkmencbnoipmaaGreatDoorC2
import Derived.Test.YtnkmencbnoipmaaGreatDoorC1
set_option linter.all false
/- Points after points; a line's cells. -/
namespace Go.Proofs.YtnkmencbnoipmaaGreatDoor
open Go Go.Ab Go.Fl
attribute [local irreducible] SeqQ BlkQ LpQ RetQ Wc Wo WD WX Op1 Op1q Op1a Cf Cl From
attribute [local irreducible] Ieee.Format.order Ieee.Format.read Ieee.Format.nearest Ieee.Format.write Ieee.Format.mul Ieee.Format.div Ieee.Format.sqrt Ieee.Datum.order Ieee.Datum.integral K U rngE firstNZ ptE errN cntE cmpI plaE
set_option maxRecDepth 10000
variable {G : Base} {h : H}

theorem mulb {a b : Int} {A B : Nat} (h1 : a.natAbs ≤ A) (h2 : b.natAbs ≤ B) : (a * b).natAbs ≤ A * B := by
  rw [Int.natAbs_mul]; exact Nat.mul_le_mul h1 h2
@[reducible] def lnC (nm : ByteArray) (x y tx ty sh nx ny px py ch : Int) (a : Option Addr) (n c : Nat) : List Value := [.string nm, .int .i64 x, .int .i64 y, .int .i64 tx, .int .i64 ty, .int .i64 sh, .int .i64 nx, .int .i64 ny, .int .i64 px, .int .i64 py, .int .i64 ch, .slice a n c]
theorem c84 {p q k u v : Int} (hx : p.natAbs ≤ 1000000000) (hy : q.natAbs ≤ 1000000000) (hk : k.natAbs ≤ 1000) (hu : u.natAbs ≤ 1000000) (hv : v.natAbs ≤ 1000000) (hw : Wf h) : Cf (mz G) (.func (.func 84) #[] #[]) [.agg ⟨[.int .i64 p, .int .i64 q]⟩, .int .i64 k, .agg ⟨[.int .i64 u, .int .i64 v]⟩] h fun r h' => r = .agg ⟨[.int .i64 (p + k * u), .int .i64 (q + k * v)]⟩ ∧ Grow h h' := by
  have m1 := mulb hk hu
  have m2 := mulb hk hv
  refine cf_enter0 22 [.cell 6 23] Tryz.func84 rfl rfl rfl rfl ?_
  repeat' (first | with_reducible refine wo_nil ?_ | ((with_reducible refine wo_any ?_); first | ((with_reducible refine ik_move ?_); refine wo_op rfl (op_move rfl) rfl rfl ?_) | ((with_reducible refine ik_box ?_); refine wo_op rfl (op_boxAgg rfl zs23 rfl) rfl rfl ?_) | ((with_reducible refine ik_alloc ?_); refine wo_op rfl (op_alloc zz23 zs23 rfl rfl rfl) rfl rfl ?_) | ((with_reducible refine ik_fieldAddr ?_); first | refine wo_op rfl (op_fieldAddr (o := 0) rfl Tryz.underlying23 rfl zs3 rfl) rfl rfl ?_ | refine wo_op rfl (op_fieldAddr (o := 1) rfl Tryz.underlying23 rfl zs3 rfl) rfl rfl ?_) | ((with_reducible refine ik_load ?_); refine wo_op rfl (op_ldAt rfl at_A Tryz.underlying3 rfl rfl) rfl rfl ?_) | ((with_reducible refine ik_bin ?_); first | refine wo_op rfl (op_mul' rfl rfl (w64 (by omega) (by omega))) rfl rfl ?_ | refine wo_op rfl (op_add' rfl rfl (w64 (by omega) (by omega))) rfl rfl ?_) | ((with_reducible refine ik_build ?_); refine wo_op rfl (op_buildT rfl zz23 zp23 rfl rfl) rfl rfl ?_) | ((with_reducible refine ik_store ?_); refine wo_op0 rfl (op_stAgg rfl rfl at_A zs23 rfl rfl rfl rfl) rfl ?_)) | with_reducible refine sq_norm ?_ | with_reducible refine wc_seq ?_ | with_reducible refine wc_region ?_ | with_reducible refine wc_ret ?_)
  exact rqc1 rfl (ldAgg at_A Tryz.underlying23 rfl zs23 rfl rfl) ⟨rfl, gr_A⟩
theorem c97 {p q k u v : Int} (hx : p.natAbs ≤ 1000000000) (hy : q.natAbs ≤ 1000000000) (hk : k.natAbs ≤ 1000) (hu : u.natAbs ≤ 1000000) (hv : v.natAbs ≤ 1000000) (hw : Wf h) : Cf (mz G) (.func (.func 97) #[] #[]) [.agg ⟨[.int .i64 p, .int .i64 q]⟩, .int .i64 k, .agg ⟨[.int .i64 u, .int .i64 v]⟩] h fun r h' => r = .agg ⟨[.int .i64 (p + k * u), .int .i64 (q + k * v)]⟩ ∧ Grow h h' := by
  have m1 := mulb hk hu
  have m2 := mulb hk hv
  refine cf_enter0 22 [.cell 6 23] Tryz.func97 rfl rfl rfl rfl ?_
  repeat' (first | with_reducible refine wo_nil ?_ | ((with_reducible refine wo_any ?_); first | ((with_reducible refine ik_move ?_); refine wo_op rfl (op_move rfl) rfl rfl ?_) | ((with_reducible refine ik_box ?_); refine wo_op rfl (op_boxAgg rfl zs23 rfl) rfl rfl ?_) | ((with_reducible refine ik_alloc ?_); refine wo_op rfl (op_alloc zz23 zs23 rfl rfl rfl) rfl rfl ?_) | ((with_reducible refine ik_fieldAddr ?_); first | refine wo_op rfl (op_fieldAddr (o := 0) rfl Tryz.underlying23 rfl zs3 rfl) rfl rfl ?_ | refine wo_op rfl (op_fieldAddr (o := 1) rfl Tryz.underlying23 rfl zs3 rfl) rfl rfl ?_) | ((with_reducible refine ik_load ?_); refine wo_op rfl (op_ldAt rfl at_A Tryz.underlying3 rfl rfl) rfl rfl ?_) | ((with_reducible refine ik_bin ?_); first | refine wo_op rfl (op_mul' rfl rfl (w64 (by omega) (by omega))) rfl rfl ?_ | refine wo_op rfl (op_add' rfl rfl (w64 (by omega) (by omega))) rfl rfl ?_) | ((with_reducible refine ik_build ?_); refine wo_op rfl (op_buildT rfl zz23 zp23 rfl rfl) rfl rfl ?_) | ((with_reducible refine ik_store ?_); refine wo_op0 rfl (op_stAgg rfl rfl at_A zs23 rfl rfl rfl rfl) rfl ?_)) | with_reducible refine sq_norm ?_ | with_reducible refine wc_seq ?_ | with_reducible refine wc_region ?_ | with_reducible refine wc_ret ?_)
  exact rqc1 rfl (ldAgg at_A Tryz.underlying23 rfl zs23 rfl rfl) ⟨rfl, gr_A⟩
theorem c87 {nm : ByteArray} {x y tx ty sh nx ny px py ch : Int} {a : Option Addr} {n c : Nat} {k : Int} (b1 : x.natAbs ≤ 1000000) (b2 : y.natAbs ≤ 1000000) (b3 : tx.natAbs ≤ 10000) (b4 : ty.natAbs ≤ 10000) (hk : k.natAbs ≤ 1000) (hw : Wf h) : Cf (mz G) (.func (.func 87) #[] #[]) [.agg ⟨lnC nm x y tx ty sh nx ny px py ch a n c⟩, .int .i64 k] h fun r h' => r = .agg ⟨[.int .i64 (x + k * tx), .int .i64 (y + k * ty)]⟩ ∧ Grow h h' := by
  have qa := fun (h' : H) (w' : Wf h') => c84 (G := G) (h := h') (p := x) (q := y) (k := k) (u := tx) (v := ty) (by omega) (by omega) (by omega) (by omega) (by omega) w'
  refine cf_enter0 11 [.cell 4 23] Tryz.func87 rfl rfl rfl rfl ?_
  repeat' (first | with_reducible refine wo_nil ?_ | ((with_reducible refine wo_any ?_); first | ((with_reducible refine ik_move ?_); refine wo_op rfl (op_move rfl) rfl rfl ?_) | ((with_reducible refine ik_box ?_); refine wo_op rfl (op_boxAgg rfl zs43 rfl) rfl rfl ?_) | ((with_reducible refine ik_alloc ?_); refine wo_op rfl (op_alloc zz23 zs23 rfl rfl rfl) rfl rfl ?_) | ((with_reducible refine ik_fieldAddr ?_); first | refine wo_op rfl (op_fieldAddr (o := 1) rfl Tryz.underlying43 rfl zs23 rfl) rfl rfl ?_ | refine wo_op rfl (op_fieldAddr (o := 3) rfl Tryz.underlying43 rfl zs23 rfl) rfl rfl ?_) | ((with_reducible refine ik_load ?_); refine wo_op rfl (op_ldAgg rfl at_A Tryz.underlying23 rfl zs23 rfl rfl) rfl rfl ?_) | ((with_reducible refine ik_store ?_); refine wo_op0 rfl (op_stAgg rfl rfl at_A zs23 rfl rfl rfl rfl) rfl ?_) | ((with_reducible refine ik_callv ?_); (refine wo_call rfl rfl rfl rfl (qa _ wf_A) rfl rfl ?_; rintro _ _ ⟨rfl, hq⟩; all_goals ((try (have hqn := hq.nx)); (try simp only [H.nx_push, H.nx_set, H.nx_bump] at hqn))))) | with_reducible refine sq_norm ?_ | with_reducible refine wc_seq ?_ | with_reducible refine wc_region ?_ | with_reducible refine wc_ret ?_)
  exact rqc1 rfl (ldAgg at_A Tryz.underlying23 rfl zs23 rfl rfl) ⟨rfl, gr_A⟩
theorem c75 {nm : ByteArray} {x y tx ty sh nx ny px py ch : Int} {a : Option Addr} {n c : Nat} {k : Int} (b1 : x.natAbs ≤ 1000000) (b2 : y.natAbs ≤ 1000000) (b3 : tx.natAbs ≤ 10000) (b4 : ty.natAbs ≤ 10000) (hk : k.natAbs ≤ 1000) (hw : Wf h) : Cf (mz G) (.func (.func 75) #[] #[]) [.agg ⟨lnC nm x y tx ty sh nx ny px py ch a n c⟩, .int .i64 k] h fun r h' => r = .agg ⟨[.int .i64 (x + k * tx), .int .i64 (y + k * ty)]⟩ ∧ Grow h h' := by
  have qa := fun (h' : H) (w' : Wf h') => c97 (G := G) (h := h') (p := x) (q := y) (k := k) (u := tx) (v := ty) (by omega) (by omega) (by omega) (by omega) (by omega) w'
  refine cf_enter0 11 [.cell 4 23] Tryz.func75 rfl rfl rfl rfl ?_
  repeat' (first | with_reducible refine wo_nil ?_ | ((with_reducible refine wo_any ?_); first | ((with_reducible refine ik_move ?_); refine wo_op rfl (op_move rfl) rfl rfl ?_) | ((with_reducible refine ik_box ?_); refine wo_op rfl (op_boxAgg rfl zs45 rfl) rfl rfl ?_) | ((with_reducible refine ik_alloc ?_); refine wo_op rfl (op_alloc zz23 zs23 rfl rfl rfl) rfl rfl ?_) | ((with_reducible refine ik_fieldAddr ?_); first | refine wo_op rfl (op_fieldAddr (o := 1) rfl Tryz.underlying45 rfl zs23 rfl) rfl rfl ?_ | refine wo_op rfl (op_fieldAddr (o := 3) rfl Tryz.underlying45 rfl zs23 rfl) rfl rfl ?_) | ((with_reducible refine ik_load ?_); refine wo_op rfl (op_ldAgg rfl at_A Tryz.underlying23 rfl zs23 rfl rfl) rfl rfl ?_) | ((with_reducible refine ik_store ?_); refine wo_op0 rfl (op_stAgg rfl rfl at_A zs23 rfl rfl rfl rfl) rfl ?_) | ((with_reducible refine ik_callv ?_); (refine wo_call rfl rfl rfl rfl (qa _ wf_A) rfl rfl ?_; rintro _ _ ⟨rfl, hq⟩; all_goals ((try (have hqn := hq.nx)); (try simp only [H.nx_push, H.nx_set, H.nx_bump] at hqn))))) | with_reducible refine sq_norm ?_ | with_reducible refine wc_seq ?_ | with_reducible refine wc_region ?_ | with_reducible refine wc_ret ?_)
  exact rqc1 rfl (ldAgg at_A Tryz.underlying23 rfl zs23 rfl rfl) ⟨rfl, gr_A⟩
end Go.Proofs.YtnkmencbnoipmaaGreatDoor

/- The traces of a line; indices in order. -/
namespace Go.Proofs.YtnkmencbnoipmaaGreatDoor
open Go Go.Ab Go.Fl
attribute [local irreducible] SeqQ BlkQ LpQ RetQ Wc Wo WD WX Op1 Op1q Op1a Cf Cl From
attribute [local irreducible] Ieee.Format.order Ieee.Format.read Ieee.Format.nearest Ieee.Format.write Ieee.Format.mul Ieee.Format.div Ieee.Format.sqrt Ieee.Datum.order Ieee.Datum.integral K U rngE firstNZ ptE errN cntE cmpI plaE
set_option maxRecDepth 10000
variable {G : Base} {h : H}

@[reducible] def trF (B : Nat) : Value := .func (.func 138) #[] #[.pointer (some ⟨B, 0, some 0⟩)]
structure LnOk (x y tx ty nx ny px py : Int) (sh ch : Nat) : Prop where
  b1 : x.natAbs ≤ 100000
  b2 : y.natAbs ≤ 100000
  b3 : tx.natAbs ≤ 10000
  b4 : ty.natAbs ≤ 10000
  b5 : nx.natAbs ≤ 10000
  b6 : ny.natAbs ≤ 10000
  b7 : px.natAbs ≤ 10000
  b8 : py.natAbs ≤ 10000
  hS : sh ≤ 64
  hC : ch ≤ 16
section
variable {x y tx ty nx ny px py : Int} {sh ch i k : Nat} (bd : LnOk x y tx ty nx ny px py sh ch)
include bd
theorem srcB (hi : i < sh) : (x + (i : Int) * tx).natAbs ≤ 1000000 ∧ (y + (i : Int) * ty).natAbs ≤ 1000000 := by
  obtain ⟨b1, b2, b3, b4, _, _, _, _, hS, _⟩ := bd
  have m1 := mulb (a := (i : Int)) (b := tx) (A := 64) (by omega) b3
  have m2 := mulb (a := (i : Int)) (b := ty) (A := 64) (by omega) b4
  omega
theorem nearB (hi : i < sh) : (x + (i : Int) * tx + 1 * nx).natAbs ≤ 2000000 ∧ (y + (i : Int) * ty + 1 * ny).natAbs ≤ 2000000 := by
  obtain ⟨s1, s2⟩ := srcB bd hi
  have b5 := bd.b5
  have b6 := bd.b6
  rw [Int.one_mul, Int.one_mul]
  exact ⟨Nat.le_trans (Int.natAbs_add_le _ _) (by omega), Nat.le_trans (Int.natAbs_add_le _ _) (by omega)⟩
end
theorem c87b {nm : ByteArray} {x y tx ty nx ny px py : Int} {sh ch : Nat} {a : Option Addr} {n c : Nat} {i : Nat} (bd : LnOk x y tx ty nx ny px py sh ch) (hi : i < sh) (hw : Wf h) : Cf (mz G) (.func (.func 87) #[] #[]) [.agg ⟨lnC nm x y tx ty sh nx ny px py ch a n c⟩, .int .i64 i] h fun r h' => r = .agg ⟨[.int .i64 (x + (i : Int) * tx), .int .i64 (y + (i : Int) * ty)]⟩ ∧ Grow h h' := by
  have hS := bd.hS
  have h1 := bd.b1
  have h2 := bd.b2
  exact c87 (by omega) (by omega) bd.b3 bd.b4 (by omega) hw
theorem c84n {x y tx ty nx ny px py : Int} {sh ch i : Nat} (bd : LnOk x y tx ty nx ny px py sh ch) (hi : i < sh) (hw : Wf h) : Cf (mz G) (.func (.func 84) #[] #[]) [.agg ⟨[.int .i64 (x + (i : Int) * tx), .int .i64 (y + (i : Int) * ty)]⟩, .int .i64 1, .agg ⟨[.int .i64 nx, .int .i64 ny]⟩] h fun r h' => r = .agg ⟨[.int .i64 (x + (i : Int) * tx + 1 * nx), .int .i64 (y + (i : Int) * ty + 1 * ny)]⟩ ∧ Grow h h' := by
  obtain ⟨s1, s2⟩ := srcB bd hi
  have h5 := bd.b5
  have h6 := bd.b6
  exact c84 (by omega) (by omega) (by omega) (by omega) (by omega) hw
theorem c84r {x y tx ty nx ny px py : Int} {sh ch i k : Nat} (bd : LnOk x y tx ty nx ny px py sh ch) (hi : i < sh) (hk : k < ch) (hw : Wf h) : Cf (mz G) (.func (.func 84) #[] #[]) [.agg ⟨[.int .i64 (x + (i : Int) * tx + 1 * nx), .int .i64 (y + (i : Int) * ty + 1 * ny)]⟩, .int .i64 k, .agg ⟨[.int .i64 px, .int .i64 py]⟩] h fun r h' => r = .agg ⟨[.int .i64 (x + (i : Int) * tx + 1 * nx + (k : Int) * px), .int .i64 (y + (i : Int) * ty + 1 * ny + (k : Int) * py)]⟩ ∧ Grow h h' := by
  obtain ⟨s1, s2⟩ := nearB bd hi
  have h5 := bd.b7
  have h6 := bd.b8
  have hC := bd.hC
  exact c84 (by omega) (by omega) (by omega) (by omega) (by omega) hw
/-- What lies from a block on is kept. -/
def Kp (o : AObj) : Prop := ∀ c s, o ≠ .cells c 81 4 s
theorem kp23 {c : List Value} : Kp (.cells c 23 2 false) := by intro _ _ q; simp at q
def Later (N : Nat) (g g' : H) : Prop := ∀ b o, N ≤ b → Kp o → At g b o → At g' b o
theorem c80 {nm : ByteArray} {x y tx ty nx ny px py : Int} {sh ch : Nat} {a : Option Addr} {n c : Nat} : Cf (mz G) (.func (.func 80) #[] #[]) [.agg ⟨lnC nm x y tx ty sh nx ny px py ch a n c⟩] h fun r h' => r = trF h.nx ∧ h' = h.push (.cells (lnC nm x y tx ty sh nx ny px py ch a n c) 43 12 false) := by
  refine cf_enter0 4 [.tmp 2] Tryz.func80 rfl rfl rfl rfl ?_
  repeat' (first | with_reducible refine wo_nil ?_ | ((with_reducible refine wo_any ?_); first | ((with_reducible refine ik_assign ?_); refine wo_op rfl (op_assign rfl) rfl rfl ?_) | ((with_reducible refine ik_makeFunc ?_); refine wo_op rfl (op_makeFunc (fun _ q => by cases q) rfl rfl) rfl rfl ?_) | ((with_reducible refine ik_box ?_); refine wo_op rfl (op_boxAgg rfl zs43 rfl) rfl rfl ?_)) | with_reducible refine sq_norm ?_ | with_reducible refine wc_seq ?_ | with_reducible refine wc_region ?_ | with_reducible refine wc_ret ?_)
  exact rq1 rfl ⟨rfl, rfl⟩
set_option maxHeartbeats 4000000 in
theorem c138 {Y B N : Nat} (J : Nat → Nat → H → Prop) (D : H → Prop) {nm : ByteArray} {x y tx ty nx ny px py : Int} {sh ch : Nat} {a : Option Addr} {n c : Nat} (bd : LnOk x y tx ty nx ny px py sh ch)
    (hB : ∀ i k g, J i k g → At g B (.cells (lnC nm x y tx ty sh nx ny px py ch a n c) 43 12 false) ∧ N ≤ g.nx ∧ Wf g)
    (hst : ∀ i k g g', J i k g → Grow g g' → Wf g' → J i k g')
    (hr : ∀ i g, i < sh → J i ch g → J (i + 1) 0 g)
    (hy : ∀ i k g, i < sh → k < ch → J i k g → Cf (mz G) (.func (.yield Y) #[] #[]) [.int .i64 i, .agg ⟨[.int .i64 (x + (i : Int) * tx), .int .i64 (y + (i : Int) * ty), .int .i64 (x + (i : Int) * tx + 1 * nx + (k : Int) * px), .int .i64 (y + (i : Int) * ty + 1 * ny + (k : Int) * py)]⟩] g fun v g' => (v = .bool true ∧ J i (k + 1) g' ∧ Later N g g') ∨ (v = .bool false ∧ D g'))
    (h0 : J 0 0 h) : Cf (mz G) (trF B) [.func (.yield Y) #[] #[]] h fun _ g => J sh 0 g ∨ D g := by
  obtain ⟨e1, e2, e3⟩ := hB 0 0 h h0
  have hS := bd.hS
  have hC := bd.hC
  refine cf_enter (sz := 37) (rs := []) (all := [.func (.yield Y) #[] #[], .pointer (some ⟨B, 0, some 0⟩)]) Tryz.func138 rfl rfl rfl rfl rfl ?_
  repeat' (first | with_reducible refine wo_nil ?_ | ((with_reducible refine wo_any ?_); first | ((with_reducible refine ik_move ?_); refine wo_op rfl (op_move rfl) rfl rfl ?_) | ((with_reducible refine ik_fieldAddr ?_); refine wo_op rfl (op_fieldAddr (o := 5) rfl Tryz.underlying43 rfl zs3 rfl) rfl rfl ?_) | ((with_reducible refine ik_load ?_); refine wo_op rfl (op_ldAt rfl at_A Tryz.underlying3 rfl rfl) rfl rfl ?_)) | with_reducible refine sq_norm ?_ | with_reducible refine wc_seq ?_ | with_reducible refine wc_region ?_ | with_reducible refine wc_block ?_)
  refine wc_loop (fun i => sh - i) (fun i : Nat => [(0, .func (.yield Y) #[] #[]), (1, .pointer (some ⟨B, 0, some 0⟩)), (8, .int .i64 sh), (9, .int .i64 i)]) (fun i g => i ≤ sh ∧ J i 0 g) 0 (within_lk ⟨rfl, rfl, rfl, rfl, trivial⟩) ⟨Nat.zero_le _, h0⟩ ?_
  clear e1 e2 e3
  rintro i g ⟨hi, hJ⟩
  obtain ⟨e1, e2, e3⟩ := hB i 0 g hJ
  have lB := e1.lt
  by_cases hlt : i < sh
  · have qs := fun (h' : H) (w' : Wf h') => c87b (G := G) (h := h') (nm := nm) (a := a) (n := n) (c := c) bd hlt w'
    have qn := fun (h' : H) (w' : Wf h') => c84n (G := G) (h := h') bd hlt w'
    have hJ' := fun g' (gr : Grow g g') (w : Wf g') => hst i 0 g g' hJ gr w
    repeat' (first | with_reducible refine wo_nil ?_ | ((with_reducible refine wo_any ?_); first | ((with_reducible refine ik_move ?_); refine wo_op rfl (op_move rfl) rfl rfl ?_) | ((with_reducible refine ik_assign ?_); refine wo_op rfl (op_assign rfl) rfl rfl ?_) | ((with_reducible refine ik_fieldAddr ?_); first | refine wo_op rfl (op_fieldAddr (o := 6) rfl Tryz.underlying43 rfl zs23 rfl) rfl rfl ?_ | refine wo_op rfl (op_fieldAddr (o := 10) rfl Tryz.underlying43 rfl zs3 rfl) rfl rfl ?_) | ((with_reducible refine ik_load ?_); first | refine wo_op rfl (op_ldAt rfl at_A Tryz.underlying3 rfl rfl) rfl rfl ?_ | refine wo_op rfl (op_ldAgg rfl at_A Tryz.underlying43 rfl zs43 rfl rfl) rfl rfl ?_ | refine wo_op rfl (op_ldAgg rfl at_A Tryz.underlying23 rfl zs23 rfl rfl) rfl rfl ?_) | ((with_reducible refine ik_bin ?_); refine wo_op rfl (op_lss rfl rfl) rfl rfl ?_) | ((with_reducible refine ik_alloc ?_); refine wo_op rfl (op_alloc zz23 zs23 rfl rfl rfl) rfl rfl ?_) | ((with_reducible refine ik_store ?_); refine wo_op0 rfl (op_stAgg rfl rfl at_A zs23 rfl rfl rfl rfl) rfl ?_) | ((with_reducible refine ik_callv ?_); first | (refine wo_call rfl rfl rfl rfl (qs _ wf_A) rfl rfl ?_; rintro _ _ ⟨rfl, hq⟩; all_goals ((try (have hqn := hq.nx)); (try simp only [H.nx_push, H.nx_set, H.nx_bump] at hqn))) | (refine wo_call rfl rfl rfl rfl (qn _ wf_A) rfl rfl ?_; rintro _ _ ⟨rfl, hq⟩; all_goals ((try (have hqn := hq.nx)); (try simp only [H.nx_push, H.nx_set, H.nx_bump] at hqn))))) | with_reducible refine sq_norm ?_ | with_reducible refine wc_seq ?_ | with_reducible refine wc_region ?_ | with_reducible refine wc_skip ?_ | with_reducible refine wc_block ?_ | (refine wc_if rfl (fun hb => ?_) (fun hb => ?_) <;> (try simp only [decide_eq_true_eq, decide_eq_false_iff_not, Bool.not_eq_true', Bool.not_eq_false', Int.not_lt, Int.not_le, Decidable.not_not, not_true_eq_false, not_false_eq_true, beq_self_eq_true, reduceCtorEq] at hb) <;> (try (exfalso; omega))))
    rename_i g3 hq3 hn3 g4
    refine wc_cut (ι := Nat × Nat) (fun b => [(0, .func (.yield Y) #[] #[]), (1, .pointer (some ⟨B, 0, some 0⟩)), (3, .int .i64 i), (4, .pointer (some ⟨b.1, 0, some 0⟩)), (5, .pointer (some ⟨b.2, 0, some 0⟩)), (9, .int .i64 i), (8, .int .i64 sh), (20, .int .i64 ch), (21, .int .i64 0)]) (fun b g' => (N ≤ b.1 ∧ N ≤ b.2) ∧ J i 0 g' ∧ At g' b.1 (.cells [.int .i64 (x + (i : Int) * tx), .int .i64 (y + (i : Int) * ty)] 23 2 false) ∧ At g' b.2 (.cells [.int .i64 (x + (i : Int) * tx + 1 * nx), .int .i64 (y + (i : Int) * ty + 1 * ny)] 23 2 false)) (g3.nx, g4.nx) (within_lk ⟨rfl, rfl, rfl, rfl, rfl, rfl, rfl, rfl, rfl, trivial⟩) ?_ ?_
    · refine ⟨⟨?_, ?_⟩, hJ' _ gr_A wf_A, ?_, ?_⟩
      · show N ≤ g3.nx; omega
      · show N ≤ g4.nx; omega
      · show At _ g3.nx _; exact at_A
      · show At _ g4.nx _; exact at_A
    clear hJ' hJ e1 e2 e3 lB
    rintro ⟨p4, p5⟩ g1 ⟨⟨z1, z2⟩, hJ1, a4, a5⟩
    dsimp only at z1 z2 a4 a5 ⊢
    refine wc_loop (fun k => ch - k) (fun k : Nat => [(0, .func (.yield Y) #[] #[]), (1, .pointer (some ⟨B, 0, some 0⟩)), (3, .int .i64 i), (4, .pointer (some ⟨p4, 0, some 0⟩)), (5, .pointer (some ⟨p5, 0, some 0⟩)), (9, .int .i64 i), (8, .int .i64 sh), (20, .int .i64 ch), (21, .int .i64 k)]) (fun k g => k ≤ ch ∧ J i k g ∧ At g p4 (.cells [.int .i64 (x + (i : Int) * tx), .int .i64 (y + (i : Int) * ty)] 23 2 false) ∧ At g p5 (.cells [.int .i64 (x + (i : Int) * tx + 1 * nx), .int .i64 (y + (i : Int) * ty + 1 * ny)] 23 2 false)) 0 (within_lk ⟨rfl, rfl, rfl, rfl, rfl, rfl, rfl, rfl, rfl, trivial⟩) ⟨Nat.zero_le _, hJ1, a4, a5⟩ ?_
    clear hJ1 a4 a5
    rintro k g2 ⟨hk, hJ2, a4, a5⟩
    obtain ⟨e1, e2, e3⟩ := hB i k g2 hJ2
    have lB := e1.lt
    have l4 := a4.lt
    have l5 := a5.lt
    by_cases hkc : k < ch
    · have qr := fun (h' : H) (w' : Wf h') => c84r (G := G) (h := h') bd hlt hkc w'
      have hyk := fun g' (gr : Grow g2 g') (w : Wf g') => hy i k g' hlt hkc (hst i k g2 g' hJ2 gr w)
      repeat' (first | with_reducible refine wo_nil ?_ | ((with_reducible refine wo_any ?_); first | ((with_reducible refine ik_move ?_); refine wo_op rfl (op_move rfl) rfl rfl ?_) | ((with_reducible refine ik_assign ?_); refine wo_op rfl (op_assign rfl) rfl rfl ?_) | ((with_reducible refine ik_bin ?_); first | refine wo_op rfl (op_lss rfl rfl) rfl rfl ?_ | refine wo_op rfl (op_add' rfl rfl (w64 (by omega) (by omega))) rfl rfl ?_)) | ((with_reducible refine xk_any ?_); ((with_reducible refine xk_as0 ?_); first | ((with_reducible refine xk_move ?_); refine wx_q (wt_none rfl) rfl rfl (op_q rfl (op_move rfl)) rfl rfl rfl ?_) | ((with_reducible refine xk_fieldAddr ?_); refine wx_q (wt_none rfl) rfl rfl (op_q rfl (op_fieldAddr (o := 8) rfl Tryz.underlying43 rfl zs23 rfl)) rfl rfl rfl ?_) | ((with_reducible refine xk_load ?_); refine wx_h0 (wt_none rfl) rfl (op_q rfl (op_ldAgg rfl at_A Tryz.underlying23 rfl zs23 rfl rfl)) rfl rfl rfl ?_) | ((with_reducible refine xk_build ?_); refine wx_q (wt_none rfl) rfl rfl (op_q rfl (op_buildT rfl zz81 zp81 rfl rfl)) rfl rfl rfl ?_) | ((with_reducible refine xk_un ?_); refine wx_q (wt_none rfl) rfl rfl (op_q rfl (op_not rfl)) rfl rfl rfl ?_) | ((with_reducible refine xk_callv ?_); first | (refine wx_call0 (wt_none rfl) rfl rfl rfl rfl (qr _ wf_A) rfl rfl ?_; rintro _ _ ⟨rfl, hq⟩; all_goals ((try (have hqn := hq.nx)); (try simp only [H.nx_push, H.nx_set, H.nx_bump] at hqn))) | (refine wx_call0 (wt_none rfl) rfl rfl rfl rfl ((hyk _ gr_A wf_A)) rfl rfl ?_; rintro _ _ (⟨rfl, hj, hla⟩ | ⟨rfl, hq⟩); all_goals ((try (have hqn := hq.nx)); (try simp only [H.nx_push, H.nx_set, H.nx_bump] at hqn)))) | with_reducible refine wx_nil0 ?_ ?_)) | with_reducible exact obl_nil | with_reducible refine obl_cons ?_ ?_ | ((with_reducible refine ik_obs ?_); first | exact obs_nil | refine obs_skip rfl ?_ | refine obs_chkn rfl rfl (op_q rfl (op_ldAgg rfl at_A Tryz.underlying23 rfl zs23 (by rfl) rfl)) ?_) | with_reducible refine sq_norm ?_ | with_reducible refine wc_seq ?_ | with_reducible refine wc_region ?_ | with_reducible refine wc_skip ?_ | with_reducible refine wc_ret ?_ | with_reducible refine wc_block ?_ | with_reducible refine bq_norm ?_ | with_reducible refine bq_ret ?_ | with_reducible refine sq_ret ?_ | with_reducible refine lq_ret ?_ | refine wc_ift rfl ?_ | refine wc_iff rfl ?_ | (refine wc_if rfl (fun hb => ?_) (fun hb => ?_) <;> (try simp only [decide_eq_true_eq, decide_eq_false_iff_not, Bool.not_eq_true', Bool.not_eq_false', Int.not_lt, Int.not_le, Decidable.not_not, not_true_eq_false, not_false_eq_true, beq_self_eq_true, reduceCtorEq] at hb) <;> (try (exfalso; omega))) | refine wc_drawB (id := 8) 11 [0, 0, 0, 0, 0, 0, 32, 120, 252, 511, 1023] [0, 1, 2, 3, 4, 5, 6, 7, 8, 9, 10] (by kernel_rfl) (by kernel_rfl) rfl rfl ?_)
      all_goals first
        | exact lq_norm (k + 1) (by omega) (within_lk ⟨rfl, rfl, rfl, rfl, rfl, rfl, rfl, rfl, rfl, trivial⟩) ⟨by omega, hj, hla _ _ z1 kp23 at_A, hla _ _ z2 kp23 at_A⟩
        | exact rq0 (.inr hq)
    · have hke : k = ch := by omega
      subst hke
      repeat' (first | with_reducible refine wo_nil ?_ | ((with_reducible refine wo_any ?_); first | ((with_reducible refine ik_move ?_); refine wo_op rfl (op_move rfl) rfl rfl ?_) | ((with_reducible refine ik_bin ?_); first | refine wo_op rfl (op_lss rfl rfl) rfl rfl ?_ | refine wo_op rfl (op_add' rfl rfl (w64 (by omega) (by omega))) rfl rfl ?_)) | with_reducible refine sq_norm ?_ | with_reducible refine wc_seq ?_ | with_reducible refine wc_region ?_ | with_reducible refine wc_exit ?_ | with_reducible refine bq_norm ?_ | with_reducible refine sq_exit ?_ | with_reducible refine lq_exit ?_ | refine bq_eq rfl ?_ | (refine wc_if rfl (fun hb => ?_) (fun hb => ?_) <;> (try simp only [decide_eq_true_eq, decide_eq_false_iff_not, Bool.not_eq_true', Bool.not_eq_false', Int.not_lt, Int.not_le, Decidable.not_not, not_true_eq_false, not_false_eq_true, beq_self_eq_true, reduceCtorEq] at hb) <;> (try (exfalso; omega))))
      exact lq_norm (i + 1) (by omega) (within_lk ⟨rfl, rfl, rfl, rfl, trivial⟩) ⟨by omega, hr i _ hlt hJ2⟩
  · have hkn : i = sh := by omega
    subst hkn
    repeat' (first | with_reducible refine wo_nil ?_ | ((with_reducible refine wo_any ?_); ((with_reducible refine ik_bin ?_); refine wo_op rfl (op_lss rfl rfl) rfl rfl ?_)) | with_reducible refine sq_norm ?_ | with_reducible refine wc_seq ?_ | with_reducible refine wc_region ?_ | with_reducible refine wc_exit ?_ | with_reducible refine sq_exit ?_ | with_reducible refine lq_exit ?_ | refine bq_eq rfl ?_ | (refine wc_if rfl (fun hb => ?_) (fun hb => ?_) <;> (try simp only [decide_eq_true_eq, decide_eq_false_iff_not, Bool.not_eq_true', Bool.not_eq_false', Int.not_lt, Int.not_le, Decidable.not_not, not_true_eq_false, not_false_eq_true, beq_self_eq_true, reduceCtorEq] at hb) <;> (try (exfalso; omega))))
    exact rq0n (.inl hJ)
end Go.Proofs.YtnkmencbnoipmaaGreatDoor

/- Indices in order; the numbers of a line. -/
namespace Go.Proofs.YtnkmencbnoipmaaGreatDoor
open Go Go.Ab Go.Fl
attribute [local irreducible] SeqQ BlkQ LpQ RetQ Wc Wo WD WX Op1 Op1q Op1a Cf Cl From
attribute [local irreducible] Ieee.Format.order Ieee.Format.read Ieee.Format.nearest Ieee.Format.write Ieee.Format.mul Ieee.Format.div Ieee.Format.sqrt Ieee.Datum.order Ieee.Datum.integral K U rngE firstNZ ptE errN cntE cmpI plaE
set_option maxRecDepth 10000
variable {G : Base} {h : H}

def idxE (i n : Int) : Int := if i < 0 ∨ n ≤ i then 10 else 0
theorem c95 (i n : Int) : Cl (mz G) (.func (.func 95) #[] #[]) [.int .i64 i, .int .i64 n] h (.int .i64 (idxE i n)) h := by
  refine cl_of_cf (cf_enter0 12 [.tmp 4] Tryz.func95 rfl rfl rfl rfl ?_)
  repeat' (first | with_reducible refine wo_nil ?_ | ((with_reducible refine wo_any ?_); first | ((with_reducible refine ik_move ?_); refine wo_op rfl (op_move rfl) rfl rfl ?_) | ((with_reducible refine ik_assign ?_); refine wo_op rfl (op_assign rfl) rfl rfl ?_) | ((with_reducible refine ik_bin ?_); refine wo_op rfl (op_lss rfl rfl) rfl rfl ?_) | ((with_reducible refine ik_pick ?_); first | refine wo_op rfl (op_pickt rfl rfl) rfl rfl ?_ | refine wo_op rfl (op_pickf rfl rfl) rfl rfl ?_) | ((with_reducible refine ik_g ?_); first | refine wo_gskip rfl rfl rfl rfl rfl rfl ?_ | ((with_reducible refine ig_move ?_); refine wo_grun rfl rfl rfl (op_move rfl) rfl rfl ?_) | ((with_reducible refine ig_bin ?_); refine wo_grun rfl rfl rfl (op_geq rfl rfl) rfl rfl ?_) | (refine wo_gsplit rfl rfl rfl (fun hb => ?_) (fun hb => ?_) <;> (try simp only [decide_eq_true_eq, decide_eq_false_iff_not, Bool.not_eq_true', Bool.not_eq_false', Int.not_lt, Int.not_le, Decidable.not_not, not_true_eq_false, not_false_eq_true, beq_self_eq_true, reduceCtorEq] at hb) <;> (try (exfalso; omega))))) | with_reducible refine sq_norm ?_ | with_reducible refine wc_seq ?_ | with_reducible refine wc_region ?_ | with_reducible refine wc_skip ?_ | with_reducible refine wc_ret ?_ | with_reducible refine sq_ret ?_ | refine wc_ift rfl ?_ | (refine wc_if rfl (fun hb => ?_) (fun hb => ?_) <;> (try simp only [decide_eq_true_eq, decide_eq_false_iff_not, Bool.not_eq_true', Bool.not_eq_false', Int.not_lt, Int.not_le, Decidable.not_not, not_true_eq_false, not_false_eq_true, beq_self_eq_true, reduceCtorEq] at hb) <;> (try (exfalso; omega))))
  all_goals refine rq1 rfl ⟨?_, rfl⟩
  all_goals unfold idxE
  all_goals (congr 1; first | rw [if_pos (by omega)] | rw [if_neg (by omega)])
theorem c137 {B : Nat} {x m : Int} (at1 : At h B (.cells [.int .i64 m] 3 1 false)) : Cl (mz G) (.func (.func 137) #[] #[.pointer (some ⟨B, 0, some 0⟩)]) [.int .i64 x] h (.int .i64 (idxE x m)) h := by
  refine cl_of_cf (cf_enter (sz := 7) (rs := [.tmp 3]) (all := [.int .i64 x, .pointer (some ⟨B, 0, some 0⟩)]) Tryz.func137 rfl rfl rfl rfl rfl ?_)
  repeat' (first | with_reducible refine wo_nil ?_ | ((with_reducible refine wo_any ?_); first | ((with_reducible refine ik_move ?_); refine wo_op rfl (op_move rfl) rfl rfl ?_) | ((with_reducible refine ik_assign ?_); refine wo_op rfl (op_assign rfl) rfl rfl ?_) | ((with_reducible refine ik_load ?_); refine wo_op rfl (op_ldAt rfl at_A Tryz.underlying3 rfl rfl) rfl rfl ?_) | ((with_reducible refine ik_callF (f := 95) ?_); refine wo_op rfl (op_call rfl rfl (c95 _ _)) rfl rfl ?_)) | with_reducible refine sq_norm ?_ | with_reducible refine wc_seq ?_ | with_reducible refine wc_region ?_ | with_reducible refine wc_ret ?_)
  exact rq1 rfl ⟨rfl, rfl⟩
def ascA (ce : Int → Int) (l : List Int) (i : Nat) : Int := if ce (l.getD i 0) ≠ 0 then ce (l.getD i 0) else if 0 < i ∧ l.getD i 0 ≤ l.getD (i - 1) 0 then 11 else 0
theorem c135i {v : Value} {n B : Nat} {m : Int} {l : List Int} (s : Sl G h 1 v n (l.map (.int .i64))) (hn : n < 1000000) (at1 : At h B (.cells [.int .i64 m] 3 1 false)) : Cl (mz G) (.func (.func 135) #[] #[]) [v, .func (.func 136) #[] #[], .func (.func 137) #[] #[.pointer (some ⟨B, 0, some 0⟩)]] h (.int .i64 (errN (ascA (fun x => idxE x m) l) n)) h := by
  obtain ⟨a, c, rfl⟩ := s.form
  have hl := s.length
  simp at hl
  have hq := fun x => c137 (G := G) (x := x) at1
  obtain ⟨ce, hce⟩ : ∃ ce, (fun x => idxE x m) = ce := ⟨_, rfl⟩
  have hq : ∀ x, Cl (mz G) (.func (.func 137) #[] #[.pointer (some ⟨B, 0, some 0⟩)]) [.int .i64 x] h (.int .i64 (ce x)) h := fun x => by rw [← hce]; exact hq x
  rw [hce]
  refine cl_of_cf (cf_enter0 37 [.tmp 6] Tryz.func135 rfl rfl rfl rfl ?_)
  repeat' (first | with_reducible refine wo_nil ?_ | ((with_reducible refine wo_any ?_); first | ((with_reducible refine ik_move ?_); refine wo_op rfl (op_move rfl) rfl rfl ?_) | ((with_reducible refine ik_assign ?_); refine wo_op rfl (op_assign rfl) rfl rfl ?_) | ((with_reducible refine ik_callb ?_); refine wo_op rfl (op_lenSl rfl Tryz.underlying41) rfl rfl ?_)) | with_reducible refine sq_norm ?_ | with_reducible refine wc_seq ?_ | with_reducible refine wc_region ?_ | with_reducible refine wc_block ?_)
  refine wc_loop (fun k => n - k) (fun k : Nat => [(0, .slice a n c), (1, .func (.func 136) #[] #[]), (2, .func (.func 137) #[] #[.pointer (some ⟨B, 0, some 0⟩)]), (10, .slice a n c), (11, .int .i64 n), (12, .int .i64 k)]) (fun k h' => h' = h ∧ k ≤ n ∧ errN (ascA ce l) k = 0) 0 (within_lk ⟨rfl, rfl, rfl, rfl, rfl, rfl, trivial⟩) ⟨rfl, Nat.zero_le _, errN_zero _⟩ ?_
  rintro k h' ⟨rfl, hk, hz⟩
  by_cases hlt : k < n
  · obtain ⟨ad, i1, i3⟩ := in_at s (i := (k : Int)) hlt rfl
    have nxt := errN_next hz
    have hit := fun (q : ascA ce l k ≠ 0) => (errN_hit (f := ascA ce l) (k := k + 1) (n := n) (by omega) (by rw [nxt]; exact q)).trans nxt
    obtain ⟨x, hx⟩ : ∃ x, l.getD k 0 = x := ⟨_, rfl⟩
    have hF : ascA ce l k = if ce x ≠ 0 then ce x else if 0 < k ∧ x ≤ l.getD (k - 1) 0 then 11 else 0 := by unfold ascA; rw [hx]
    rw [hx] at i3
    have q66 := hq x
    by_cases he : ce x = 0
    · rw [he] at q66
      rw [if_neg (by omega)] at hF
      by_cases hk0 : 0 < k
      · obtain ⟨bd, j1, j3⟩ := in_at s (i := (k : Int) - 1) (q := k - 1) (by omega) (by omega)
        obtain ⟨y, hy⟩ : ∃ y, l.getD (k - 1) 0 = y := ⟨_, rfl⟩
        rw [hy] at j3 hF
        have hcl := cmpI_le x y
        have q73 := fun (h : H) => c136 (G := G) (h := h) x y
        generalize cmpI x y = C at hcl q73
        by_cases q : x ≤ y
        · rw [if_pos ⟨hk0, q⟩] at hF
          rw [hit (by rw [hF]; decide), hF]
          have hC0 : C ≤ 0 := of_decide_eq_true (by rw [hcl]; exact decide_eq_true q)
          repeat' (first | with_reducible refine wo_nil ?_ | ((with_reducible refine wo_any ?_); first | ((with_reducible refine ik_move ?_); refine wo_op rfl (op_move rfl) rfl rfl ?_) | ((with_reducible refine ik_assign ?_); refine wo_op rfl (op_assign rfl) rfl rfl ?_) | ((with_reducible refine ik_indexAddr ?_); refine wo_op rfl (op_indexAddr rfl rfl i1) rfl rfl ?_) | ((with_reducible refine ik_load ?_); refine wo_op rfl (op_ldCell rfl Tryz.underlying3 rfl i3) rfl rfl ?_) | ((with_reducible refine ik_bin ?_); first | refine wo_op rfl (op_lss rfl rfl) rfl rfl ?_ | refine wo_op rfl (op_neq rfl rfl) rfl rfl ?_ | refine wo_op rfl (op_gtr rfl rfl) rfl rfl ?_) | ((with_reducible refine ik_pick ?_); refine wo_op rfl (op_pickt rfl rfl) rfl rfl ?_) | ((with_reducible refine ik_callv ?_); refine wo_op rfl (op_call rfl rfl (q66)) rfl rfl ?_) | ((with_reducible refine ik_g ?_); first | ((with_reducible refine ig_move ?_); refine wo_grun rfl rfl rfl (op_move rfl) rfl rfl ?_) | ((with_reducible refine ig_indexAddr ?_); refine wo_grun rfl rfl rfl (op_indexAddr rfl rfl j1) rfl rfl ?_) | ((with_reducible refine ig_load ?_); refine wo_grun rfl rfl rfl (op_ldCell rfl Tryz.underlying3 rfl j3) rfl rfl ?_) | ((with_reducible refine ig_bin ?_); first | refine wo_grun rfl rfl rfl (op_sub' rfl rfl (w64 (by omega) (by omega))) rfl rfl ?_ | refine wo_grun rfl rfl rfl (op_leq rfl rfl) rfl rfl ?_) | ((with_reducible refine ig_callv ?_); refine wo_grun rfl rfl rfl (op_call rfl rfl (q73 _)) rfl rfl ?_) | (refine wo_gsplit rfl rfl rfl (fun hb => ?_) (fun hb => ?_) <;> (try simp only [decide_eq_true_eq, decide_eq_false_iff_not, Bool.not_eq_true', Bool.not_eq_false', Int.not_lt, Int.not_le, Decidable.not_not, not_true_eq_false, not_false_eq_true, beq_self_eq_true, reduceCtorEq] at hb) <;> (try (exfalso; omega))))) | with_reducible refine sq_norm ?_ | with_reducible refine wc_seq ?_ | with_reducible refine wc_region ?_ | with_reducible refine wc_skip ?_ | with_reducible refine wc_ret ?_ | with_reducible refine wc_block ?_ | with_reducible refine bq_ret ?_ | with_reducible refine sq_ret ?_ | with_reducible refine lq_ret ?_ | refine wc_iff rfl ?_ | (refine wc_if rfl (fun hb => ?_) (fun hb => ?_) <;> (try simp only [decide_eq_true_eq, decide_eq_false_iff_not, Bool.not_eq_true', Bool.not_eq_false', Int.not_lt, Int.not_le, Decidable.not_not, not_true_eq_false, not_false_eq_true, beq_self_eq_true, reduceCtorEq] at hb) <;> (try (exfalso; omega))))
          all_goals exact rq1 rfl ⟨rfl, rfl⟩
        · rw [if_neg (by omega)] at hF
          rw [hF] at nxt
          have hC0 : ¬C ≤ 0 := of_decide_eq_false (by rw [hcl]; exact decide_eq_false q)
          repeat' (first | with_reducible refine wo_nil ?_ | ((with_reducible refine wo_any ?_); first | ((with_reducible refine ik_move ?_); refine wo_op rfl (op_move rfl) rfl rfl ?_) | ((with_reducible refine ik_assign ?_); refine wo_op rfl (op_assign rfl) rfl rfl ?_) | ((with_reducible refine ik_indexAddr ?_); refine wo_op rfl (op_indexAddr rfl rfl i1) rfl rfl ?_) | ((with_reducible refine ik_load ?_); refine wo_op rfl (op_ldCell rfl Tryz.underlying3 rfl i3) rfl rfl ?_) | ((with_reducible refine ik_bin ?_); first | refine wo_op rfl (op_lss rfl rfl) rfl rfl ?_ | refine wo_op rfl (op_neq rfl rfl) rfl rfl ?_ | refine wo_op rfl (op_gtr rfl rfl) rfl rfl ?_ | refine wo_op rfl (op_add' rfl rfl (w64 (by omega) (by omega))) rfl rfl ?_) | ((with_reducible refine ik_pick ?_); refine wo_op rfl (op_pickt rfl rfl) rfl rfl ?_) | ((with_reducible refine ik_callv ?_); refine wo_op rfl (op_call rfl rfl (q66)) rfl rfl ?_) | ((with_reducible refine ik_g ?_); first | ((with_reducible refine ig_move ?_); refine wo_grun rfl rfl rfl (op_move rfl) rfl rfl ?_) | ((with_reducible refine ig_indexAddr ?_); refine wo_grun rfl rfl rfl (op_indexAddr rfl rfl j1) rfl rfl ?_) | ((with_reducible refine ig_load ?_); refine wo_grun rfl rfl rfl (op_ldCell rfl Tryz.underlying3 rfl j3) rfl rfl ?_) | ((with_reducible refine ig_bin ?_); first | refine wo_grun rfl rfl rfl (op_sub' rfl rfl (w64 (by omega) (by omega))) rfl rfl ?_ | refine wo_grun rfl rfl rfl (op_leq rfl rfl) rfl rfl ?_) | ((with_reducible refine ig_callv ?_); refine wo_grun rfl rfl rfl (op_call rfl rfl (q73 _)) rfl rfl ?_) | (refine wo_gsplit rfl rfl rfl (fun hb => ?_) (fun hb => ?_) <;> (try simp only [decide_eq_true_eq, decide_eq_false_iff_not, Bool.not_eq_true', Bool.not_eq_false', Int.not_lt, Int.not_le, Decidable.not_not, not_true_eq_false, not_false_eq_true, beq_self_eq_true, reduceCtorEq] at hb) <;> (try (exfalso; omega))))) | with_reducible refine sq_norm ?_ | with_reducible refine wc_seq ?_ | with_reducible refine wc_region ?_ | with_reducible refine wc_skip ?_ | with_reducible refine wc_block ?_ | with_reducible refine bq_norm ?_ | refine wc_iff rfl ?_ | (refine wc_if rfl (fun hb => ?_) (fun hb => ?_) <;> (try simp only [decide_eq_true_eq, decide_eq_false_iff_not, Bool.not_eq_true', Bool.not_eq_false', Int.not_lt, Int.not_le, Decidable.not_not, not_true_eq_false, not_false_eq_true, beq_self_eq_true, reduceCtorEq] at hb) <;> (try (exfalso; omega))))
          all_goals exact lq_norm (k + 1) (by omega) (within_lk ⟨rfl, rfl, rfl, rfl, rfl, rfl, trivial⟩) ⟨rfl, by omega, nxt⟩
      · rw [if_neg (by omega)] at hF
        rw [hF] at nxt
        repeat' (first | with_reducible refine wo_nil ?_ | ((with_reducible refine wo_any ?_); first | ((with_reducible refine ik_move ?_); refine wo_op rfl (op_move rfl) rfl rfl ?_) | ((with_reducible refine ik_assign ?_); refine wo_op rfl (op_assign rfl) rfl rfl ?_) | ((with_reducible refine ik_indexAddr ?_); refine wo_op rfl (op_indexAddr rfl rfl i1) rfl rfl ?_) | ((with_reducible refine ik_load ?_); refine wo_op rfl (op_ldCell rfl Tryz.underlying3 rfl i3) rfl rfl ?_) | ((with_reducible refine ik_bin ?_); first | refine wo_op rfl (op_lss rfl rfl) rfl rfl ?_ | refine wo_op rfl (op_neq rfl rfl) rfl rfl ?_ | refine wo_op rfl (op_gtr rfl rfl) rfl rfl ?_ | refine wo_op rfl (op_add' rfl rfl (w64 (by omega) (by omega))) rfl rfl ?_) | ((with_reducible refine ik_pick ?_); refine wo_op rfl (op_pickf rfl rfl) rfl rfl ?_) | ((with_reducible refine ik_callv ?_); refine wo_op rfl (op_call rfl rfl (q66)) rfl rfl ?_) | ((with_reducible refine ik_g ?_); first | refine wo_gskip rfl rfl rfl rfl rfl rfl ?_ | (refine wo_gsplit rfl rfl rfl (fun hb => ?_) (fun hb => ?_) <;> (try simp only [decide_eq_true_eq, decide_eq_false_iff_not, Bool.not_eq_true', Bool.not_eq_false', Int.not_lt, Int.not_le, Decidable.not_not, not_true_eq_false, not_false_eq_true, beq_self_eq_true, reduceCtorEq] at hb) <;> (try (exfalso; omega))))) | with_reducible refine sq_norm ?_ | with_reducible refine wc_seq ?_ | with_reducible refine wc_region ?_ | with_reducible refine wc_skip ?_ | with_reducible refine wc_block ?_ | with_reducible refine bq_norm ?_ | refine wc_iff rfl ?_ | (refine wc_if rfl (fun hb => ?_) (fun hb => ?_) <;> (try simp only [decide_eq_true_eq, decide_eq_false_iff_not, Bool.not_eq_true', Bool.not_eq_false', Int.not_lt, Int.not_le, Decidable.not_not, not_true_eq_false, not_false_eq_true, beq_self_eq_true, reduceCtorEq] at hb) <;> (try (exfalso; omega))))
        all_goals exact lq_norm (k + 1) (by omega) (within_lk ⟨rfl, rfl, rfl, rfl, rfl, rfl, trivial⟩) ⟨rfl, by omega, nxt⟩
    · rw [if_pos he] at hF
      rw [hit (by rw [hF]; exact he), hF]
      generalize ce x = E at q66 he
      repeat' (first | with_reducible refine wo_nil ?_ | ((with_reducible refine wo_any ?_); first | ((with_reducible refine ik_move ?_); refine wo_op rfl (op_move rfl) rfl rfl ?_) | ((with_reducible refine ik_assign ?_); refine wo_op rfl (op_assign rfl) rfl rfl ?_) | ((with_reducible refine ik_indexAddr ?_); refine wo_op rfl (op_indexAddr rfl rfl i1) rfl rfl ?_) | ((with_reducible refine ik_load ?_); refine wo_op rfl (op_ldCell rfl Tryz.underlying3 rfl i3) rfl rfl ?_) | ((with_reducible refine ik_bin ?_); first | refine wo_op rfl (op_lss rfl rfl) rfl rfl ?_ | refine wo_op rfl (op_neq rfl rfl) rfl rfl ?_) | ((with_reducible refine ik_callv ?_); refine wo_op rfl (op_call rfl rfl (q66)) rfl rfl ?_)) | with_reducible refine sq_norm ?_ | with_reducible refine wc_seq ?_ | with_reducible refine wc_region ?_ | with_reducible refine wc_skip ?_ | with_reducible refine wc_ret ?_ | with_reducible refine wc_block ?_ | with_reducible refine bq_ret ?_ | with_reducible refine sq_ret ?_ | with_reducible refine lq_ret ?_ | (refine wc_if rfl (fun hb => ?_) (fun hb => ?_) <;> (try simp only [decide_eq_true_eq, decide_eq_false_iff_not, Bool.not_eq_true', Bool.not_eq_false', Int.not_lt, Int.not_le, Decidable.not_not, not_true_eq_false, not_false_eq_true, beq_self_eq_true, reduceCtorEq] at hb) <;> (try (exfalso; omega))))
      all_goals exact rq1 rfl ⟨rfl, rfl⟩
  · have : k = n := by omega
    subst this
    rw [hz]
    repeat' (first | with_reducible refine wo_nil ?_ | ((with_reducible refine wo_any ?_); first | ((with_reducible refine ik_assign ?_); refine wo_op rfl (op_assign rfl) rfl rfl ?_) | ((with_reducible refine ik_bin ?_); refine wo_op rfl (op_lss rfl rfl) rfl rfl ?_)) | with_reducible refine sq_norm ?_ | with_reducible refine wc_seq ?_ | with_reducible refine wc_region ?_ | with_reducible refine wc_ret ?_ | with_reducible refine wc_exit ?_ | with_reducible refine sq_exit ?_ | with_reducible refine lq_exit ?_ | refine bq_eq rfl ?_ | (refine wc_if rfl (fun hb => ?_) (fun hb => ?_) <;> (try simp only [decide_eq_true_eq, decide_eq_false_iff_not, Bool.not_eq_true', Bool.not_eq_false', Int.not_lt, Int.not_le, Decidable.not_not, not_true_eq_false, not_false_eq_true, beq_self_eq_true, reduceCtorEq] at hb) <;> (try (exfalso; omega))))
    exact rq1 rfl ⟨rfl, rfl⟩
def indE (l : List Int) (m : Int) : Int := errN (ascA (fun x => idxE x m) l) l.length
theorem c79 {v : Value} {n : Nat} {m : Int} {l : List Int} (s : Sl G h 1 v n (l.map (.int .i64))) (hn : n < 1000000) : Cf (mz G) (.func (.func 79) #[] #[]) [v, .int .i64 m] h fun r h' => r = .int .i64 (indE l m) ∧ Grow h h' := by
  obtain ⟨a, c, rfl⟩ := s.form
  have hl := s.length
  simp at hl
  unfold indE
  rw [hl]
  have q := fun (h' : H) (B : Nat) (g : Grow h h') (at1 : At h' B (.cells [.int .i64 m] 3 1 false)) => c135i (s.grow g) hn at1
  refine cf_enter0 8 [.tmp 4] Tryz.func79 rfl rfl rfl rfl ?_
  repeat' (first | with_reducible refine wo_nil ?_ | ((with_reducible refine wo_any ?_); first | ((with_reducible refine ik_move ?_); refine wo_op rfl (op_move rfl) rfl rfl ?_) | ((with_reducible refine ik_assign ?_); refine wo_op rfl (op_assign rfl) rfl rfl ?_) | ((with_reducible refine ik_makeFunc ?_); refine wo_op rfl (op_makeFunc (by intro i q; cases q) rfl rfl) rfl rfl ?_) | ((with_reducible refine ik_box ?_); refine wo_op rfl (op_box1 rfl rfl zs3) rfl rfl ?_) | ((with_reducible refine ik_callv ?_); refine wo_op rfl (op_call rfl rfl (q _ _ gr_A at_A)) rfl rfl ?_)) | with_reducible refine sq_norm ?_ | with_reducible refine wc_seq ?_ | with_reducible refine wc_region ?_ | with_reducible refine wc_ret ?_)
  exact rq1 rfl ⟨rfl, gr_A⟩
set_option maxHeartbeats 4000000 in
theorem c78 {nm : ByteArray} {x y tx ty sh nx ny px py ch : Int} {a : Option Addr} {n c : Nat} : Cf (mz G) (.func (.func 78) #[] #[]) [.agg ⟨lnC nm x y tx ty sh nx ny px py ch a n c⟩] h fun r h' => r = .agg ⟨[.int .i64 x, .int .i64 y, .int .i64 tx, .int .i64 ty, .int .i64 sh, .int .i64 nx, .int .i64 ny, .int .i64 px, .int .i64 py, .int .i64 ch]⟩ ∧ Grow h h' := by
  refine cf_enter0 32 [.cell 2 129] Tryz.func78 rfl rfl rfl rfl ?_
  repeat' (first | with_reducible refine wo_nil ?_ | ((with_reducible refine wo_any ?_); first | ((with_reducible refine ik_box ?_); refine wo_op rfl (op_boxAgg rfl zs43 rfl) rfl rfl ?_) | ((with_reducible refine ik_alloc ?_); refine wo_op rfl (op_alloc zz129 zs129 rfl rfl rfl) rfl rfl ?_) | ((with_reducible refine ik_fieldAddr ?_); first | refine wo_op rfl (op_fieldAddr (o := 1) rfl Tryz.underlying43 rfl zs23 rfl) rfl rfl ?_ | refine wo_op rfl (op_fieldAddr (o := 0) rfl Tryz.underlying23 rfl zs3 rfl) rfl rfl ?_ | refine wo_op rfl (op_fieldAddr (o := 1) rfl Tryz.underlying23 rfl zs3 rfl) rfl rfl ?_ | refine wo_op rfl (op_fieldAddr (o := 3) rfl Tryz.underlying43 rfl zs23 rfl) rfl rfl ?_ | refine wo_op rfl (op_fieldAddr (o := 5) rfl Tryz.underlying43 rfl zs3 rfl) rfl rfl ?_ | refine wo_op rfl (op_fieldAddr (o := 6) rfl Tryz.underlying43 rfl zs23 rfl) rfl rfl ?_ | refine wo_op rfl (op_fieldAddr (o := 8) rfl Tryz.underlying43 rfl zs23 rfl) rfl rfl ?_ | refine wo_op rfl (op_fieldAddr (o := 10) rfl Tryz.underlying43 rfl zs3 rfl) rfl rfl ?_) | ((with_reducible refine ik_load ?_); refine wo_op rfl (op_ldAt rfl at_A Tryz.underlying3 rfl rfl) rfl rfl ?_) | ((with_reducible refine ik_build ?_); refine wo_op rfl (op_buildT rfl zz129 zp129 rfl rfl) rfl rfl ?_) | ((with_reducible refine ik_store ?_); refine wo_op0 rfl (op_stAgg rfl rfl at_A zs129 rfl rfl rfl rfl) rfl ?_)) | with_reducible refine sq_norm ?_ | with_reducible refine wc_seq ?_ | with_reducible refine wc_region ?_ | with_reducible refine wc_ret ?_)
  exact rqc1 rfl (ldAgg at_A Tryz.underlying129 rfl zs129 rfl rfl) ⟨rfl, gr_A⟩
end Go.Proofs.YtnkmencbnoipmaaGreatDoor
