/- The law FilterSubtracts, walked. -/
import Derived.Test.YtdfpadokepmknaaGreatDoorH2
set_option linter.all false
/- The law FilterSubtracts, walked. -/
namespace Go.Proofs.YtdfpadokepmknaaGreatDoor
open Go Go.Ab Go.Fl
attribute [local irreducible] SeqQ BlkQ LpQ RetQ Wc Wo WD WX Op1 Op1q Op1a Cf Cl From
attribute [local irreducible] Ieee.Format.order Ieee.Format.read Ieee.Format.nearest Ieee.Format.write Ieee.Format.mul Ieee.Format.div Ieee.Datum.order Ieee.Datum.integral smpE smp smpW K J U sumN lchk tchk trE hdrE appL undL undA undI wr ghoL rnd mulL dghL dghA rngE notN innL lowN lowD madeE pairE subL subF anyLarge subE remE difL
set_option maxRecDepth 10000
variable {G : Base} {h : H}

theorem eq65 (a b : Int) : eqV Tryz.prog 3 65 [.int .i64 a, .int .i64 b] [.int .i64 a, .int .i64 b] = some true := by
  rw [eqv65]; simp
def NumA (a E b w : Int) : Prop := (b ≠ 0 ∧ E = b ∧ a = 0) ∨ (b = 0 ∧ E = 0 ∧ a = w)
theorem c49 {a E b w : Int} (q : NumA a E b w) (hw : Wf h) : Cf (mz G) (.func (.func 49) #[] #[]) [.int .i64 a, .int .i64 E, .int .i64 b, .int .i64 w] h fun r h' => r = .bool true ∧ Grow h h' := by
  rcases q with ⟨q1, q2, q3⟩ | ⟨q1, q2, q3⟩
  · subst q2 q3
    refine cf_enter0 29 [.tmp 8] Tryz.func49 rfl rfl rfl rfl ?_
    repeat' (first | with_reducible refine wo_nil ?_ | ((with_reducible refine wo_any ?_); first | ((with_reducible refine ik_move ?_); refine wo_op rfl (op_move rfl) rfl rfl ?_) | ((with_reducible refine ik_assign ?_); refine wo_op rfl (op_assign rfl) rfl rfl ?_) | ((with_reducible refine ik_bin ?_); refine wo_op rfl (op_eql rfl rfl) rfl rfl ?_) | ((with_reducible refine ik_pick ?_); refine wo_op rfl (op_pickt rfl rfl) rfl rfl ?_) | ((with_reducible refine ik_g ?_); first | refine wo_gskip rfl rfl rfl rfl rfl rfl ?_ | refine wo_gskip' rfl rfl rfl rfl rfl ?_ | ((with_reducible refine ig_move ?_); refine wo_grun rfl rfl rfl (op_move rfl) rfl rfl ?_) | ((with_reducible refine ig_bin ?_); first | refine wo_grun rfl rfl rfl (op_eql rfl rfl) rfl rfl ?_ | refine wo_grun rfl rfl rfl (op_neq rfl rfl) rfl rfl ?_) | ((with_reducible refine ig_pick ?_); refine wo_grun rfl rfl rfl (op_pickt rfl rfl) rfl rfl ?_) | (refine wo_gsplit rfl rfl rfl (fun hb => ?_) (fun hb => ?_) <;> (try simp only [decide_eq_true_eq, decide_eq_false_iff_not, Bool.not_eq_true', Bool.not_eq_false', Int.not_lt, Int.not_le, Decidable.not_not, not_true_eq_false, not_false_eq_true, beq_self_eq_true, reduceCtorEq] at hb) <;> (try (exfalso; omega))))) | with_reducible refine sq_norm ?_ | with_reducible refine wc_seq ?_ | with_reducible refine wc_region ?_ | with_reducible refine wc_ret ?_)
    all_goals first | exact rq1 rfl ⟨by first | rfl | simp, gr_A⟩ | (exfalso; omega) | (exfalso; simp_all; done)
  · subst q1 q2 q3
    refine cf_enter0 29 [.tmp 8] Tryz.func49 rfl rfl rfl rfl ?_
    repeat' (first | with_reducible refine wo_nil ?_ | ((with_reducible refine wo_any ?_); first | ((with_reducible refine ik_move ?_); refine wo_op rfl (op_move rfl) rfl rfl ?_) | ((with_reducible refine ik_assign ?_); refine wo_op rfl (op_assign rfl) rfl rfl ?_) | ((with_reducible refine ik_bin ?_); refine wo_op rfl (op_eql rfl rfl) rfl rfl ?_) | ((with_reducible refine ik_pick ?_); refine wo_op rfl (op_pickt rfl rfl) rfl rfl ?_) | ((with_reducible refine ik_g ?_); first | refine wo_gskip rfl rfl rfl rfl rfl rfl ?_ | ((with_reducible refine ig_move ?_); refine wo_grun rfl rfl rfl (op_move rfl) rfl rfl ?_) | ((with_reducible refine ig_bin ?_); first | refine wo_grun rfl rfl rfl (op_eql rfl rfl) rfl rfl ?_ | refine wo_grun rfl rfl rfl (op_neq rfl rfl) rfl rfl ?_) | ((with_reducible refine ig_pick ?_); first | refine wo_grun rfl rfl rfl (op_pickt rfl rfl) rfl rfl ?_ | refine wo_grun rfl rfl rfl (op_pickf rfl rfl) rfl rfl ?_))) | with_reducible refine sq_norm ?_ | with_reducible refine wc_seq ?_ | with_reducible refine wc_region ?_ | with_reducible refine wc_ret ?_)
    all_goals first | exact rq1 rfl ⟨by first | rfl | simp, gr_A⟩ | (exfalso; omega) | (exfalso; simp_all; done)
def RatA (a b E bad x y : Int) : Prop := (bad ≠ 0 ∧ E = bad ∧ a = 0 ∧ b = 0) ∨ (bad = 0 ∧ E = 0 ∧ a = x ∧ b = y)
theorem c50 {a b E bad x y : Int} (q : RatA a b E bad x y) (hw : Wf h) : Cf (mz G) (.func (.func 50) #[] #[]) [ratV a b, .int .i64 E, .int .i64 bad, ratV x y] h fun r h' => r = .bool true ∧ Grow h h' := by
  rcases q with ⟨q1, q2, q3, q4⟩ | ⟨q1, q2, q3, q4⟩
  · subst q2 q3 q4
    refine cf_enter0 30 [.tmp 8] Tryz.func50 rfl rfl rfl rfl ?_
    repeat' (first | with_reducible refine wo_nil ?_ | ((with_reducible refine wo_any ?_); first | ((with_reducible refine ik_move ?_); refine wo_op rfl (op_move rfl) rfl rfl ?_) | ((with_reducible refine ik_assign ?_); refine wo_op rfl (op_assign rfl) rfl rfl ?_) | ((with_reducible refine ik_bin ?_); refine wo_op rfl (op_eql rfl rfl) rfl rfl ?_) | ((with_reducible refine ik_box ?_); refine wo_op rfl (op_boxAgg rfl zs65 rfl) rfl rfl ?_) | ((with_reducible refine ik_pick ?_); refine wo_op rfl (op_pickt rfl rfl) rfl rfl ?_) | ((with_reducible refine ik_g ?_); first | refine wo_gskip rfl rfl rfl rfl rfl rfl ?_ | refine wo_gskip' rfl rfl rfl rfl rfl ?_ | ((with_reducible refine ig_move ?_); refine wo_grun rfl rfl rfl (op_move rfl) rfl rfl ?_) | ((with_reducible refine ig_load ?_); refine wo_grun rfl rfl rfl (op_ldAgg rfl at_A Tryz.underlying65 rfl zs65 rfl rfl) rfl rfl ?_) | ((with_reducible refine ig_bin ?_); first | refine wo_grun rfl rfl rfl (op_eqT 3 rfl rfl rfl Tryz.underlying65 rfl eg65 (eq65 _ _)) rfl rfl ?_ | refine wo_grun rfl rfl rfl (op_neq rfl rfl) rfl rfl ?_) | ((with_reducible refine ig_build ?_); refine wo_grun rfl rfl rfl (op_buildT rfl zz65 zp65 rfl rfl) rfl rfl ?_) | ((with_reducible refine ig_pick ?_); refine wo_grun rfl rfl rfl (op_pickt rfl rfl) rfl rfl ?_) | (refine wo_gsplit rfl rfl rfl (fun hb => ?_) (fun hb => ?_) <;> (try simp only [decide_eq_true_eq, decide_eq_false_iff_not, Bool.not_eq_true', Bool.not_eq_false', Int.not_lt, Int.not_le, Decidable.not_not, not_true_eq_false, not_false_eq_true, beq_self_eq_true, reduceCtorEq] at hb) <;> (try (exfalso; omega))))) | with_reducible refine sq_norm ?_ | with_reducible refine wc_seq ?_ | with_reducible refine wc_region ?_ | with_reducible refine wc_ret ?_)
    all_goals first | exact rq1 rfl ⟨by first | rfl | simp, gr_A⟩ | (exfalso; omega) | (exfalso; simp_all; done)
  · subst q1 q2 q3 q4
    refine cf_enter0 30 [.tmp 8] Tryz.func50 rfl rfl rfl rfl ?_
    repeat' (first | with_reducible refine wo_nil ?_ | ((with_reducible refine wo_any ?_); first | ((with_reducible refine ik_move ?_); refine wo_op rfl (op_move rfl) rfl rfl ?_) | ((with_reducible refine ik_assign ?_); refine wo_op rfl (op_assign rfl) rfl rfl ?_) | ((with_reducible refine ik_bin ?_); refine wo_op rfl (op_eql rfl rfl) rfl rfl ?_) | ((with_reducible refine ik_box ?_); refine wo_op rfl (op_boxAgg rfl zs65 rfl) rfl rfl ?_) | ((with_reducible refine ik_pick ?_); refine wo_op rfl (op_pickt rfl rfl) rfl rfl ?_) | ((with_reducible refine ik_g ?_); first | refine wo_gskip rfl rfl rfl rfl rfl rfl ?_ | ((with_reducible refine ig_move ?_); refine wo_grun rfl rfl rfl (op_move rfl) rfl rfl ?_) | ((with_reducible refine ig_load ?_); refine wo_grun rfl rfl rfl (op_ldAgg rfl at_A Tryz.underlying65 rfl zs65 rfl rfl) rfl rfl ?_) | ((with_reducible refine ig_bin ?_); first | refine wo_grun rfl rfl rfl (op_eqT 3 rfl rfl rfl Tryz.underlying65 rfl eg65 (eq65 _ _)) rfl rfl ?_ | refine wo_grun rfl rfl rfl (op_eql rfl rfl) rfl rfl ?_ | refine wo_grun rfl rfl rfl (op_neq rfl rfl) rfl rfl ?_) | ((with_reducible refine ig_pick ?_); first | refine wo_grun rfl rfl rfl (op_pickt rfl rfl) rfl rfl ?_ | refine wo_grun rfl rfl rfl (op_pickf rfl rfl) rfl rfl ?_))) | with_reducible refine sq_norm ?_ | with_reducible refine wc_seq ?_ | with_reducible refine wc_region ?_ | with_reducible refine wc_ret ?_)
    all_goals first | exact rq1 rfl ⟨by first | rfl | simp, gr_A⟩ | (exfalso; omega) | (exfalso; simp_all; done)
/-- What the functions answer, each as a list, numbers and an error. -/
def SubS (G : Base) (h : H) (i : Option Addr × Nat × Nat) (n : Nat) (E p q : Int) (x y : List Int) : Prop :=
  (E ≠ 0 ∧ i.2.1 = 0 ∧ p = 0 ∧ q = 0) ∨ (E = 0 ∧ anyLarge (subL x y) = false ∧ i.2.1 = n ∧ p = lowN (innL x y) (innL y y) ∧ q = lowD (innL x y) (innL y y) ∧ Sl G h 1 (.slice i.1 i.2.1 i.2.2) n (((subL x y).map smpW).map (.float .f32)))
theorem SubS.grow {h h' : H} {i : Option Addr × Nat × Nat} {n : Nat} {E p q : Int} {x y : List Int} (m : SubS G h i n E p q x y) (g : Grow h h') : SubS G h' i n E p q x y := by
  rcases m with m | ⟨m1, m2, m3, m4, m5, m6⟩
  · exact .inl m
  · exact .inr ⟨m1, m2, m3, m4, m5, m6.grow g⟩
def RemS (E p q : Int) (x y : List Int) : Prop :=
  (E ≠ 0 ∧ p = 0 ∧ q = 0) ∨ (E = 0 ∧ p = lowN (innL (difL x y) (difL x y)) (innL x x) ∧ q = lowD (innL (difL x y) (difL x y)) (innL x x))
def RSubS (G : Base) (h : H) (i : Option Addr × Nat × Nat) (two p q : Int) (n : Nat) (x y : List Int) : Prop :=
  (innL y y = 0 ∧ two = 17 ∧ p = 0 ∧ q = 0) ∨ (innL y y ≠ 0 ∧ two = 0 ∧ p = lowN (innL x y) (innL y y) ∧ q = lowD (innL x y) (innL y y) ∧ Sl G h 1 (.slice i.1 i.2.1 i.2.2) n ((subL x y).map (.int .i64)))
theorem RSubS.grow {h h' : H} {i : Option Addr × Nat × Nat} {n : Nat} {E p q : Int} {x y : List Int} (m : RSubS G h i E p q n x y) (g : Grow h h') : RSubS G h' i E p q n x y := by
  rcases m with m | ⟨m1, m2, m3, m4, m5⟩
  · exact .inl m
  · exact .inr ⟨m1, m2, m3, m4, m5.grow g⟩
theorem RSubS.set {i : Option Addr × Nat × Nat} {n B : Nat} {E p q : Int} {x y : List Int} {c : List Value} (m : RSubS G h i E p q n x y) (hat : At h B (.cells c 65 2 false)) (o : AObj) : RSubS G (h.set B o) i E p q n x y := by
  rcases m with m | ⟨m1, m2, m3, m4, m5⟩
  · exact .inl m
  · exact .inr ⟨m1, m2, m3, m4, Sl.set_ne m5 hat (by decide) o⟩
def RRemS (E p q : Int) (x y : List Int) : Prop :=
  (innL x x = 0 ∧ E = 6 ∧ p = 0 ∧ q = 0) ∨ (innL x x ≠ 0 ∧ E = 0 ∧ p = lowN (innL (difL x y) (difL x y)) (innL x x) ∧ q = lowD (innL (difL x y) (difL x y)) (innL x x))
theorem c42s {v w : Value} {n m : Nat} {l k : List Nat} (s : Sl G h 1 v n (l.map (.float .f32))) (u : Sl G h 1 w m (k.map (.float .f32))) (hn : n < 1000000) (hm : m < 1000000) (hw : Wf h) (hG : ∀ a v, laidBase a = some v → G a = some v) :
    Cf (mz G) (.func (.func 42) #[] #[]) [v, w] h fun r h' => (∃ (i : Option Addr × Nat × Nat) (p q : Int), r = .tuple #[.slice i.1 i.2.1 i.2.2, ratV p q, .int .i64 (subE (pairE l k) (l.map smp) (k.map smp))] ∧ SubS G h' i n (subE (pairE l k) (l.map smp) (k.map smp)) p q (l.map smp) (k.map smp)) ∧ Grow h h' :=
  (c42 s u hn hm hw hG).mono fun r h' ⟨q, g⟩ => by
    refine ⟨?_, g⟩
    rcases q with ⟨q1, q2⟩ | ⟨q1, q2, a, c, q3, q4⟩
    · exact ⟨(none, 0, 0), 0, 0, q2, .inl ⟨q1, rfl, rfl, rfl⟩⟩
    · exact ⟨(a, n, c), _, _, by rw [q1]; exact q3, .inr ⟨q1, q2, rfl, rfl, rfl, q4⟩⟩
theorem c43s {v w : Value} {n m : Nat} {l k : List Nat} (s : Sl G h 1 v n (l.map (.float .f32))) (u : Sl G h 1 w m (k.map (.float .f32))) (hn : n < 1000000) (hm : m < 1000000) (hw : Wf h) (hG : ∀ a v, laidBase a = some v → G a = some v) :
    Cf (mz G) (.func (.func 43) #[] #[]) [v, w] h fun r h' => (∃ (p q : Int), r = .tuple #[ratV p q, .int .i64 (remE (pairE l k) (l.map smp))] ∧ RemS (remE (pairE l k) (l.map smp)) p q (l.map smp) (k.map smp)) ∧ Grow h h' :=
  (c43 s u hn hm hw hG).mono fun r h' ⟨q, g⟩ => by
    refine ⟨?_, g⟩
    rcases q with ⟨q1, q2⟩ | ⟨q1, q2⟩
    · exact ⟨0, 0, q2, .inl ⟨q1, rfl, rfl⟩⟩
    · exact ⟨_, _, by rw [q1]; exact q2, .inr ⟨q1, rfl, rfl⟩⟩
theorem c46s {v w : Value} {n : Nat} {x y : List Int} (s : Sl G h 1 v n (x.map (.int .i64))) (u : Sl G h 1 w n (y.map (.int .i64))) (hn : n ≤ 1024) (sb1 : ∀ z ∈ x, z.natAbs ≤ 16384) (sb2 : ∀ z ∈ y, z.natAbs ≤ 16384) (hw : Wf h) :
    Cf (mz G) (.func (.func 46) #[] #[]) [v, w] h fun r h' => (∃ (i : Option Addr × Nat × Nat) (two p q : Int), r = .tuple #[.slice i.1 i.2.1 i.2.2, ratV p q, .int .i64 two] ∧ RSubS G h' i two p q n x y) ∧ Grow h h' :=
  (c46 s u hn sb1 sb2 hw).mono fun r h' ⟨q, g⟩ => by
    refine ⟨?_, g⟩
    rcases q with ⟨q1, q2⟩ | ⟨q1, a, c, q2, q3⟩
    · exact ⟨(none, 0, 0), 17, 0, 0, q2, .inl ⟨q1, rfl, rfl, rfl⟩⟩
    · exact ⟨(a, n, c), 0, _, _, q2, .inr ⟨q1, rfl, rfl, rfl, q3⟩⟩
theorem c47s {v w : Value} {n : Nat} {x y : List Int} (s : Sl G h 1 v n (x.map (.int .i64))) (u : Sl G h 1 w n (y.map (.int .i64))) (hn : n ≤ 1024) (sb1 : ∀ z ∈ x, z.natAbs ≤ 16384) (sb2 : ∀ z ∈ y, z.natAbs ≤ 16384) (hw : Wf h) :
    Cf (mz G) (.func (.func 47) #[] #[]) [v, w] h fun r h' => (∃ (two p q : Int), r = .tuple #[ratV p q, .int .i64 two] ∧ RRemS two p q x y) ∧ Grow h h' :=
  (c47 s u hn sb1 sb2 hw).mono fun r h' ⟨q, g⟩ => by
    refine ⟨?_, g⟩
    rcases q with ⟨q1, q2⟩ | ⟨q1, q2⟩
    · exact ⟨6, 0, 0, q2, .inl ⟨q1, rfl, rfl, rfl⟩⟩
    · exact ⟨0, _, _, q2, .inr ⟨q1, rfl, rfl, rfl⟩⟩
theorem firstNZ_three (a b c : Int) : firstNZ [a, b, c] = if firstNZ [a, b] ≠ 0 then firstNZ [a, b] else c := by
  simp only [firstNZ]
  by_cases ha : a = 0
  · by_cases q : b = 0
    · simp [ha, q]; try exact fun r => r.symm
    · simp [ha, q]
  · simp [ha]
theorem pair_three {l k : List Nat} : firstNZ [lchk l, lchk k, if l.length ≠ k.length then 2 else 0] = pairE l k := by
  unfold pairE
  rw [firstNZ_three]
set_option maxHeartbeats 4000000 in
theorem c6n {a b : Option Addr} {n c m d : Nat} (hS : ¬((n ≤ 32 ∨ n = 1025) ∧ (m ≤ 32 ∨ m = 1025))) (hw : Wf h) : Cf (mz G) (.func (.func 6) #[] #[]) [.slice a n c, .slice b m d] h fun r h' => r = .bool true ∧ Grow h h' := by
  by_cases h1 : n ≤ 32 ∨ n = 1025
  · have h2 : ¬(m ≤ 32 ∨ m = 1025) := fun q => hS ⟨h1, q⟩
    have q20 := fun (h' : H) => c20 (G := G) (h := h') (a := a) (n := n) (c := c)
    have r20 := fun (h' : H) => c20 (G := G) (h := h') (a := b) (n := m) (c := d)
    rw [decide_eq_true h1] at q20
    rw [decide_eq_false h2] at r20
    refine cf_enter0 131 [.tmp 4] Tryz.func6 rfl rfl rfl rfl ?_
    repeat' (first | with_reducible refine wo_nil ?_ | ((with_reducible refine wo_any ?_); first | ((with_reducible refine ik_move ?_); refine wo_op rfl (op_move rfl) rfl rfl ?_) | ((with_reducible refine ik_assign ?_); refine wo_op rfl (op_assign rfl) rfl rfl ?_) | ((with_reducible refine ik_un ?_); refine wo_op rfl (op_not rfl) rfl rfl ?_) | ((with_reducible refine ik_pick ?_); refine wo_op rfl (op_pickf rfl rfl) rfl rfl ?_) | ((with_reducible refine ik_callF (f := 10) ?_); refine wo_op rfl (op_call rfl rfl (c10)) rfl rfl ?_) | ((with_reducible refine ik_g ?_); first | ((with_reducible refine ig_move ?_); refine wo_grun rfl rfl rfl (op_move rfl) rfl rfl ?_) | ((with_reducible refine ig_un ?_); refine wo_grun rfl rfl rfl (op_not rfl) rfl rfl ?_) | ((with_reducible refine ig_callv ?_); first | refine wo_grun rfl rfl rfl (op_call rfl rfl (q20 _)) rfl rfl ?_ | refine wo_grun rfl rfl rfl (op_call rfl rfl (r20 _)) rfl rfl ?_))) | with_reducible refine sq_norm ?_ | with_reducible refine wc_seq ?_ | with_reducible refine wc_region ?_ | with_reducible refine wc_ret ?_ | with_reducible refine sq_ret ?_ | refine wc_ift rfl ?_)
    all_goals exact rq1 rfl ⟨rfl, gr_A⟩
  · have q20 := fun (h' : H) => c20 (G := G) (h := h') (a := a) (n := n) (c := c)
    rw [decide_eq_false h1] at q20
    refine cf_enter0 131 [.tmp 4] Tryz.func6 rfl rfl rfl rfl ?_
    repeat' (first | with_reducible refine wo_nil ?_ | ((with_reducible refine wo_any ?_); first | ((with_reducible refine ik_move ?_); refine wo_op rfl (op_move rfl) rfl rfl ?_) | ((with_reducible refine ik_assign ?_); refine wo_op rfl (op_assign rfl) rfl rfl ?_) | ((with_reducible refine ik_un ?_); refine wo_op rfl (op_not rfl) rfl rfl ?_) | ((with_reducible refine ik_pick ?_); first | refine wo_op rfl (op_pickt rfl rfl) rfl rfl ?_ | refine wo_op rfl (op_pickf rfl rfl) rfl rfl ?_) | ((with_reducible refine ik_callF (f := 10) ?_); refine wo_op rfl (op_call rfl rfl (c10)) rfl rfl ?_) | ((with_reducible refine ik_g ?_); first | refine wo_gskip rfl rfl rfl rfl rfl rfl ?_ | ((with_reducible refine ig_move ?_); refine wo_grun rfl rfl rfl (op_move rfl) rfl rfl ?_) | ((with_reducible refine ig_un ?_); refine wo_grun rfl rfl rfl (op_not rfl) rfl rfl ?_) | ((with_reducible refine ig_callv ?_); refine wo_grun rfl rfl rfl (op_call rfl rfl (q20 _)) rfl rfl ?_))) | with_reducible refine sq_norm ?_ | with_reducible refine wc_seq ?_ | with_reducible refine wc_region ?_ | with_reducible refine wc_ret ?_ | with_reducible refine sq_ret ?_ | refine wc_ift rfl ?_)
    all_goals exact rq1 rfl ⟨rfl, gr_A⟩
set_option maxHeartbeats 8000000 in
theorem c6m {a b : Option Addr} {n c m d : Nat} {l k : List Nat} (s : Sl G h 1 (.slice a n c) n (l.map (.float .f32))) (u : Sl G h 1 (.slice b m d) m (k.map (.float .f32))) (h1 : n ≤ 32 ∨ n = 1025) (h2 : m ≤ 32 ∨ m = 1025) (hw : Wf h) (hG : ∀ a v, laidBase a = some v → G a = some v) : Cf (mz G) (.func (.func 6) #[] #[]) [.slice a n c, .slice b m d] h fun r h' => r = .bool true ∧ Grow h h' := by
  have hl := s.length
  have hk := u.length
  simp at hl hk
  have hn6 : n < 1000000 := by omega
  have hm6 : m < 1000000 := by omega
  have q20 := fun (h' : H) => c20 (G := G) (h := h') (a := a) (n := n) (c := c)
  have r20 := fun (h' : H) => c20 (G := G) (h := h') (a := b) (n := m) (c := d)
  rw [decide_eq_true h1] at q20
  rw [decide_eq_true h2] at r20
  have q24 := fun (h' : H) (g : Grow h h') => c24 (s.grow g) hn6
  have r24 := fun (h' : H) (g : Grow h h') => c24 (u.grow g) hm6
  have q44 := fun (h' : H) (z : Bool) => c44 (G := G) (h := h') z 2
  have q23 := fun (h' : H) (v : Value) (w : Sl G h' 1 v 3 ([lchk l, lchk k, if l.length ≠ k.length then 2 else 0].map (.int .i64))) => c23 w (by omega)
  rw [pair_three] at q23
  have q18 := fun (h' : H) (v w : Value) (s' : Sl G h' 1 v n (l.map (.float .f32))) (u' : Sl G h' 1 w m (k.map (.float .f32))) (w' : Wf h') => c18 (G := G) (h := h') s' u' hn6 hm6 w' hG
  have q42 := fun (h' : H) (v w : Value) (s' : Sl G h' 1 v n (l.map (.float .f32))) (u' : Sl G h' 1 w m (k.map (.float .f32))) (w' : Wf h') => c42s (G := G) (h := h') s' u' hn6 hm6 w' hG
  have q43 := fun (h' : H) (v w : Value) (s' : Sl G h' 1 v n (l.map (.float .f32))) (u' : Sl G h' 1 w m (k.map (.float .f32))) (w' : Wf h') => c43s (G := G) (h := h') s' u' hn6 hm6 w' hG
  obtain ⟨X, hX⟩ : ∃ L, l.map smp = L := ⟨_, rfl⟩
  obtain ⟨Y, hY⟩ : ∃ L, k.map smp = L := ⟨_, rfl⟩
  obtain ⟨E, hE⟩ : ∃ e, pairE l k = e := ⟨_, rfl⟩
  rw [hX, hY, hE] at q18 q42
  rw [hX, hY, hE] at q43
  rw [hE] at q23
  obtain ⟨E2, hE2⟩ : ∃ e, subE E X Y = e := ⟨_, rfl⟩
  obtain ⟨E3, hE3⟩ : ∃ e, remE E X = e := ⟨_, rfl⟩
  obtain ⟨I, hI⟩ : ∃ e, (if E ≠ 0 then 0 else innL X Y) = e := ⟨_, rfl⟩
  rw [hI] at q18
  rw [hE2] at q42
  rw [hE3] at q43
  have e44 : (if decide (((n : Nat) : Int) ≠ ((m : Nat) : Int)) = true then (2 : Int) else 0) = if l.length ≠ k.length then 2 else 0 := by
    rw [hl, hk]
    by_cases q : n = m
    · subst q; simp
    · rw [if_pos (by simpa using (by omega : (n : Int) ≠ m)), if_pos q]
  refine cf_enter0 131 [.tmp 4] Tryz.func6 rfl rfl rfl rfl ?_
  refine wc_mid (ι := Unit) (fun _ => [(0, .slice a n c), (1, .slice b m d)]) (fun _ h' => (Wf h' ∧ Grow h h')) ?_ ?_
  · repeat' (first | with_reducible refine wo_nil ?_ | ((with_reducible refine wo_any ?_); ((with_reducible refine ik_assign ?_); refine wo_op rfl (op_assign rfl) rfl rfl ?_)) | with_reducible refine wc_region ?_)
    exact ⟨rfl, (), within_lk ⟨rfl, rfl, trivial⟩, wf_A, gr_A⟩
  rintro _ ha ⟨wa, ga⟩
  refine wc_mid (ι := Unit) (fun _ => [(0, .slice a n c), (1, .slice b m d)]) (fun _ h' => (Wf h' ∧ Grow h h')) ?_ ?_
  · repeat' (first | with_reducible refine wo_nil ?_ | ((with_reducible refine wo_any ?_); first | ((with_reducible refine ik_move ?_); refine wo_op rfl (op_move rfl) rfl rfl ?_) | ((with_reducible refine ik_un ?_); refine wo_op rfl (op_not rfl) rfl rfl ?_) | ((with_reducible refine ik_pick ?_); refine wo_op rfl (op_pickf rfl rfl) rfl rfl ?_) | ((with_reducible refine ik_callF (f := 10) ?_); refine wo_op rfl (op_call rfl rfl (c10)) rfl rfl ?_) | ((with_reducible refine ik_g ?_); first | ((with_reducible refine ig_move ?_); refine wo_grun rfl rfl rfl (op_move rfl) rfl rfl ?_) | ((with_reducible refine ig_un ?_); refine wo_grun rfl rfl rfl (op_not rfl) rfl rfl ?_) | ((with_reducible refine ig_callv ?_); first | refine wo_grun rfl rfl rfl (op_call rfl rfl (q20 _)) rfl rfl ?_ | refine wo_grun rfl rfl rfl (op_call rfl rfl (r20 _)) rfl rfl ?_))) | with_reducible refine sq_norm ?_ | with_reducible refine wc_seq ?_ | with_reducible refine wc_region ?_ | with_reducible refine wc_skip ?_ | refine wc_iff rfl ?_)
    exact ⟨rfl, (), within_lk ⟨rfl, rfl, trivial⟩, wf_A, gr_A⟩
  clear wa ga ha
  rintro _ ha ⟨wa, ga⟩
  have la := ga.nx
  refine wc_mid (ι := Unit) (fun _ => [(0, .slice a n c), (1, .slice b m d), (5, .int .i64 I), (6, .int .i64 E)]) (fun _ h' => (Wf h' ∧ Grow h h')) ?_ ?_
  · repeat' (first | with_reducible refine wo_nil ?_ | ((with_reducible refine wo_any ?_); first | ((with_reducible refine ik_move ?_); refine wo_op rfl (op_move rfl) rfl rfl ?_) | ((with_reducible refine ik_assign ?_); refine wo_op rfl (op_assign rfl) rfl rfl ?_) | ((with_reducible refine ik_extract ?_); refine wo_op rfl (op_extract rfl rfl) rfl rfl ?_) | ((with_reducible refine ik_callF (f := 16) ?_); first | (refine wo_call rfl rfl rfl rfl (c16 (s.grow gr_A) hn6) rfl rfl ?_; rintro _ _ ⟨sf, hq, hwf⟩; all_goals ((try (have hqn := hq.nx)); (try simp only [H.nx_push, H.nx_set, H.nx_bump] at hqn))) | (refine wo_call rfl rfl rfl rfl (c16 (u.grow gr_A) hm6) rfl rfl ?_; rintro _ _ ⟨sg, hq, hwg⟩; all_goals ((try (have hqn := hq.nx)); (try simp only [H.nx_push, H.nx_set, H.nx_bump] at hqn)))) | ((with_reducible refine ik_callv ?_); (refine wo_call rfl rfl rfl rfl (q18 _ _ _ (sf.grow gr_A) (sg.grow gr_A) wf_A) rfl rfl ?_; rintro _ _ ⟨rfl, hq⟩; all_goals ((try (have hqn := hq.nx)); (try simp only [H.nx_push, H.nx_set, H.nx_bump] at hqn))))) | with_reducible refine wc_region ?_)
    exact ⟨rfl, (), within_lk ⟨rfl, rfl, rfl, rfl, trivial⟩, wf_A, gr_A⟩
  clear wa ga ha la q18
  rintro _ ha ⟨wa, ga⟩
  have la := ga.nx
  refine wc_mid (ι := ((Option Addr × Nat × Nat) × Nat) × (Int × Int)) (fun i => [(0, .slice a n c), (1, .slice b m d), (5, .int .i64 I), (6, .int .i64 E), (7, .slice i.1.1.1 i.1.1.2.1 i.1.1.2.2), (8, .pointer (some ⟨i.1.2, 0, some 0⟩)), (9, .int .i64 E2)]) (fun i h' => (Wf h' ∧ Grow h h') ∧ SubS G h' i.1.1 n E2 i.2.1 i.2.2 X Y ∧ At h' i.1.2 (.cells [.int .i64 i.2.1, .int .i64 i.2.2] 65 2 false)) ?_ ?_
  · repeat' (first | with_reducible refine wo_nil ?_ | ((with_reducible refine wo_any ?_); first | ((with_reducible refine ik_move ?_); refine wo_op rfl (op_move rfl) rfl rfl ?_) | ((with_reducible refine ik_assign ?_); refine wo_op rfl (op_assign rfl) rfl rfl ?_) | ((with_reducible refine ik_extract ?_); refine wo_op rfl (op_extract rfl rfl) rfl rfl ?_) | ((with_reducible refine ik_alloc ?_); refine wo_op rfl (op_alloc zz65 zs65 rfl rfl rfl) rfl rfl ?_) | ((with_reducible refine ik_store ?_); refine wo_op0 rfl (op_stAgg rfl rfl at_A zs65 rfl rfl rfl rfl) rfl ?_) | ((with_reducible refine ik_callF (f := 16) ?_); first | (refine wo_call rfl rfl rfl rfl (c16 (s.grow gr_A) hn6) rfl rfl ?_; rintro _ _ ⟨sf, hq, hwf⟩; all_goals ((try (have hqn := hq.nx)); (try simp only [H.nx_push, H.nx_set, H.nx_bump] at hqn))) | (refine wo_call rfl rfl rfl rfl (c16 (u.grow gr_A) hm6) rfl rfl ?_; rintro _ _ ⟨sg, hq, hwg⟩; all_goals ((try (have hqn := hq.nx)); (try simp only [H.nx_push, H.nx_set, H.nx_bump] at hqn)))) | ((with_reducible refine ik_callv ?_); (refine wo_call rfl rfl rfl rfl (q42 _ _ _ (sf.grow gr_A) (sg.grow gr_A) wf_A) rfl rfl ?_; rintro _ _ ⟨⟨i1, p, q, rfl, m1⟩, hq⟩; all_goals ((try (have hqn := hq.nx)); (try simp only [H.nx_push, H.nx_set, H.nx_bump] at hqn))))) | with_reducible refine wc_region ?_)
    exact ⟨rfl, ((i1, _), (p, q)), within_lk ⟨rfl, rfl, rfl, rfl, rfl, rfl, rfl, trivial⟩, ⟨wf_A, gr_A⟩, m1.grow gr_A, at_A⟩
  clear wa ga ha la q42
  rintro ⟨⟨i1, B8⟩, ⟨p, q⟩⟩ ha ⟨⟨wa, ga⟩, m1, a8⟩
  simp only at m1 a8 ⊢
  have la := ga.nx
  have l8 := a8.lt
  refine wc_mid (ι := Nat × (Int × Int)) (fun i => [(0, .slice a n c), (1, .slice b m d), (5, .int .i64 I), (6, .int .i64 E), (7, .slice i1.1 i1.2.1 i1.2.2), (8, .pointer (some ⟨B8, 0, some 0⟩)), (9, .int .i64 E2), (10, .pointer (some ⟨i.1, 0, some 0⟩)), (11, .int .i64 E3)]) (fun i h' => (Wf h' ∧ Grow h h') ∧ SubS G h' i1 n E2 p q X Y ∧ At h' B8 (.cells [.int .i64 p, .int .i64 q] 65 2 false) ∧ RemS E3 i.2.1 i.2.2 X Y ∧ At h' i.1 (.cells [.int .i64 i.2.1, .int .i64 i.2.2] 65 2 false)) ?_ ?_
  · repeat' (first | with_reducible refine wo_nil ?_ | ((with_reducible refine wo_any ?_); first | ((with_reducible refine ik_move ?_); refine wo_op rfl (op_move rfl) rfl rfl ?_) | ((with_reducible refine ik_assign ?_); refine wo_op rfl (op_assign rfl) rfl rfl ?_) | ((with_reducible refine ik_extract ?_); refine wo_op rfl (op_extract rfl rfl) rfl rfl ?_) | ((with_reducible refine ik_alloc ?_); refine wo_op rfl (op_alloc zz65 zs65 rfl rfl rfl) rfl rfl ?_) | ((with_reducible refine ik_store ?_); refine wo_op0 rfl (op_stAgg rfl rfl at_A zs65 rfl rfl rfl rfl) rfl ?_) | ((with_reducible refine ik_callF (f := 16) ?_); first | (refine wo_call rfl rfl rfl rfl (c16 (s.grow gr_A) hn6) rfl rfl ?_; rintro _ _ ⟨sf, hq, hwf⟩; all_goals ((try (have hqn := hq.nx)); (try simp only [H.nx_push, H.nx_set, H.nx_bump] at hqn))) | (refine wo_call rfl rfl rfl rfl (c16 (u.grow gr_A) hm6) rfl rfl ?_; rintro _ _ ⟨sg, hq, hwg⟩; all_goals ((try (have hqn := hq.nx)); (try simp only [H.nx_push, H.nx_set, H.nx_bump] at hqn)))) | ((with_reducible refine ik_callv ?_); (refine wo_call rfl rfl rfl rfl (q43 _ _ _ (sf.grow gr_A) (sg.grow gr_A) wf_A) rfl rfl ?_; rintro _ _ ⟨⟨p3, q3, rfl, m3⟩, hq⟩; all_goals ((try (have hqn := hq.nx)); (try simp only [H.nx_push, H.nx_set, H.nx_bump] at hqn))))) | with_reducible refine wc_region ?_)
    exact ⟨rfl, (_, (p3, q3)), within_lk ⟨rfl, rfl, rfl, rfl, rfl, rfl, rfl, rfl, rfl, trivial⟩, ⟨wf_A, gr_A⟩, m1.grow gr_A, at_A, m3, at_A⟩
  clear wa ga ha la q43 m1 a8 l8
  rintro ⟨B10, ⟨p3, q3⟩⟩ ha ⟨⟨wa, ga⟩, m1, a8, m3, a10⟩
  simp only at m3 a10 ⊢
  have la := ga.nx
  have l8 := a8.lt
  have l10 := a10.lt
  refine wc_mid (ι := Unit) (fun _ => [(0, .slice a n c), (1, .slice b m d), (5, .int .i64 I), (6, .int .i64 E), (7, .slice i1.1 i1.2.1 i1.2.2), (8, .pointer (some ⟨B8, 0, some 0⟩)), (9, .int .i64 E2), (10, .pointer (some ⟨B10, 0, some 0⟩)), (11, .int .i64 E3), (12, .int .i64 E)]) (fun _ h' => (Wf h' ∧ Grow h h') ∧ SubS G h' i1 n E2 p q X Y ∧ At h' B8 (.cells [.int .i64 p, .int .i64 q] 65 2 false) ∧ At h' B10 (.cells [.int .i64 p3, .int .i64 q3] 65 2 false)) ?_ ?_
  · repeat' (first | with_reducible refine wo_nil ?_ | ((with_reducible refine wo_any ?_); first | ((with_reducible refine ik_move ?_); refine wo_op rfl (op_move rfl) rfl rfl ?_) | ((with_reducible refine ik_assign ?_); refine wo_op rfl (op_assign rfl) rfl rfl ?_) | ((with_reducible refine ik_callb ?_); refine wo_op rfl (op_lenSl rfl Tryz.underlying23) rfl rfl ?_) | ((with_reducible refine ik_bin ?_); refine wo_op rfl (op_neq rfl rfl) rfl rfl ?_) | ((with_reducible refine ik_buildSlice ?_); refine wo_op rfl (op_buildSl rfl Tryz.underlying22 zs3 zz3 rfl rfl) rfl rfl ?_) | ((with_reducible refine ik_callv ?_); first | refine wo_op rfl (op_call rfl rfl (q24 _ gr_A)) rfl rfl ?_ | refine wo_op rfl (op_call rfl rfl (r24 _ gr_A)) rfl rfl ?_ | refine wo_op rfl (op_call rfl rfl (q44 _ _)) rfl rfl ?_ | refine wo_op rfl (op_call rfl rfl (q23 _ _ (by rw [← e44]; exact Sl.ofAt (at_A) rfl (Nat.le_refl _)))) rfl rfl ?_)) | with_reducible refine wc_region ?_)
    exact ⟨rfl, (), within_lk ⟨rfl, rfl, rfl, rfl, rfl, rfl, rfl, rfl, rfl, rfl, trivial⟩, ⟨wf_A, gr_A⟩, m1.grow gr_A, at_A, at_A⟩
  clear wa ga ha la m1 a8 l8 a10 l10
  rintro _ ha ⟨⟨wa, ga⟩, m1, a8, a10⟩
  have la := ga.nx
  have l8 := a8.lt
  have l10 := a10.lt
  refine wc_mid (ι := Unit) (fun _ => [(0, .slice a n c), (1, .slice b m d), (5, .int .i64 I), (6, .int .i64 E), (7, .slice i1.1 i1.2.1 i1.2.2), (8, .pointer (some ⟨B8, 0, some 0⟩)), (9, .int .i64 E2), (10, .pointer (some ⟨B10, 0, some 0⟩)), (11, .int .i64 E3), (12, .int .i64 E), (13, .int .i64 E), (14, .int .i64 E)]) (fun _ h' => (Wf h' ∧ Grow h h') ∧ SubS G h' i1 n E2 p q X Y ∧ At h' B8 (.cells [.int .i64 p, .int .i64 q] 65 2 false) ∧ At h' B10 (.cells [.int .i64 p3, .int .i64 q3] 65 2 false)) ?_ ?_
  · repeat' (first | with_reducible refine wo_nil ?_ | ((with_reducible refine wo_any ?_); first | ((with_reducible refine ik_move ?_); refine wo_op rfl (op_move rfl) rfl rfl ?_) | ((with_reducible refine ik_assign ?_); refine wo_op rfl (op_assign rfl) rfl rfl ?_)) | with_reducible refine wc_region ?_)
    exact ⟨rfl, (), within_lk ⟨rfl, rfl, rfl, rfl, rfl, rfl, rfl, rfl, rfl, rfl, rfl, rfl, trivial⟩, ⟨wf_A, gr_A⟩, m1.grow gr_A, at_A, at_A⟩
  clear wa ga ha la m1 a8 l8 a10 l10
  rintro _ ha ⟨⟨wa, ga⟩, m1, a8, a10⟩
  have la := ga.nx
  have l8 := a8.lt
  have l10 := a10.lt
  refine wc_mid (ι := Unit) (fun _ => [(0, .slice a n c), (1, .slice b m d), (5, .int .i64 I), (6, .int .i64 E), (7, .slice i1.1 i1.2.1 i1.2.2), (8, .pointer (some ⟨B8, 0, some 0⟩)), (9, .int .i64 E2), (10, .pointer (some ⟨B10, 0, some 0⟩)), (11, .int .i64 E3), (12, .int .i64 E), (13, .int .i64 E), (14, .int .i64 E), (15, .int .i64 0)]) (fun _ h' => (Wf h' ∧ Grow h h') ∧ SubS G h' i1 n E2 p q X Y ∧ At h' B8 (.cells [.int .i64 p, .int .i64 q] 65 2 false) ∧ At h' B10 (.cells [.int .i64 p3, .int .i64 q3] 65 2 false)) ?_ ?_
  · repeat' (first | with_reducible refine wo_nil ?_ | ((with_reducible refine wo_any ?_); ((with_reducible refine ik_assign ?_); refine wo_op rfl (op_assign rfl) rfl rfl ?_)) | with_reducible refine wc_region ?_)
    exact ⟨rfl, (), within_lk ⟨rfl, rfl, rfl, rfl, rfl, rfl, rfl, rfl, rfl, rfl, rfl, rfl, rfl, trivial⟩, ⟨wf_A, gr_A⟩, m1.grow gr_A, at_A, at_A⟩
  clear wa ga ha la m1 a8 l8 a10 l10
  rintro _ ha ⟨⟨wa, ga⟩, m1, a8, a10⟩
  have la := ga.nx
  have l8 := a8.lt
  have l10 := a10.lt
  refine wc_mid (ι := Unit) (fun _ => [(0, .slice a n c), (1, .slice b m d), (5, .int .i64 I), (6, .int .i64 E), (7, .slice i1.1 i1.2.1 i1.2.2), (8, .pointer (some ⟨B8, 0, some 0⟩)), (9, .int .i64 E2), (10, .pointer (some ⟨B10, 0, some 0⟩)), (11, .int .i64 E3), (12, .int .i64 E), (13, .int .i64 E), (14, .int .i64 E), (15, .int .i64 0), (16, .slice none 0 0)]) (fun _ h' => (Wf h' ∧ Grow h h') ∧ SubS G h' i1 n E2 p q X Y ∧ At h' B8 (.cells [.int .i64 p, .int .i64 q] 65 2 false) ∧ At h' B10 (.cells [.int .i64 p3, .int .i64 q3] 65 2 false)) ?_ ?_
  · repeat' (first | with_reducible refine wo_nil ?_ | ((with_reducible refine wo_any ?_); ((with_reducible refine ik_assign ?_); refine wo_op rfl (op_assign rfl) rfl rfl ?_)) | with_reducible refine wc_region ?_)
    exact ⟨rfl, (), within_lk ⟨rfl, rfl, rfl, rfl, rfl, rfl, rfl, rfl, rfl, rfl, rfl, rfl, rfl, rfl, trivial⟩, ⟨wf_A, gr_A⟩, m1.grow gr_A, at_A, at_A⟩
  clear wa ga ha la m1 a8 l8 a10 l10
  rintro _ ha ⟨⟨wa, ga⟩, m1, a8, a10⟩
  have la := ga.nx
  have l8 := a8.lt
  have l10 := a10.lt
  refine wc_mid (ι := Nat × Nat) (fun i => [(0, .slice a n c), (1, .slice b m d), (5, .int .i64 I), (6, .int .i64 E), (7, .slice i1.1 i1.2.1 i1.2.2), (8, .pointer (some ⟨B8, 0, some 0⟩)), (9, .int .i64 E2), (10, .pointer (some ⟨B10, 0, some 0⟩)), (11, .int .i64 E3), (12, .int .i64 E), (13, .int .i64 E), (14, .int .i64 E), (15, .int .i64 0), (16, .slice none 0 0), (17, .pointer (some ⟨i.1, 0, some 0⟩)), (18, .pointer (some ⟨i.2, 0, some 0⟩))]) (fun i h' => (Wf h' ∧ Grow ha h') ∧ (ha.nx ≤ i.1 ∧ i.1 < i.2) ∧ At h' i.1 (.cells [.int .i64 0, .int .i64 0] 65 2 false) ∧ At h' i.2 (.cells [.int .i64 0, .int .i64 0] 65 2 false)) ?_ ?_
  · repeat' (first | with_reducible refine wo_nil ?_ | ((with_reducible refine wo_any ?_); ((with_reducible refine ik_alloc ?_); refine wo_op rfl (op_alloc zz65 zs65 rfl rfl rfl) rfl rfl ?_)) | with_reducible refine wc_region ?_)
    exact ⟨rfl, (ha.nx, (ha.push (.cells [.int .i64 0, .int .i64 0] 65 2 false)).nx), within_lk ⟨rfl, rfl, rfl, rfl, rfl, rfl, rfl, rfl, rfl, rfl, rfl, rfl, rfl, rfl, rfl, rfl, trivial⟩, ⟨wf_A, gr_A⟩, ⟨by simp only [H.nx_push]; omega, by simp only [H.nx_push]; omega⟩, at_A, at_A⟩
  rintro ⟨B17, B18⟩ g1 ⟨⟨w1, gg⟩, ⟨n3, n4⟩, a17, a18⟩
  simp only at n3 n4 a17 a18 ⊢
  have lg := gg.nx
  have l17 := a17.lt
  have l18 := a18.lt
  have e8 := a8.grow gg
  have e10 := a10.grow gg
  by_cases hz : E = 0
  · subst hz
    have hI0 : innL X Y = I := by rw [← hI, if_neg (by simp)]
    obtain ⟨⟨z1, z2⟩, z3⟩ := pairE_zero hE
    obtain ⟨k1, k2⟩ := lchk_ok z1
    obtain ⟨k3, k4⟩ := lchk_ok z2
    have hnm : m = n := by omega
    subst hnm
    have sb1 := smp_bound k2
    have sb2 := smp_bound k4
    have q25 := fun (h' : H) (g : Grow h h') (w' : Wf h') => c25 (s.grow g) hn6 k2 w'
    have r25 := fun (h' : H) (g : Grow h h') (w' : Wf h') => c25 (u.grow g) hn6 k4 w'
    rw [hX] at sb1 q25
    rw [hY] at sb2 r25
    have b1 : ∀ z ∈ X, z.natAbs ≤ 32768 := fun z hz => Nat.le_trans (sb1 z hz) (by decide)
    have b2 : ∀ z ∈ Y, z.natAbs ≤ 32768 := fun z hz => Nat.le_trans (sb2 z hz) (by decide)
    have q45 := fun (h' : H) (v w : Value) (s' : Sl G h' 1 v m (X.map (.int .i64))) (u' : Sl G h' 1 w m (Y.map (.int .i64))) (w' : Wf h') => c45 (G := G) (h := h') s' u' (by omega) b1 b2 w'
    have q46 := fun (h' : H) (v w : Value) (s' : Sl G h' 1 v m (X.map (.int .i64))) (u' : Sl G h' 1 w m (Y.map (.int .i64))) (w' : Wf h') => c46s (G := G) (h := h') s' u' (by omega) sb1 sb2 w'
    have q47 := fun (h' : H) (v w : Value) (s' : Sl G h' 1 v m (X.map (.int .i64))) (u' : Sl G h' 1 w m (Y.map (.int .i64))) (w' : Wf h') => c47s (G := G) (h := h') s' u' (by omega) sb1 sb2 w'
    rw [hI0] at q45
    refine wc_mid (ι := ((Option Addr × Nat × Nat) × (Int × (Int × Int))) × (Int × (Int × Int))) (fun i => [(0, .slice a m c), (1, .slice b m d), (5, .int .i64 I), (6, .int .i64 0), (7, .slice i1.1 i1.2.1 i1.2.2), (8, .pointer (some ⟨B8, 0, some 0⟩)), (9, .int .i64 E2), (10, .pointer (some ⟨B10, 0, some 0⟩)), (11, .int .i64 E3), (12, .int .i64 0), (13, .int .i64 i.1.2.1), (14, .int .i64 i.2.1), (15, .int .i64 I), (16, .slice i.1.1.1 i.1.1.2.1 i.1.1.2.2), (17, .pointer (some ⟨B17, 0, some 0⟩)), (18, .pointer (some ⟨B18, 0, some 0⟩))]) (fun i h' => (Wf h' ∧ Grow ha h') ∧ RSubS G h' i.1.1 i.1.2.1 i.1.2.2.1 i.1.2.2.2 m X Y ∧ RRemS i.2.1 i.2.2.1 i.2.2.2 X Y ∧ At h' B17 (.cells [.int .i64 i.1.2.2.1, .int .i64 i.1.2.2.2] 65 2 false) ∧ At h' B18 (.cells [.int .i64 i.2.2.1, .int .i64 i.2.2.2] 65 2 false)) ?_ ?_
    · repeat' (first | with_reducible refine wo_nil ?_ | ((with_reducible refine wo_any ?_); first | ((with_reducible refine ik_move ?_); refine wo_op rfl (op_move rfl) rfl rfl ?_) | ((with_reducible refine ik_assign ?_); refine wo_op rfl (op_assign rfl) rfl rfl ?_) | ((with_reducible refine ik_extract ?_); refine wo_op rfl (op_extract rfl rfl) rfl rfl ?_) | ((with_reducible refine ik_store ?_); refine wo_op0 rfl (op_stAgg rfl rfl at_A zs65 rfl rfl rfl rfl) rfl ?_) | ((with_reducible refine ik_bin ?_); refine wo_op rfl (op_eql rfl rfl) rfl rfl ?_) | ((with_reducible refine ik_callv ?_); first | (refine wo_call rfl rfl rfl rfl (q25 _ gr_A wf_A) rfl rfl ?_; rintro _ _ ⟨⟨aw, cw, rfl, sw⟩, hq⟩; all_goals ((try (have hqn := hq.nx)); (try simp only [H.nx_push, H.nx_set, H.nx_bump] at hqn))) | (refine wo_call rfl rfl rfl rfl (r25 _ gr_A wf_A) rfl rfl ?_; rintro _ _ ⟨⟨av, cv, rfl, sv⟩, hq⟩; all_goals ((try (have hqn := hq.nx)); (try simp only [H.nx_push, H.nx_set, H.nx_bump] at hqn))) | (refine wo_call rfl rfl rfl rfl (q45 _ _ _ (sw.grow gr_A) (sv.grow gr_A) wf_A) rfl rfl ?_; rintro _ _ ⟨rfl, hq⟩; all_goals ((try (have hqn := hq.nx)); (try simp only [H.nx_push, H.nx_set, H.nx_bump] at hqn))) | (refine wo_call rfl rfl rfl rfl (q46 _ _ _ (sw.grow gr_A) (sv.grow gr_A) wf_A) rfl rfl ?_; rintro _ _ ⟨⟨i6, two, p6, q6, rfl, m6⟩, hq⟩; all_goals ((try (have hqn := hq.nx)); (try simp only [H.nx_push, H.nx_set, H.nx_bump] at hqn))) | (refine wo_call rfl rfl rfl rfl (q47 _ _ _ (Sl.set_ne (sw.grow gr_A) (show At _ B17 (.cells [.int .i64 0, .int .i64 0] 65 2 false) from at_A) (by decide) _) (Sl.set_ne (sv.grow gr_A) (show At _ B17 (.cells [.int .i64 0, .int .i64 0] 65 2 false) from at_A) (by decide) _) wf_A) rfl rfl ?_; rintro _ _ ⟨⟨three, p7, q7, rfl, m7⟩, hq⟩; all_goals ((try (have hqn := hq.nx)); (try simp only [H.nx_push, H.nx_set, H.nx_bump] at hqn))))) | with_reducible refine sq_norm ?_ | with_reducible refine wc_seq ?_ | with_reducible refine wc_region ?_ | refine wc_ift rfl ?_)
      exact ⟨rfl, ((i6, (two, (p6, q6))), (three, (p7, q7))), within_lk ⟨rfl, rfl, rfl, rfl, rfl, rfl, rfl, rfl, rfl, rfl, rfl, rfl, rfl, rfl, rfl, rfl, trivial⟩, ⟨wf_A, gr_A⟩, ((m6.set (show At _ B17 (.cells [.int .i64 0, .int .i64 0] 65 2 false) from at_A) _).grow gr_A).set (show At _ B18 (.cells [.int .i64 0, .int .i64 0] 65 2 false) from at_A) _, m7, at_A, at_A⟩
    clear q25 r25 q45 q46 q47 a17 a18 w1 gg lg l17 l18 e8 e10 g1
    rintro ⟨⟨i6, ⟨two, ⟨p6, q6⟩⟩⟩, ⟨three, ⟨p7, q7⟩⟩⟩ g1 ⟨⟨w1, gg⟩, m6, m7, a17, a18⟩
    simp only at m6 m7 a17 a18 ⊢
    have lg := gg.nx
    have l17 := a17.lt
    have l18 := a18.lt
    have e8 := a8.grow gg
    have e10 := a10.grow gg
    have R : RatA p3 q3 E3 three p7 q7 := by
      have h3 : E3 = if innL X X = 0 then 6 else 0 := by rw [← hE3]; unfold remE; rw [if_neg (by decide)]
      rcases m7 with ⟨x0, t1, t2, t3⟩ | ⟨x0, t1, t2, t3⟩
      · rw [if_pos x0] at h3
        subst h3 t1
        rcases m3 with ⟨_, y1, y2⟩ | ⟨y0, _⟩
        · exact .inl ⟨by decide, rfl, y1, y2⟩
        · exact absurd y0 (by decide)
      · rw [if_neg x0] at h3
        subst h3 t1
        rcases m3 with ⟨y0, _⟩ | ⟨_, y1, y2⟩
        · exact absurd rfl y0
        · exact .inr ⟨rfl, rfl, by rw [y1, t2], by rw [y2, t3]⟩
    clear m3 m7 hE3
    have q50 := fun (h' : H) (w' : Wf h') => c50 (G := G) (h := h') R w'
    have q49 := fun (h' : H) (w' : Wf h') => c49 (G := G) (h := h') (a := I) (E := 0) (b := 0) (w := I) (.inr ⟨rfl, rfl, rfl⟩) w'
    rcases m6 with ⟨y0, t1, t2, t3⟩ | ⟨y0, t1, t2, t3, s6⟩
    · subst t1 t2 t3
      have h2 : E2 = 17 := by rw [← hE2]; unfold subE; rw [if_neg (by decide), if_pos y0]
      rw [h2] at m1 ⊢
      have m9 : i1.2.1 = 0 ∧ p = 0 ∧ q = 0 := by
        rcases m1 with ⟨_, m⟩ | ⟨m, _⟩
        · exact m
        · exact absurd m (by decide)
      obtain ⟨m9, rfl, rfl⟩ := m9
      rw [m9]
      have q31 := fun (h' : H) (w' : Wf h') => c31 (G := G) (h := h') (a := i1.1) (n := 0) (c := i1.2.2) (E := 17) (bad := 17) (w := .slice i6.1 i6.2.1 i6.2.2) (L := []) (.inl ⟨by decide, rfl, rfl⟩) w'
      repeat' (first | with_reducible refine wo_nil ?_ | ((with_reducible refine wo_any ?_); first | ((with_reducible refine ik_move ?_); refine wo_op rfl (op_move rfl) rfl rfl ?_) | ((with_reducible refine ik_assign ?_); refine wo_op rfl (op_assign rfl) rfl rfl ?_) | ((with_reducible refine ik_bin ?_); refine wo_op rfl (op_eql rfl rfl) rfl rfl ?_) | ((with_reducible refine ik_pick ?_); refine wo_op rfl (op_pickt rfl rfl) rfl rfl ?_) | ((with_reducible refine ik_callv ?_); (refine wo_call rfl rfl rfl rfl (q49 _ wf_A) rfl rfl ?_; rintro _ _ ⟨rfl, hq⟩; all_goals ((try (have hqn := hq.nx)); (try simp only [H.nx_push, H.nx_set, H.nx_bump] at hqn)))) | ((with_reducible refine ik_g ?_); first | ((with_reducible refine ig_move ?_); refine wo_grun rfl rfl rfl (op_move rfl) rfl rfl ?_) | ((with_reducible refine ig_load ?_); refine wo_grun rfl rfl rfl (op_ldAgg rfl at_A Tryz.underlying65 rfl zs65 rfl rfl) rfl rfl ?_) | ((with_reducible refine ig_bin ?_); refine wo_grun rfl rfl rfl (op_eqT 3 rfl rfl rfl Tryz.underlying65 rfl eg65 (eq65 _ _)) rfl rfl ?_) | ((with_reducible refine ig_callv ?_); first | (refine wo_gcall rfl rfl rfl rfl rfl rfl (q31 _ wf_A) rfl rfl ?_; rintro _ _ ⟨rfl, hq⟩; all_goals ((try (have hqn := hq.nx)); (try simp only [H.nx_push, H.nx_set, H.nx_bump] at hqn))) | (refine wo_gcall rfl rfl rfl rfl rfl rfl (q50 _ wf_A) rfl rfl ?_; rintro _ _ ⟨rfl, hq⟩; all_goals ((try (have hqn := hq.nx)); (try simp only [H.nx_push, H.nx_set, H.nx_bump] at hqn)))))) | with_reducible refine sq_norm ?_ | with_reducible refine wc_seq ?_ | with_reducible refine wc_region ?_ | with_reducible refine wc_skip ?_ | with_reducible refine wc_ret ?_ | refine wc_iff rfl ?_)
      exact rq1 rfl ⟨rfl, gr_A⟩
    · subst t1
      have h2 : E2 = if anyLarge (subL X Y) then 4 else 0 := by rw [← hE2]; unfold subE; rw [if_neg (by decide), if_neg y0]
      cases hlg : anyLarge (subL X Y) with
      | true =>
        rw [hlg, if_pos rfl] at h2
        rw [h2] at m1 ⊢
        have m9 : i1.2.1 = 0 ∧ p = 0 ∧ q = 0 := by
          rcases m1 with ⟨_, m⟩ | ⟨m, _⟩
          · exact m
          · exact absurd m (by decide)
        obtain ⟨m9, rfl, rfl⟩ := m9
        rw [m9]
        have q48 := fun (h' : H) (s' : Sl G h' 1 (.slice i6.1 i6.2.1 i6.2.2) m ((subL X Y).map (.int .i64))) (w' : Wf h') => (c48 (G := G) (h := h') s' hn6 w').mono (Q' := fun r h'' => r = .tuple #[.slice none 0 0, .int .i64 4] ∧ Grow h' h'') fun r h'' ⟨p, g⟩ => ⟨(by
          rcases p with ⟨_, p⟩ | ⟨p, _⟩
          · exact p
          · rw [hlg] at p; cases p), g⟩
        have q31 := fun (h' : H) (s' : Sl G h' 1 (.slice i6.1 i6.2.1 i6.2.2) m ((subL X Y).map (.int .i64))) (w' : Wf h') => c31 (G := G) (h := h') (a := i1.1) (n := 0) (c := i1.2.2) (E := 4) (bad := 0) (w := .slice i6.1 i6.2.1 i6.2.2) (L := subL X Y) (.inr ⟨rfl, ⟨m, hn6, s'⟩, .inl ⟨rfl, hlg, rfl⟩⟩) w'
        refine wc_mid (ι := Unit) (fun _ => [(5, .int .i64 I), (6, .int .i64 0), (7, .slice i1.1 0 i1.2.2), (8, .pointer (some ⟨B8, 0, some 0⟩)), (9, .int .i64 4), (10, .pointer (some ⟨B10, 0, some 0⟩)), (11, .int .i64 E3), (12, .int .i64 0), (13, .int .i64 0), (14, .int .i64 three), (15, .int .i64 I), (16, .slice i6.1 i6.2.1 i6.2.2), (17, .pointer (some ⟨B17, 0, some 0⟩)), (18, .pointer (some ⟨B18, 0, some 0⟩))]) (fun _ h' => (Wf h' ∧ Grow ha h') ∧ Sl G h' 1 (.slice i6.1 i6.2.1 i6.2.2) m ((subL X Y).map (.int .i64)) ∧ At h' B17 (.cells [.int .i64 0, .int .i64 0] 65 2 false) ∧ At h' B18 (.cells [.int .i64 p7, .int .i64 q7] 65 2 false)) ?_ ?_
        · repeat' (first | with_reducible refine wo_nil ?_ | ((with_reducible refine wo_any ?_); first | ((with_reducible refine ik_move ?_); refine wo_op rfl (op_move rfl) rfl rfl ?_) | ((with_reducible refine ik_assign ?_); refine wo_op rfl (op_assign rfl) rfl rfl ?_) | ((with_reducible refine ik_extract ?_); refine wo_op rfl (op_extract rfl rfl) rfl rfl ?_) | ((with_reducible refine ik_store ?_); refine wo_op0 rfl (op_stAgg rfl rfl at_A zs65 rfl rfl rfl rfl) rfl ?_) | ((with_reducible refine ik_bin ?_); first | refine wo_op rfl (op_neq rfl rfl) rfl rfl ?_ | refine wo_op rfl (op_eql rfl rfl) rfl rfl ?_) | ((with_reducible refine ik_build ?_); refine wo_op rfl (op_buildT rfl zz65 zp65 rfl rfl) rfl rfl ?_) | ((with_reducible refine ik_callv ?_); (refine wo_call rfl rfl rfl rfl (q48 _ (s6.grow gr_A) wf_A) rfl rfl ?_; rintro _ _ ⟨rfl, hq⟩; all_goals ((try (have hqn := hq.nx)); (try simp only [H.nx_push, H.nx_set, H.nx_bump] at hqn))))) | with_reducible refine sq_norm ?_ | with_reducible refine wc_seq ?_ | with_reducible refine wc_region ?_ | refine wc_ift rfl ?_)
          exact ⟨rfl, (), within_lk ⟨rfl, rfl, rfl, rfl, rfl, rfl, rfl, rfl, rfl, rfl, rfl, rfl, rfl, rfl, trivial⟩, ⟨wf_A, gr_A⟩, Sl.set_ne (s6.grow gr_A) (show At _ B17 (.cells [.int .i64 p6, .int .i64 q6] 65 2 false) from at_A) (by decide) _, at_A, at_A⟩
        clear s6 a17 a18 w1 gg lg l17 l18 e8 e10 g1 q48
        rintro _ g1 ⟨⟨w1, gg⟩, s6, a17, a18⟩
        have lg := gg.nx
        have l17 := a17.lt
        have l18 := a18.lt
        have e8 := a8.grow gg
        have e10 := a10.grow gg
        repeat' (first | with_reducible refine wo_nil ?_ | ((with_reducible refine wo_any ?_); first | ((with_reducible refine ik_move ?_); refine wo_op rfl (op_move rfl) rfl rfl ?_) | ((with_reducible refine ik_assign ?_); refine wo_op rfl (op_assign rfl) rfl rfl ?_) | ((with_reducible refine ik_pick ?_); refine wo_op rfl (op_pickt rfl rfl) rfl rfl ?_) | ((with_reducible refine ik_callv ?_); (refine wo_call rfl rfl rfl rfl (q49 _ wf_A) rfl rfl ?_; rintro _ _ ⟨rfl, hq⟩; all_goals ((try (have hqn := hq.nx)); (try simp only [H.nx_push, H.nx_set, H.nx_bump] at hqn)))) | ((with_reducible refine ik_g ?_); first | ((with_reducible refine ig_move ?_); refine wo_grun rfl rfl rfl (op_move rfl) rfl rfl ?_) | ((with_reducible refine ig_load ?_); refine wo_grun rfl rfl rfl (op_ldAgg rfl at_A Tryz.underlying65 rfl zs65 rfl rfl) rfl rfl ?_) | ((with_reducible refine ig_bin ?_); refine wo_grun rfl rfl rfl (op_eqT 3 rfl rfl rfl Tryz.underlying65 rfl eg65 (eq65 _ _)) rfl rfl ?_) | ((with_reducible refine ig_callv ?_); first | (refine wo_gcall rfl rfl rfl rfl rfl rfl (q31 _ (s6.grow gr_A) wf_A) rfl rfl ?_; rintro _ _ ⟨rfl, hq⟩; all_goals ((try (have hqn := hq.nx)); (try simp only [H.nx_push, H.nx_set, H.nx_bump] at hqn))) | (refine wo_gcall rfl rfl rfl rfl rfl rfl (q50 _ wf_A) rfl rfl ?_; rintro _ _ ⟨rfl, hq⟩; all_goals ((try (have hqn := hq.nx)); (try simp only [H.nx_push, H.nx_set, H.nx_bump] at hqn)))))) | with_reducible refine sq_norm ?_ | with_reducible refine wc_seq ?_ | with_reducible refine wc_region ?_ | with_reducible refine wc_ret ?_)
        exact rq1 rfl ⟨rfl, gr_A⟩
      | false =>
        rw [hlg, if_neg (by decide)] at h2
        rw [h2] at m1 ⊢
        have m9 : i1.2.1 = m ∧ p = p6 ∧ q = q6 ∧ Sl G ha 1 (.slice i1.1 i1.2.1 i1.2.2) m (((subL X Y).map smpW).map (.float .f32)) := by
          rcases m1 with ⟨m, _⟩ | ⟨_, _, m1, m2, m3, m4⟩
          · exact absurd rfl m
          · exact ⟨m1, by rw [m2, t2], by rw [m3, t3], m4⟩
        obtain ⟨m9, rfl, rfl, m8⟩ := m9
        rw [m9] at m8 ⊢
        have q48 := fun (h' : H) (s' : Sl G h' 1 (.slice i6.1 i6.2.1 i6.2.2) m ((subL X Y).map (.int .i64))) (w' : Wf h') => (c48 (G := G) (h := h') s' hn6 w').mono (Q' := fun r h'' => (∃ a c, r = .tuple #[.slice a m c, .int .i64 0]) ∧ Grow h' h'') fun r h'' ⟨p, g⟩ => ⟨(by
          rcases p with ⟨p, _⟩ | ⟨_, a, c, p, _⟩
          · rw [hlg] at p; cases p
          · exact ⟨a, c, p⟩), g⟩
        have q31 := fun (h' : H) (g : Grow ha h') (s' : Sl G h' 1 (.slice i6.1 i6.2.1 i6.2.2) m ((subL X Y).map (.int .i64))) (w' : Wf h') => c31 (G := G) (h := h') (a := i1.1) (n := m) (c := i1.2.2) (E := 0) (bad := 0) (w := .slice i6.1 i6.2.1 i6.2.2) (L := subL X Y) (.inr ⟨rfl, ⟨m, hn6, s'⟩, .inr ⟨rfl, hlg, m8.grow g⟩⟩) w'
        repeat' (first | with_reducible refine wo_nil ?_ | ((with_reducible refine wo_any ?_); first | ((with_reducible refine ik_move ?_); refine wo_op rfl (op_move rfl) rfl rfl ?_) | ((with_reducible refine ik_assign ?_); refine wo_op rfl (op_assign rfl) rfl rfl ?_) | ((with_reducible refine ik_bin ?_); first | refine wo_op rfl (op_neq rfl rfl) rfl rfl ?_ | refine wo_op rfl (op_eql rfl rfl) rfl rfl ?_) | ((with_reducible refine ik_pick ?_); refine wo_op rfl (op_pickt rfl rfl) rfl rfl ?_) | ((with_reducible refine ik_extract ?_); refine wo_op rfl (op_extract rfl rfl) rfl rfl ?_) | ((with_reducible refine ik_callv ?_); first | (refine wo_call rfl rfl rfl rfl (q48 _ (s6.grow gr_A) wf_A) rfl rfl ?_; rintro _ _ ⟨⟨a9, c9, rfl⟩, hq⟩; all_goals ((try (have hqn := hq.nx)); (try simp only [H.nx_push, H.nx_set, H.nx_bump] at hqn))) | (refine wo_call rfl rfl rfl rfl (q49 _ wf_A) rfl rfl ?_; rintro _ _ ⟨rfl, hq⟩; all_goals ((try (have hqn := hq.nx)); (try simp only [H.nx_push, H.nx_set, H.nx_bump] at hqn)))) | ((with_reducible refine ik_g ?_); first | ((with_reducible refine ig_move ?_); refine wo_grun rfl rfl rfl (op_move rfl) rfl rfl ?_) | ((with_reducible refine ig_load ?_); refine wo_grun rfl rfl rfl (op_ldAgg rfl at_A Tryz.underlying65 rfl zs65 rfl rfl) rfl rfl ?_) | ((with_reducible refine ig_bin ?_); refine wo_grun rfl rfl rfl (op_eqT 3 rfl rfl rfl Tryz.underlying65 rfl eg65 (eq65 _ _)) rfl rfl ?_) | ((with_reducible refine ig_callv ?_); first | (refine wo_gcall rfl rfl rfl rfl rfl rfl (q31 _ gr_A (s6.grow gr_A) wf_A) rfl rfl ?_; rintro _ _ ⟨rfl, hq⟩; all_goals ((try (have hqn := hq.nx)); (try simp only [H.nx_push, H.nx_set, H.nx_bump] at hqn))) | (refine wo_gcall rfl rfl rfl rfl rfl rfl (q50 _ wf_A) rfl rfl ?_; rintro _ _ ⟨rfl, hq⟩; all_goals ((try (have hqn := hq.nx)); (try simp only [H.nx_push, H.nx_set, H.nx_bump] at hqn)))))) | with_reducible refine sq_norm ?_ | with_reducible refine wc_seq ?_ | with_reducible refine wc_region ?_ | with_reducible refine wc_skip ?_ | with_reducible refine wc_ret ?_ | refine wc_ift rfl ?_ | refine wc_iff rfl ?_)
        exact rq1 rfl ⟨rfl, gr_A⟩
  · have hI0 : I = 0 := by rw [← hI, if_pos hz]
    have h2 : E2 = E := by rw [← hE2]; unfold subE; rw [if_pos hz]
    have h3 : E3 = E := by rw [← hE3]; unfold remE; rw [if_pos hz]
    rw [h2] at m1 ⊢
    rw [h3] at m3 ⊢
    rw [hI0]
    have m9 : i1.2.1 = 0 ∧ p = 0 ∧ q = 0 := by
      rcases m1 with ⟨_, m⟩ | ⟨m, _⟩
      · exact m
      · exact absurd m hz
    have m3 : p3 = 0 ∧ q3 = 0 := by
      rcases m3 with ⟨_, m⟩ | ⟨m, _⟩
      · exact m
      · exact absurd m hz
    obtain ⟨m9, rfl, rfl⟩ := m9
    obtain ⟨rfl, rfl⟩ := m3
    rw [m9]
    have q49 := fun (h' : H) (w' : Wf h') => c49 (G := G) (h := h') (a := 0) (E := E) (b := E) (w := 0) (.inl ⟨hz, rfl, rfl⟩) w'
    have q50 := fun (h' : H) (w' : Wf h') => c50 (G := G) (h := h') (a := 0) (b := 0) (E := E) (bad := E) (x := 0) (y := 0) (.inl ⟨hz, rfl, rfl, rfl⟩) w'
    have q31 := fun (h' : H) (w' : Wf h') => c31 (G := G) (h := h') (a := i1.1) (n := 0) (c := i1.2.2) (E := E) (bad := E) (w := .slice none 0 0) (L := []) (.inl ⟨hz, rfl, rfl⟩) w'
    repeat' (first | with_reducible refine wo_nil ?_ | ((with_reducible refine wo_any ?_); first | ((with_reducible refine ik_move ?_); refine wo_op rfl (op_move rfl) rfl rfl ?_) | ((with_reducible refine ik_assign ?_); refine wo_op rfl (op_assign rfl) rfl rfl ?_) | ((with_reducible refine ik_bin ?_); refine wo_op rfl (op_eql rfl rfl) rfl rfl ?_) | ((with_reducible refine ik_pick ?_); refine wo_op rfl (op_pickt rfl rfl) rfl rfl ?_) | ((with_reducible refine ik_callv ?_); (refine wo_call rfl rfl rfl rfl (q49 _ wf_A) rfl rfl ?_; rintro _ _ ⟨rfl, hq⟩; all_goals ((try (have hqn := hq.nx)); (try simp only [H.nx_push, H.nx_set, H.nx_bump] at hqn)))) | ((with_reducible refine ik_g ?_); first | ((with_reducible refine ig_move ?_); refine wo_grun rfl rfl rfl (op_move rfl) rfl rfl ?_) | ((with_reducible refine ig_load ?_); refine wo_grun rfl rfl rfl (op_ldAgg rfl at_A Tryz.underlying65 rfl zs65 rfl rfl) rfl rfl ?_) | ((with_reducible refine ig_bin ?_); refine wo_grun rfl rfl rfl (op_eqT 3 rfl rfl rfl Tryz.underlying65 rfl eg65 (eq65 _ _)) rfl rfl ?_) | ((with_reducible refine ig_callv ?_); first | (refine wo_gcall rfl rfl rfl rfl rfl rfl (q31 _ wf_A) rfl rfl ?_; rintro _ _ ⟨rfl, hq⟩; all_goals ((try (have hqn := hq.nx)); (try simp only [H.nx_push, H.nx_set, H.nx_bump] at hqn))) | (refine wo_gcall rfl rfl rfl rfl rfl rfl (q50 _ wf_A) rfl rfl ?_; rintro _ _ ⟨rfl, hq⟩; all_goals ((try (have hqn := hq.nx)); (try simp only [H.nx_push, H.nx_set, H.nx_bump] at hqn)))))) | with_reducible refine sq_norm ?_ | with_reducible refine wc_seq ?_ | with_reducible refine wc_region ?_ | with_reducible refine wc_skip ?_ | with_reducible refine wc_ret ?_ | (refine wc_if rfl (fun hb => dead_A hb) (fun hb => ?_); (try simp only [decide_eq_true_eq, decide_eq_false_iff_not, Bool.not_eq_true', Bool.not_eq_false', Int.not_lt, Int.not_le, Decidable.not_not, not_true_eq_false, not_false_eq_true, beq_self_eq_true, reduceCtorEq] at hb)))
    exact rq1 rfl ⟨rfl, gr_A⟩
theorem c6 {a b : Option Addr} {n c m d : Nat} {l k : List Nat} (s : Sl G h 1 (.slice a n c) n (l.map (.float .f32))) (u : Sl G h 1 (.slice b m d) m (k.map (.float .f32))) (hw : Wf h) (hG : ∀ a v, laidBase a = some v → G a = some v) : Cf (mz G) (.func (.func 6) #[] #[]) [.slice a n c, .slice b m d] h fun r h' => r = .bool true ∧ Grow h h' := by
  by_cases hS : (n ≤ 32 ∨ n = 1025) ∧ (m ≤ 32 ∨ m = 1025)
  · exact c6m s u hS.1 hS.2 hw hG
  · exact c6n hS hw
end Go.Proofs.YtdfpadokepmknaaGreatDoor
