/- Numbers and ratios held against one another. -/
import Derived.Test.YtdfpadokepmknaaGreatDoorH2
set_option linter.all false
/- The law FilterSubtracts, walked. -/
namespace Go.Proofs.YtdfpadokepmknaaGreatDoor
open Go Go.Ab Go.Fl
attribute [local irreducible] SeqQ BlkQ LpQ RetQ Wc Wo WD WX Op1 Op1q Op1a Cf Cl From
attribute [local irreducible] Ieee.Format.order Ieee.Format.read Ieee.Format.nearest Ieee.Format.write Ieee.Format.mul Ieee.Format.div Ieee.Datum.order Ieee.Datum.integral smpE smp smpW K J U sumN lchk tchk trE hdrE appL undL undA undI wr ghoL rnd mulL dghL dghA rngE notN innL lowN lowD madeE pairE subL subF anyLarge subE remE difL
set_option maxRecDepth 10000
variable {G : Base} {h : H}

theorem eq65 (a b : Int) : eqV Tryz.prog 3 65 [.int .i64 a, .int .i64 b] [.int .i64 a, .int .i64 b] = some true := by
  rw [eqv65]; simp
def RatA (a b E bad x y : Int) : Prop := (bad ≠ 0 ∧ E = bad ∧ a = 0 ∧ b = 0) ∨ (bad = 0 ∧ E = 0 ∧ a = x ∧ b = y)
theorem c50 {a b E bad x y : Int} (q : RatA a b E bad x y) (hw : Wf h) : Cf (mz G) (.func (.func 50) #[] #[]) [ratV a b, .int .i64 E, .int .i64 bad, ratV x y] h fun r h' => r = .bool true ∧ Grow h h' := by
  rcases q with ⟨q1, q2, q3, q4⟩ | ⟨q1, q2, q3, q4⟩
  · subst q2 q3 q4
    refine cf_enter0 30 [.tmp 8] Tryz.func50 rfl rfl rfl rfl ?_
    repeat' (first | with_reducible refine wo_nil ?_ | ((with_reducible refine wo_any ?_); first | ((with_reducible refine ik_move ?_); refine wo_op rfl (op_move rfl) rfl rfl ?_) | ((with_reducible refine ik_assign ?_); refine wo_op rfl (op_assign rfl) rfl rfl ?_) | ((with_reducible refine ik_bin ?_); refine wo_op rfl (op_eql rfl rfl) rfl rfl ?_) | ((with_reducible refine ik_box ?_); refine wo_op rfl (op_boxAgg rfl zs65 rfl) rfl rfl ?_) | ((with_reducible refine ik_pick ?_); refine wo_op rfl (op_pickt rfl rfl) rfl rfl ?_) | ((with_reducible refine ik_g ?_); first | refine wo_gskip rfl rfl rfl rfl rfl rfl ?_ | refine wo_gskip' rfl rfl rfl rfl rfl ?_ | ((with_reducible refine ig_move ?_); refine wo_grun rfl rfl rfl (op_move rfl) rfl rfl ?_) | ((with_reducible refine ig_load ?_); refine wo_grun rfl rfl rfl (op_ldAgg rfl at_A Tryz.underlying65 rfl zs65 rfl rfl) rfl rfl ?_) | ((with_reducible refine ig_bin ?_); first | refine wo_grun rfl rfl rfl (op_eqT 3 rfl rfl rfl Tryz.underlying65 rfl eg65 (eq65 _ _)) rfl rfl ?_ | refine wo_grun rfl rfl rfl (op_neq rfl rfl) rfl rfl ?_) | ((with_reducible refine ig_build ?_); refine wo_grun rfl rfl rfl (op_buildT rfl zz65 zp65 rfl rfl) rfl rfl ?_) | ((with_reducible refine ig_pick ?_); refine wo_grun rfl rfl rfl (op_pickt rfl rfl) rfl rfl ?_) | (refine wo_gsplit rfl rfl rfl (fun hb => ?_) (fun hb => ?_) <;> (try simp only [decide_eq_true_eq, decide_eq_false_iff_not, Bool.not_eq_true', Bool.not_eq_false', Int.not_lt, Int.not_le, Decidable.not_not, not_true_eq_false, not_false_eq_true, beq_self_eq_true, reduceCtorEq] at hb) <;> (try (exfalso; omega))))) | with_reducible refine sq_norm ?_ | with_reducible refine wc_seq ?_ | with_reducible refine wc_region ?_ | with_reducible refine wc_ret ?_)
    all_goals first | exact rq1 rfl ⟨by first | rfl | simp, gr_A⟩ | (exfalso; omega) | (exfalso; simp_all; done)
  · subst q1 q2 q3 q4
    refine cf_enter0 30 [.tmp 8] Tryz.func50 rfl rfl rfl rfl ?_
    repeat' (first | with_reducible refine wo_nil ?_ | ((with_reducible refine wo_any ?_); first | ((with_reducible refine ik_move ?_); refine wo_op rfl (op_move rfl) rfl rfl ?_) | ((with_reducible refine ik_assign ?_); refine wo_op rfl (op_assign rfl) rfl rfl ?_) | ((with_reducible refine ik_bin ?_); refine wo_op rfl (op_eql rfl rfl) rfl rfl ?_) | ((with_reducible refine ik_box ?_); refine wo_op rfl (op_boxAgg rfl zs65 rfl) rfl rfl ?_) | ((with_reducible refine ik_pick ?_); refine wo_op rfl (op_pickt rfl rfl) rfl rfl ?_) | ((with_reducible refine ik_g ?_); first | refine wo_gskip rfl rfl rfl rfl rfl rfl ?_ | ((with_reducible refine ig_move ?_); refine wo_grun rfl rfl rfl (op_move rfl) rfl rfl ?_) | ((with_reducible refine ig_load ?_); refine wo_grun rfl rfl rfl (op_ldAgg rfl at_A Tryz.underlying65 rfl zs65 rfl rfl) rfl rfl ?_) | ((with_reducible refine ig_bin ?_); first | refine wo_grun rfl rfl rfl (op_eqT 3 rfl rfl rfl Tryz.underlying65 rfl eg65 (eq65 _ _)) rfl rfl ?_ | refine wo_grun rfl rfl rfl (op_eql rfl rfl) rfl rfl ?_ | refine wo_grun rfl rfl rfl (op_neq rfl rfl) rfl rfl ?_) | ((with_reducible refine ig_pick ?_); first | refine wo_grun rfl rfl rfl (op_pickt rfl rfl) rfl rfl ?_ | refine wo_grun rfl rfl rfl (op_pickf rfl rfl) rfl rfl ?_))) | with_reducible refine sq_norm ?_ | with_reducible refine wc_seq ?_ | with_reducible refine wc_region ?_ | with_reducible refine wc_ret ?_)
    all_goals first | exact rq1 rfl ⟨by first | rfl | simp, gr_A⟩ | (exfalso; omega) | (exfalso; simp_all; done)
/-- What the functions answer, each as a list, numbers and an error. -/
def SubS (G : Base) (h : H) (i : Option Addr × Nat × Nat) (n : Nat) (E p q : Int) (x y : List Int) : Prop :=
  (E ≠ 0 ∧ i.2.1 = 0 ∧ p = 0 ∧ q = 0) ∨ (E = 0 ∧ anyLarge (subL x y) = false ∧ i.2.1 = n ∧ p = lowN (innL x y) (innL y y) ∧ q = lowD (innL x y) (innL y y) ∧ Sl G h 1 (.slice i.1 i.2.1 i.2.2) n (((subL x y).map smpW).map (.float .f32)))
theorem SubS.grow {h h' : H} {i : Option Addr × Nat × Nat} {n : Nat} {E p q : Int} {x y : List Int} (m : SubS G h i n E p q x y) (g : Grow h h') : SubS G h' i n E p q x y := by
  rcases m with m | ⟨m1, m2, m3, m4, m5, m6⟩
  · exact .inl m
  · exact .inr ⟨m1, m2, m3, m4, m5, m6.grow g⟩
def RSubS (G : Base) (h : H) (i : Option Addr × Nat × Nat) (two p q : Int) (n : Nat) (x y : List Int) : Prop :=
  (innL y y = 0 ∧ two = 17 ∧ p = 0 ∧ q = 0) ∨ (innL y y ≠ 0 ∧ two = 0 ∧ p = lowN (innL x y) (innL y y) ∧ q = lowD (innL x y) (innL y y) ∧ Sl G h 1 (.slice i.1 i.2.1 i.2.2) n ((subL x y).map (.int .i64)))
theorem RSubS.grow {h h' : H} {i : Option Addr × Nat × Nat} {n : Nat} {E p q : Int} {x y : List Int} (m : RSubS G h i E p q n x y) (g : Grow h h') : RSubS G h' i E p q n x y := by
  rcases m with m | ⟨m1, m2, m3, m4, m5⟩
  · exact .inl m
  · exact .inr ⟨m1, m2, m3, m4, m5.grow g⟩
theorem RSubS.set {i : Option Addr × Nat × Nat} {n B : Nat} {E p q : Int} {x y : List Int} {c : List Value} (m : RSubS G h i E p q n x y) (hat : At h B (.cells c 65 2 false)) (o : AObj) : RSubS G (h.set B o) i E p q n x y := by
  rcases m with m | ⟨m1, m2, m3, m4, m5⟩
  · exact .inl m
  · exact .inr ⟨m1, m2, m3, m4, Sl.set_ne m5 hat (by decide) o⟩
end Go.Proofs.YtdfpadokepmknaaGreatDoor
