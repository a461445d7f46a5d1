/- The law FilterTaps, walked. -/
import Derived.Test.YtccdcekcbbpohaaGreatDoorH4
set_option linter.all false
/- The law FilterTaps, walked to its end. -/
namespace Go.Proofs.YtccdcekcbbpohaaGreatDoor
open Go Go.Ab Go.Fl
attribute [local irreducible] SeqQ BlkQ LpQ RetQ Wc Wo WD WX Op1 Op1q Op1a Cf Cl From
attribute [local irreducible] Ieee.Format.order Ieee.Format.read Ieee.Format.nearest Ieee.Format.write Ieee.Format.mul Ieee.Format.div Ieee.Datum.order Ieee.Datum.integral smpE smp smpW K J U sumN lchk tchk trE hdrE appL undL undA undI undU wr ghoL rnd mulL dghL dghA rngE notN pR pI resR resI resC tR tI rowE allE fz
set_option maxRecDepth 10000
variable {G : Base} {h : H}

theorem UndR.grow {h h' : H} {r : Value} {n : Nat} {t l : List Int} (q : UndR G h r n t l) (g : Grow h h') : UndR G h' r n t l := by
  rcases q with q | q | ⟨q1, q2, a, c, q3, q4⟩
  · exact .inl q
  · exact .inr (.inl q)
  · exact .inr (.inr ⟨q1, q2, a, c, q3, q4.grow g⟩)
theorem HeardA.set_ne {h : H} {a : Option Addr} {n c : Nat} {E bad : Int} {w : Value} {L : List Int} {b : Nat} {cs : List Value} {e : TypeId} {sf : Bool} (q : HeardA G h a n c E bad w L) (hat : At h b (.cells cs e 4 sf)) (o : AObj) : HeardA G (h.set b o) a n c E bad w L := by
  rcases q with q | ⟨q1, ⟨m, q2, q3⟩, q⟩
  · exact .inl q
  · refine .inr ⟨q1, ⟨m, q2, Sl.set_ne q3 hat (by decide) _⟩, ?_⟩
    rcases q with q | ⟨q4, q5, q6⟩
    · exact .inl q
    · exact .inr ⟨q4, q5, Sl.set_ne q6 hat (by decide) _⟩
set_option maxHeartbeats 4000000 in
theorem c4n {a b : Option Addr} {m c n d : Nat} (hS : ¬(m ≤ 9 ∧ (n ≤ 32 ∨ n = 1025))) (hw : Wf h) : Cf (mz G) (.func (.func 4) #[] #[]) [.slice a m c, .slice b n d] h fun r h' => r = .bool true ∧ Grow h h' := by
  by_cases h9 : m ≤ 9
  · refine cf_enter0 144 [.tmp 4] Tryz.func4 rfl rfl rfl rfl ?_
    repeat' (first | with_reducible refine wo_nil ?_ | ((with_reducible refine wo_any ?_); first | ((with_reducible refine ik_move ?_); refine wo_op rfl (op_move rfl) rfl rfl ?_) | ((with_reducible refine ik_assign ?_); refine wo_op rfl (op_assign rfl) rfl rfl ?_) | ((with_reducible refine ik_un ?_); refine wo_op rfl (op_not rfl) rfl rfl ?_) | ((with_reducible refine ik_pick ?_); refine wo_op rfl (op_pickf rfl rfl) rfl rfl ?_) | ((with_reducible refine ik_callF (f := 10) ?_); refine wo_op rfl (op_call rfl rfl (c10)) rfl rfl ?_) | ((with_reducible refine ik_g ?_); first | ((with_reducible refine ig_move ?_); refine wo_grun rfl rfl rfl (op_move rfl) rfl rfl ?_) | ((with_reducible refine ig_un ?_); refine wo_grun rfl rfl rfl (op_not rfl) rfl rfl ?_) | ((with_reducible refine ig_callF (f := 11) ?_); refine wo_grun rfl rfl rfl (op_call rfl rfl (c11)) rfl rfl ?_) | ((with_reducible refine ig_callF (f := 20) ?_); refine wo_grun rfl rfl rfl (op_call rfl rfl (c20)) rfl rfl ?_) | (refine wo_gsplit rfl rfl rfl (fun hb => ?_) (fun hb => ?_) <;> (try simp only [decide_eq_true_eq, decide_eq_false_iff_not, Bool.not_eq_true', Bool.not_eq_false', Int.not_lt, Int.not_le, Decidable.not_not, not_true_eq_false, not_false_eq_true, beq_self_eq_true, reduceCtorEq] at hb) <;> (try (exfalso; omega))))) | with_reducible refine sq_norm ?_ | with_reducible refine wc_seq ?_ | with_reducible refine wc_region ?_ | with_reducible refine wc_ret ?_ | with_reducible refine sq_ret ?_ | (refine wc_if rfl (fun hb => ?_) (fun hb => ?_) <;> (try simp only [decide_eq_true_eq, decide_eq_false_iff_not, Bool.not_eq_true', Bool.not_eq_false', Int.not_lt, Int.not_le, Decidable.not_not, not_true_eq_false, not_false_eq_true, beq_self_eq_true, reduceCtorEq] at hb) <;> (try (exfalso; omega))))
    all_goals exact rq1 rfl ⟨rfl, gr_A⟩
  · refine cf_enter0 144 [.tmp 4] Tryz.func4 rfl rfl rfl rfl ?_
    repeat' (first | with_reducible refine wo_nil ?_ | ((with_reducible refine wo_any ?_); first | ((with_reducible refine ik_move ?_); refine wo_op rfl (op_move rfl) rfl rfl ?_) | ((with_reducible refine ik_assign ?_); refine wo_op rfl (op_assign rfl) rfl rfl ?_) | ((with_reducible refine ik_un ?_); refine wo_op rfl (op_not rfl) rfl rfl ?_) | ((with_reducible refine ik_pick ?_); first | refine wo_op rfl (op_pickt rfl rfl) rfl rfl ?_ | refine wo_op rfl (op_pickf rfl rfl) rfl rfl ?_) | ((with_reducible refine ik_callF (f := 10) ?_); refine wo_op rfl (op_call rfl rfl (c10)) rfl rfl ?_) | ((with_reducible refine ik_g ?_); first | refine wo_gskip rfl rfl rfl rfl rfl rfl ?_ | ((with_reducible refine ig_move ?_); refine wo_grun rfl rfl rfl (op_move rfl) rfl rfl ?_) | ((with_reducible refine ig_un ?_); refine wo_grun rfl rfl rfl (op_not rfl) rfl rfl ?_) | ((with_reducible refine ig_callF (f := 11) ?_); refine wo_grun rfl rfl rfl (op_call rfl rfl (c11)) rfl rfl ?_) | (refine wo_gsplit rfl rfl rfl (fun hb => ?_) (fun hb => ?_) <;> (try simp only [decide_eq_true_eq, decide_eq_false_iff_not, Bool.not_eq_true', Bool.not_eq_false', Int.not_lt, Int.not_le, Decidable.not_not, not_true_eq_false, not_false_eq_true, beq_self_eq_true, reduceCtorEq] at hb) <;> (try (exfalso; omega))))) | with_reducible refine sq_norm ?_ | with_reducible refine wc_seq ?_ | with_reducible refine wc_region ?_ | with_reducible refine wc_ret ?_ | with_reducible refine sq_ret ?_ | refine wc_ift rfl ?_)
    all_goals exact rq1 rfl ⟨rfl, gr_A⟩
set_option maxHeartbeats 8000000 in
theorem c4m {a b : Option Addr} {m c n d : Nat} {t : List Int} {l : List Nat} (s : Sl G h 1 (.slice a m c) m (t.map (.int .i64))) (u : Sl G h 1 (.slice b n d) n (l.map (.float .f32))) (hS1 : m ≤ 9) (hS2 : n ≤ 32 ∨ n = 1025) (hw : Wf h) (hG : ∀ a v, laidBase a = some v → G a = some v) : Cf (mz G) (.func (.func 4) #[] #[]) [.slice a m c, .slice b n d] h fun r h' => r = .bool true ∧ Grow h h' := by
  have htl := s.length
  have hll := u.length
  simp at htl hll
  have hm6 : m < 1000000 := by omega
  have hn6 : n < 1000000 := by omega
  have q12 := fun (h' : H) (g : Grow h h') => c12 (s.grow g) hm6
  have q24 := fun (h' : H) (g : Grow h h') => c24 (u.grow g) hn6
  have q30 := fun (h' : H) (v : Value) (s' : Sl G h' 1 v m (t.map (.int .i64))) => c30 s' hm6
  obtain ⟨B, hB⟩ : ∃ B, firstNZ [tchk t, lchk l] = B := ⟨_, rfl⟩
  obtain ⟨L, hL⟩ : ∃ L, l.map smp = L := ⟨_, rfl⟩
  have q14 := fun (h' : H) (v w : Value) (s' : Sl G h' 1 v m (t.map (.int .i64))) (u' : Sl G h' 1 w n (l.map (.float .f32))) (w' : Wf h') => c14s (G := G) (h := h') s' u' hm6 hn6 w' hG
  have q17 := fun (h' : H) (v w : Value) (s' : Sl G h' 1 v m (t.map (.int .i64))) (u' : Sl G h' 1 w n (l.map (.float .f32))) (w' : Wf h') => c17s (G := G) (h := h') s' u' hm6 hn6 w' hG
  have q21 := fun (h' : H) (v w : Value) (s' : Sl G h' 1 v m (t.map (.int .i64))) (u' : Sl G h' 1 w n (l.map (.float .f32))) (w' : Wf h') => c21s (G := G) (h := h') s' u' hm6 hn6 w' hG
  have q22 := fun (h' : H) (v : Value) (s' : Sl G h' 1 v m (t.map (.int .i64))) (w' : Wf h') => c22 (G := G) (h := h') s' hm6 w' hG
  have q23 := fun (h' : H) (v : Value) (s' : Sl G h' 1 v 2 ([tchk t, lchk l].map (.int .i64))) => c23 s' (by omega)
  have q31 := fun (h' : H) (i : Option Addr × Nat × Nat) (E bad : Int) (w : Value) (LL : List Int) (q : HeardA G h' i.1 i.2.1 i.2.2 E bad w LL) (w' : Wf h') => c31 (G := G) (h := h') q w'
  rw [hB, hL] at q14 q17
  rw [hL] at q21
  rw [hB] at q23
  have hsame := resC_same (t := t) (n := m) (by omega) (fun z => (tchk_ok z).2.1)
  have hrc : tchk t = 0 → resC t m = cL t m 4 := fun z => by unfold resC; rw [if_pos z]
  have hrz : tchk t ≠ 0 → resC t m = cL t m 0 := fun z => by unfold resC; rw [if_neg z]
  obtain ⟨p0, q0, p1, q1, p2, q2, p3, q3, hC⟩ := resC_form t m
  rw [hC] at hsame hrc hrz q22
  obtain ⟨T, hT⟩ : ∃ T, tchk t = T := ⟨_, rfl⟩
  rw [hT] at q12 q30 q22 q23
  refine cf_enter0 144 [.tmp 4] Tryz.func4 rfl rfl rfl rfl ?_
  refine wc_mid (ι := Unit) (fun _ => [(0, .slice a m c), (1, .slice b n d)]) (fun _ h' => (Wf h' ∧ Grow h h')) ?_ ?_
  · repeat' (first | with_reducible refine wo_nil ?_ | ((with_reducible refine wo_any ?_); ((with_reducible refine ik_assign ?_); refine wo_op rfl (op_assign rfl) rfl rfl ?_)) | with_reducible refine wc_region ?_)
    exact ⟨rfl, (), within_lk ⟨rfl, rfl, trivial⟩, wf_A, gr_A⟩
  rintro _ ha ⟨wa, ga⟩
  refine wc_mid (ι := Unit) (fun _ => [(0, .slice a m c), (1, .slice b n d)]) (fun _ h' => (Wf h' ∧ Grow h h')) ?_ ?_
  · repeat' (first | with_reducible refine wo_nil ?_ | ((with_reducible refine wo_any ?_); first | ((with_reducible refine ik_move ?_); refine wo_op rfl (op_move rfl) rfl rfl ?_) | ((with_reducible refine ik_un ?_); refine wo_op rfl (op_not rfl) rfl rfl ?_) | ((with_reducible refine ik_pick ?_); refine wo_op rfl (op_pickf rfl rfl) rfl rfl ?_) | ((with_reducible refine ik_callF (f := 10) ?_); refine wo_op rfl (op_call rfl rfl (c10)) rfl rfl ?_) | ((with_reducible refine ik_g ?_); first | ((with_reducible refine ig_move ?_); refine wo_grun rfl rfl rfl (op_move rfl) rfl rfl ?_) | ((with_reducible refine ig_un ?_); refine wo_grun rfl rfl rfl (op_not rfl) rfl rfl ?_) | ((with_reducible refine ig_callF (f := 11) ?_); refine wo_grun rfl rfl rfl (op_call rfl rfl (c11)) rfl rfl ?_) | ((with_reducible refine ig_callF (f := 20) ?_); refine wo_grun rfl rfl rfl (op_call rfl rfl (c20)) rfl rfl ?_) | (refine wo_gsplit rfl rfl rfl (fun hb => dead_A hb) (fun hb => ?_); (try simp only [decide_eq_true_eq, decide_eq_false_iff_not, Bool.not_eq_true', Bool.not_eq_false', Int.not_lt, Int.not_le, Decidable.not_not, not_true_eq_false, not_false_eq_true, beq_self_eq_true, reduceCtorEq] at hb)))) | with_reducible refine sq_norm ?_ | with_reducible refine wc_seq ?_ | with_reducible refine wc_region ?_ | with_reducible refine wc_skip ?_ | (refine wc_if rfl (fun hb => dead_A hb) (fun hb => ?_); (try simp only [decide_eq_true_eq, decide_eq_false_iff_not, Bool.not_eq_true', Bool.not_eq_false', Int.not_lt, Int.not_le, Decidable.not_not, not_true_eq_false, not_false_eq_true, beq_self_eq_true, reduceCtorEq] at hb)))
    exact ⟨rfl, (), within_lk ⟨rfl, rfl, trivial⟩, wf_A, gr_A⟩
  clear wa ga ha
  rintro _ ha ⟨wa, ga⟩
  have la := ga.nx
  refine wc_mid (ι := Option Addr × Nat × Nat) (fun i => [(0, .slice a m c), (1, .slice b n d), (5, .slice i.1 i.2.1 i.2.2), (6, .int .i64 (madeE B (appL t L)))]) (fun i h' => (Wf h' ∧ Grow h h') ∧ MadeS G h' i n (madeE B (appL t L)) (appL t L)) ?_ ?_
  · repeat' (first | with_reducible refine wo_nil ?_ | ((with_reducible refine wo_any ?_); first | ((with_reducible refine ik_move ?_); refine wo_op rfl (op_move rfl) rfl rfl ?_) | ((with_reducible refine ik_assign ?_); refine wo_op rfl (op_assign rfl) rfl rfl ?_) | ((with_reducible refine ik_extract ?_); refine wo_op rfl (op_extract rfl rfl) rfl rfl ?_) | ((with_reducible refine ik_callF (f := 15) ?_); (refine wo_call rfl rfl rfl rfl (c15 (s.grow gr_A) hm6) rfl rfl ?_; rintro _ _ ⟨st, hq, hwt⟩; all_goals ((try (have hqn := hq.nx)); (try simp only [H.nx_push, H.nx_set, H.nx_bump] at hqn)))) | ((with_reducible refine ik_callF (f := 16) ?_); (refine wo_call rfl rfl rfl rfl (c16 (u.grow gr_A) hn6) rfl rfl ?_; rintro _ _ ⟨sf, hq, hwf⟩; all_goals ((try (have hqn := hq.nx)); (try simp only [H.nx_push, H.nx_set, H.nx_bump] at hqn)))) | ((with_reducible refine ik_callv ?_); (refine wo_call rfl rfl rfl rfl (q14 _ _ _ (st.grow gr_A) (sf.grow gr_A) wf_A) rfl rfl ?_; rintro _ _ ⟨⟨i1, rfl, m1⟩, hq⟩; all_goals ((try (have hqn := hq.nx)); (try simp only [H.nx_push, H.nx_set, H.nx_bump] at hqn))))) | with_reducible refine wc_region ?_)
    exact ⟨rfl, i1, within_lk ⟨rfl, rfl, rfl, rfl, trivial⟩, ⟨wf_A, gr_A⟩, m1.grow gr_A⟩
  clear wa ga ha la  q14
  rintro i1 ha ⟨⟨wa, ga⟩, m1⟩
  have la := ga.nx
  refine wc_mid (ι := Option Addr × Nat × Nat) (fun i => [(0, .slice a m c), (1, .slice b n d), (5, .slice i1.1 i1.2.1 i1.2.2), (6, .int .i64 (madeE B (appL t L))), (7, .slice i.1 i.2.1 i.2.2), (8, .int .i64 (undU t l))]) (fun i h' => (Wf h' ∧ Grow h h') ∧ MadeS G h' i1 n (madeE B (appL t L)) (appL t L) ∧ MadeS G h' i n (undU t l) (undL t L)) ?_ ?_
  · repeat' (first | with_reducible refine wo_nil ?_ | ((with_reducible refine wo_any ?_); first | ((with_reducible refine ik_move ?_); refine wo_op rfl (op_move rfl) rfl rfl ?_) | ((with_reducible refine ik_assign ?_); refine wo_op rfl (op_assign rfl) rfl rfl ?_) | ((with_reducible refine ik_extract ?_); refine wo_op rfl (op_extract rfl rfl) rfl rfl ?_) | ((with_reducible refine ik_callF (f := 15) ?_); (refine wo_call rfl rfl rfl rfl (c15 (s.grow gr_A) hm6) rfl rfl ?_; rintro _ _ ⟨st, hq, hwt⟩; all_goals ((try (have hqn := hq.nx)); (try simp only [H.nx_push, H.nx_set, H.nx_bump] at hqn)))) | ((with_reducible refine ik_callF (f := 16) ?_); (refine wo_call rfl rfl rfl rfl (c16 (u.grow gr_A) hn6) rfl rfl ?_; rintro _ _ ⟨sf, hq, hwf⟩; all_goals ((try (have hqn := hq.nx)); (try simp only [H.nx_push, H.nx_set, H.nx_bump] at hqn)))) | ((with_reducible refine ik_callv ?_); (refine wo_call rfl rfl rfl rfl (q21 _ _ _ (st.grow gr_A) (sf.grow gr_A) wf_A) rfl rfl ?_; rintro _ _ ⟨⟨i2, rfl, m2⟩, hq⟩; all_goals ((try (have hqn := hq.nx)); (try simp only [H.nx_push, H.nx_set, H.nx_bump] at hqn))))) | with_reducible refine wc_region ?_)
    exact ⟨rfl, i2, within_lk ⟨rfl, rfl, rfl, rfl, rfl, rfl, trivial⟩, ⟨wf_A, gr_A⟩, m1.grow gr_A, m2.grow gr_A⟩
  clear wa ga ha la m1 q21
  rintro i2 ha ⟨⟨wa, ga⟩, m1, m2⟩
  have la := ga.nx
  refine wc_mid (ι := Option Addr × Nat × Nat) (fun i => [(0, .slice a m c), (1, .slice b n d), (5, .slice i1.1 i1.2.1 i1.2.2), (6, .int .i64 (madeE B (appL t L))), (7, .slice i2.1 i2.2.1 i2.2.2), (8, .int .i64 (undU t l)), (9, .slice i.1 i.2.1 i.2.2), (10, .int .i64 (madeE B (adjL t L)))]) (fun i h' => (Wf h' ∧ Grow h h') ∧ MadeS G h' i1 n (madeE B (appL t L)) (appL t L) ∧ MadeS G h' i2 n (undU t l) (undL t L) ∧ MadeS G h' i n (madeE B (adjL t L)) (adjL t L)) ?_ ?_
  · repeat' (first | with_reducible refine wo_nil ?_ | ((with_reducible refine wo_any ?_); first | ((with_reducible refine ik_move ?_); refine wo_op rfl (op_move rfl) rfl rfl ?_) | ((with_reducible refine ik_assign ?_); refine wo_op rfl (op_assign rfl) rfl rfl ?_) | ((with_reducible refine ik_extract ?_); refine wo_op rfl (op_extract rfl rfl) rfl rfl ?_) | ((with_reducible refine ik_callF (f := 15) ?_); (refine wo_call rfl rfl rfl rfl (c15 (s.grow gr_A) hm6) rfl rfl ?_; rintro _ _ ⟨st, hq, hwt⟩; all_goals ((try (have hqn := hq.nx)); (try simp only [H.nx_push, H.nx_set, H.nx_bump] at hqn)))) | ((with_reducible refine ik_callF (f := 16) ?_); (refine wo_call rfl rfl rfl rfl (c16 (u.grow gr_A) hn6) rfl rfl ?_; rintro _ _ ⟨sf, hq, hwf⟩; all_goals ((try (have hqn := hq.nx)); (try simp only [H.nx_push, H.nx_set, H.nx_bump] at hqn)))) | ((with_reducible refine ik_callv ?_); (refine wo_call rfl rfl rfl rfl (q17 _ _ _ (st.grow gr_A) (sf.grow gr_A) wf_A) rfl rfl ?_; rintro _ _ ⟨⟨i3, rfl, m3⟩, hq⟩; all_goals ((try (have hqn := hq.nx)); (try simp only [H.nx_push, H.nx_set, H.nx_bump] at hqn))))) | with_reducible refine wc_region ?_)
    exact ⟨rfl, i3, within_lk ⟨rfl, rfl, rfl, rfl, rfl, rfl, rfl, rfl, trivial⟩, ⟨wf_A, gr_A⟩, m1.grow gr_A, m2.grow gr_A, m3.grow gr_A⟩
  clear wa ga ha la m1 m2 q17
  rintro i3 ha ⟨⟨wa, ga⟩, m1, m2, m3⟩
  have la := ga.nx
  refine wc_mid (ι := Nat) (fun p => [(0, .slice a m c), (1, .slice b n d), (5, .slice i1.1 i1.2.1 i1.2.2), (6, .int .i64 (madeE B (appL t L))), (7, .slice i2.1 i2.2.1 i2.2.2), (8, .int .i64 (undU t l)), (9, .slice i3.1 i3.2.1 i3.2.2), (10, .int .i64 (madeE B (adjL t L))), (11, .pointer (some ⟨p, 0, some 0⟩)), (12, .int .i64 T)]) (fun p h' => (Wf h' ∧ Grow h h') ∧ MadeS G h' i1 n (madeE B (appL t L)) (appL t L) ∧ MadeS G h' i2 n (undU t l) (undL t L) ∧ MadeS G h' i3 n (madeE B (adjL t L)) (adjL t L) ∧ At h' p (.cells [.complex .f64 p0 q0, .complex .f64 p1 q1, .complex .f64 p2 q2, .complex .f64 p3 q3] 41 4 false)) ?_ ?_
  · repeat' (first | with_reducible refine wo_nil ?_ | ((with_reducible refine wo_any ?_); first | ((with_reducible refine ik_move ?_); refine wo_op rfl (op_move rfl) rfl rfl ?_) | ((with_reducible refine ik_assign ?_); refine wo_op rfl (op_assign rfl) rfl rfl ?_) | ((with_reducible refine ik_extract ?_); refine wo_op rfl (op_extract rfl rfl) rfl rfl ?_) | ((with_reducible refine ik_alloc ?_); refine wo_op rfl (op_alloc zz41 zs41 rfl rfl rfl) rfl rfl ?_) | ((with_reducible refine ik_store ?_); refine wo_op0 rfl (op_stAgg rfl rfl at_A zs41 rfl rfl rfl rfl) rfl ?_) | ((with_reducible refine ik_callF (f := 15) ?_); (refine wo_call rfl rfl rfl rfl (c15 (s.grow gr_A) hm6) rfl rfl ?_; rintro _ _ ⟨st, hq, hwt⟩; all_goals ((try (have hqn := hq.nx)); (try simp only [H.nx_push, H.nx_set, H.nx_bump] at hqn)))) | ((with_reducible refine ik_callv ?_); (refine wo_call rfl rfl rfl rfl (q22 _ _ (st.grow gr_A) wf_A) rfl rfl ?_; rintro _ _ ⟨rfl, hq⟩; all_goals ((try (have hqn := hq.nx)); (try simp only [H.nx_push, H.nx_set, H.nx_bump] at hqn))))) | with_reducible refine wc_region ?_)
    exact ⟨rfl, _, within_lk ⟨rfl, rfl, rfl, rfl, rfl, rfl, rfl, rfl, rfl, rfl, trivial⟩, ⟨wf_A, gr_A⟩, m1.grow gr_A, m2.grow gr_A, m3.grow gr_A, at_A⟩
  clear wa ga ha la m1 m2 m3 q22
  rintro pp g1 ⟨⟨w1, gg⟩, m1, m2, m3, ap⟩
  have l1 := gg.nx
  have lp := ap.lt
  refine wc_mid (ι := Unit) (fun _ => [(0, .slice a m c), (1, .slice b n d), (5, .slice i1.1 i1.2.1 i1.2.2), (6, .int .i64 (madeE B (appL t L))), (7, .slice i2.1 i2.2.1 i2.2.2), (8, .int .i64 (undU t l)), (9, .slice i3.1 i3.2.1 i3.2.2), (10, .int .i64 (madeE B (adjL t L))), (11, .pointer (some ⟨pp, 0, some 0⟩)), (12, .int .i64 T), (13, .int .i64 T)]) (fun _ h' => (Wf h' ∧ Grow g1 h')) ?_ ?_
  · repeat' (first | with_reducible refine wo_nil ?_ | ((with_reducible refine wo_any ?_); first | ((with_reducible refine ik_move ?_); refine wo_op rfl (op_move rfl) rfl rfl ?_) | ((with_reducible refine ik_assign ?_); refine wo_op rfl (op_assign rfl) rfl rfl ?_) | ((with_reducible refine ik_callv ?_); refine wo_op rfl (op_call rfl rfl (q12 _ gr_A)) rfl rfl ?_)) | with_reducible refine wc_region ?_)
    exact ⟨rfl, (), within_lk ⟨rfl, rfl, rfl, rfl, rfl, rfl, rfl, rfl, rfl, rfl, rfl, trivial⟩, wf_A, gr_A⟩
  rintro _ ha ⟨wa, ga⟩
  have la := ga.nx
  refine wc_mid (ι := Unit) (fun _ => [(0, .slice a m c), (1, .slice b n d), (5, .slice i1.1 i1.2.1 i1.2.2), (6, .int .i64 (madeE B (appL t L))), (7, .slice i2.1 i2.2.1 i2.2.2), (8, .int .i64 (undU t l)), (9, .slice i3.1 i3.2.1 i3.2.2), (10, .int .i64 (madeE B (adjL t L))), (11, .pointer (some ⟨pp, 0, some 0⟩)), (12, .int .i64 T), (13, .int .i64 T), (14, .int .i64 B)]) (fun _ h' => (Wf h' ∧ Grow g1 h')) ?_ ?_
  · repeat' (first | with_reducible refine wo_nil ?_ | ((with_reducible refine wo_any ?_); first | ((with_reducible refine ik_move ?_); refine wo_op rfl (op_move rfl) rfl rfl ?_) | ((with_reducible refine ik_assign ?_); refine wo_op rfl (op_assign rfl) rfl rfl ?_) | ((with_reducible refine ik_buildSlice ?_); refine wo_op rfl (op_buildSl rfl Tryz.underlying22 zs3 zz3 rfl rfl) rfl rfl ?_) | ((with_reducible refine ik_callv ?_); first | refine wo_op rfl (op_call rfl rfl (q24 _ gr_A)) rfl rfl ?_ | refine wo_op rfl (op_call rfl rfl (q23 _ _ (Sl.ofAt (at_A) rfl (Nat.le_refl _)))) rfl rfl ?_)) | with_reducible refine wc_region ?_)
    exact ⟨rfl, (), within_lk ⟨rfl, rfl, rfl, rfl, rfl, rfl, rfl, rfl, rfl, rfl, rfl, rfl, trivial⟩, wf_A, gr_A⟩
  clear wa ga ha la
  rintro _ ha ⟨wa, ga⟩
  have la := ga.nx
  refine wc_mid (ι := Unit) (fun _ => [(0, .slice a m c), (1, .slice b n d), (5, .slice i1.1 i1.2.1 i1.2.2), (6, .int .i64 (madeE B (appL t L))), (7, .slice i2.1 i2.2.1 i2.2.2), (8, .int .i64 (undU t l)), (9, .slice i3.1 i3.2.1 i3.2.2), (10, .int .i64 (madeE B (adjL t L))), (11, .pointer (some ⟨pp, 0, some 0⟩)), (12, .int .i64 T), (13, .int .i64 T), (14, .int .i64 B), (15, .int .i64 B)]) (fun _ h' => (Wf h' ∧ Grow g1 h')) ?_ ?_
  · repeat' (first | with_reducible refine wo_nil ?_ | ((with_reducible refine wo_any ?_); first | ((with_reducible refine ik_move ?_); refine wo_op rfl (op_move rfl) rfl rfl ?_) | ((with_reducible refine ik_assign ?_); refine wo_op rfl (op_assign rfl) rfl rfl ?_)) | with_reducible refine wc_region ?_)
    exact ⟨rfl, (), within_lk ⟨rfl, rfl, rfl, rfl, rfl, rfl, rfl, rfl, rfl, rfl, rfl, rfl, rfl, trivial⟩, wf_A, gr_A⟩
  clear wa ga ha la
  rintro _ ha ⟨wa, ga⟩
  have la := ga.nx
  refine wc_mid (ι := Unit) (fun _ => [(0, .slice a m c), (1, .slice b n d), (5, .slice i1.1 i1.2.1 i1.2.2), (6, .int .i64 (madeE B (appL t L))), (7, .slice i2.1 i2.2.1 i2.2.2), (8, .int .i64 (undU t l)), (9, .slice i3.1 i3.2.1 i3.2.2), (10, .int .i64 (madeE B (adjL t L))), (11, .pointer (some ⟨pp, 0, some 0⟩)), (12, .int .i64 T), (13, .int .i64 T), (14, .int .i64 B), (15, .int .i64 B), (16, .slice none 0 0), (17, .slice none 0 0), (18, .slice none 0 0)]) (fun _ h' => (Wf h' ∧ Grow g1 h')) ?_ ?_
  · repeat' (first | with_reducible refine wo_nil ?_ | ((with_reducible refine wo_any ?_); ((with_reducible refine ik_assign ?_); refine wo_op rfl (op_assign rfl) rfl rfl ?_)) | with_reducible refine wc_region ?_)
    exact ⟨rfl, (), within_lk ⟨rfl, rfl, rfl, rfl, rfl, rfl, rfl, rfl, rfl, rfl, rfl, rfl, rfl, rfl, rfl, rfl, trivial⟩, wf_A, gr_A⟩
  clear wa ga ha la
  rintro _ ha ⟨wa, ga⟩
  have la := ga.nx
  refine wc_mid (ι := Nat) (fun p => [(0, .slice a m c), (1, .slice b n d), (5, .slice i1.1 i1.2.1 i1.2.2), (6, .int .i64 (madeE B (appL t L))), (7, .slice i2.1 i2.2.1 i2.2.2), (8, .int .i64 (undU t l)), (9, .slice i3.1 i3.2.1 i3.2.2), (10, .int .i64 (madeE B (adjL t L))), (11, .pointer (some ⟨pp, 0, some 0⟩)), (12, .int .i64 T), (13, .int .i64 T), (14, .int .i64 B), (15, .int .i64 B), (16, .slice none 0 0), (17, .slice none 0 0), (18, .slice none 0 0), (19, .pointer (some ⟨p, 0, some 0⟩))]) (fun p h' => (Wf h' ∧ Grow g1 h') ∧ At h' p (.cells [.complex .f64 0 0, .complex .f64 0 0, .complex .f64 0 0, .complex .f64 0 0] 41 4 false) ∧ g1.nx ≤ p) ?_ ?_
  · repeat' (first | with_reducible refine wo_nil ?_ | ((with_reducible refine wo_any ?_); ((with_reducible refine ik_alloc ?_); refine wo_op rfl (op_alloc zz41 zs41 rfl rfl rfl) rfl rfl ?_)) | with_reducible refine wc_region ?_)
    exact ⟨rfl, _, within_lk ⟨rfl, rfl, rfl, rfl, rfl, rfl, rfl, rfl, rfl, rfl, rfl, rfl, rfl, rfl, rfl, rfl, rfl, trivial⟩, ⟨wf_A, gr_A⟩, at_A, la⟩
  clear wa ga ha la
  rintro pz g2 ⟨⟨w2, gg2⟩, az, hpz⟩
  have l2 := gg2.nx
  have lz := az.lt
  refine wc_mid (ι := (Option Addr × Nat × Nat) × (Option Addr × Nat × Nat) × (Option Addr × Nat × Nat) × Int) (fun i => [(0, .slice a m c), (1, .slice b n d), (5, .slice i1.1 i1.2.1 i1.2.2), (6, .int .i64 (madeE B (appL t L))), (7, .slice i2.1 i2.2.1 i2.2.2), (8, .int .i64 (undU t l)), (9, .slice i3.1 i3.2.1 i3.2.2), (10, .int .i64 (madeE B (adjL t L))), (11, .pointer (some ⟨pp, 0, some 0⟩)), (12, .int .i64 T), (13, .int .i64 T), (14, .int .i64 B), (15, .int .i64 i.2.2.2), (16, .slice i.1.1 i.1.2.1 i.1.2.2), (17, .slice i.2.1.1 i.2.1.2.1 i.2.1.2.2), (18, .slice i.2.2.1.1 i.2.2.1.2.1 i.2.2.1.2.2), (19, .pointer (some ⟨pz, 0, some 0⟩))]) (fun i h' => (Wf h' ∧ Grow g2 h') ∧ HeardA G h' i1.1 i1.2.1 i1.2.2 (madeE B (appL t L)) B (.slice i.1.1 i.1.2.1 i.1.2.2) (appL t L) ∧ HeardA G h' i2.1 i2.2.1 i2.2.2 (undU t l) i.2.2.2 (.slice i.2.1.1 i.2.1.2.1 i.2.1.2.2) (undL t L) ∧ HeardA G h' i3.1 i3.2.1 i3.2.2 (madeE B (adjL t L)) B (.slice i.2.2.1.1 i.2.2.1.2.1 i.2.2.1.2.2) (adjL t L)) ?_ ?_
  · by_cases hB0 : B = 0
    · subst hB0
      have hz2 := firstNZ_zero hB
      have z1 : tchk t = 0 := hz2 _ (by simp)
      have z2 : lchk l = 0 := hz2 _ (by simp)
      obtain ⟨k1, k2⟩ := lchk_ok z2
      obtain ⟨k3, k4, k5⟩ := tchk_ok z1
      have hb := smp_bound k2
      have hU2 := fun (h' : H) (j : Option Addr × Nat × Nat) (two : Int) (r : UndR G h' (.tuple #[.slice j.1 j.2.1 j.2.2, .int .i64 two]) n t (l.map smp)) (m' : MadeS G h' i2 n (undU t l) (undL t (l.map smp))) => heard_und (G := G) (h := h') hn6 hB r m'
      rw [hL] at hb hU2
      have q25 := fun (h' : H) (g : Grow h h') (w' : Wf h') => c25 (u.grow g) hn6 k2 w'
      rw [hL] at q25
      have q26 := fun (h' : H) (w : Value) (g : Grow h h') (u' : Sl G h' 1 w n (L.map (.int .i64))) (w' : Wf h') => c26 (s.grow g) u' hn6 (by omega) k4 hb w'
      have q27 := fun (h' : H) (w : Value) (g : Grow h h') (u' : Sl G h' 1 w n (L.map (.int .i64))) (w' : Wf h') => c27 (s.grow g) u' hn6 (by omega) k4 hb w'
      have q28 := fun (h' : H) (w : Value) (g : Grow h h') (u' : Sl G h' 1 w n (L.map (.int .i64))) (w' : Wf h') => c28s (s.grow g) u' (by omega) (by omega) (by omega) k4 hb w'
      repeat' (first | with_reducible refine wo_nil ?_ | ((with_reducible refine wo_any ?_); first | ((with_reducible refine ik_move ?_); refine wo_op rfl (op_move rfl) rfl rfl ?_) | ((with_reducible refine ik_assign ?_); refine wo_op rfl (op_assign rfl) rfl rfl ?_) | ((with_reducible refine ik_extract ?_); refine wo_op rfl (op_extract rfl rfl) rfl rfl ?_) | ((with_reducible refine ik_bin ?_); refine wo_op rfl (op_eql rfl rfl) rfl rfl ?_) | ((with_reducible refine ik_callv ?_); first | (refine wo_call rfl rfl rfl rfl (q25 _ gr_A wf_A) rfl rfl ?_; rintro _ _ ⟨⟨x0, y0, rfl, sw⟩, hq⟩; all_goals ((try (have hqn := hq.nx)); (try simp only [H.nx_push, H.nx_set, H.nx_bump] at hqn))) | (refine wo_call rfl rfl rfl rfl (q26 _ _ gr_A (sw.grow gr_A) wf_A) rfl rfl ?_; rintro _ _ ⟨⟨x1, y1, rfl, s16⟩, hq⟩; all_goals ((try (have hqn := hq.nx)); (try simp only [H.nx_push, H.nx_set, H.nx_bump] at hqn))) | (refine wo_call rfl rfl rfl rfl (q27 _ _ gr_A (sw.grow gr_A) wf_A) rfl rfl ?_; rintro _ _ ⟨⟨x3, y3, rfl, s18⟩, hq⟩; all_goals ((try (have hqn := hq.nx)); (try simp only [H.nx_push, H.nx_set, H.nx_bump] at hqn))) | (refine wo_call rfl rfl rfl rfl (q28 _ _ gr_A (sw.grow gr_A) wf_A) rfl rfl ?_; rintro _ _ ⟨⟨j2, two, rfl, s17⟩, hq⟩; all_goals ((try (have hqn := hq.nx)); (try simp only [H.nx_push, H.nx_set, H.nx_bump] at hqn))))) | with_reducible refine sq_norm ?_ | with_reducible refine wc_seq ?_ | with_reducible refine wc_region ?_ | refine wc_ift rfl ?_)
      exact ⟨rfl, ((x1, n, y1), j2, (x3, n, y3), two), within_lk ⟨rfl, rfl, rfl, rfl, rfl, rfl, rfl, rfl, rfl, rfl, rfl, rfl, rfl, rfl, rfl, rfl, rfl, trivial⟩, ⟨wf_A, gr_A⟩, heard_good hn6 (s16.grow gr_A) (m1.grow gr_A), hU2 _ _ _ (s17.grow gr_A) (m2.grow gr_A), heard_good hn6 (s18.grow gr_A) (m3.grow gr_A)⟩
    · have H2 : undU t l = B := by unfold undU; rw [if_pos (by rw [hB]; exact hB0), hB]
      have M2 := m2
      rw [H2] at M2
      repeat' (first | with_reducible refine wo_nil ?_ | ((with_reducible refine wo_any ?_); first | ((with_reducible refine ik_move ?_); refine wo_op rfl (op_move rfl) rfl rfl ?_) | ((with_reducible refine ik_bin ?_); refine wo_op rfl (op_eql rfl rfl) rfl rfl ?_)) | with_reducible refine sq_norm ?_ | with_reducible refine wc_seq ?_ | with_reducible refine wc_region ?_ | with_reducible refine wc_skip ?_ | (refine wc_if rfl (fun hb => dead_A hb) (fun hb => ?_); (try simp only [decide_eq_true_eq, decide_eq_false_iff_not, Bool.not_eq_true', Bool.not_eq_false', Int.not_lt, Int.not_le, Decidable.not_not, not_true_eq_false, not_false_eq_true, beq_self_eq_true, reduceCtorEq] at hb)))
      refine ⟨rfl, ((none, 0, 0), (none, 0, 0), (none, 0, 0), B), within_lk ⟨rfl, rfl, rfl, rfl, rfl, rfl, rfl, rfl, rfl, rfl, rfl, rfl, rfl, rfl, rfl, rfl, rfl, trivial⟩, ⟨wf_A, gr_A⟩, heard_bad hB0 (m1.grow gr_A), ?_, heard_bad hB0 (m3.grow gr_A)⟩
      rw [H2]
      exact heard_zero hB0 (M2.grow gr_A)
  clear m1 m2 m3 w2 l2 lz
  rintro ⟨j1, j2, j3, two⟩ g3 ⟨⟨w3, gg3⟩, H1, H2, H3⟩
  simp only at H1 H2 H3 ⊢
  have az := az.grow gg3
  have gg4 := gg2.trans gg3
  clear gg2 gg3
  have l3 := gg4.nx
  have lz := az.lt
  refine wc_mid (ι := Unit) (fun _ => [(0, .slice a m c), (1, .slice b n d), (5, .slice i1.1 i1.2.1 i1.2.2), (6, .int .i64 (madeE B (appL t L))), (7, .slice i2.1 i2.2.1 i2.2.2), (8, .int .i64 (undU t l)), (9, .slice i3.1 i3.2.1 i3.2.2), (10, .int .i64 (madeE B (adjL t L))), (11, .pointer (some ⟨pp, 0, some 0⟩)), (12, .int .i64 T), (13, .int .i64 T), (14, .int .i64 B), (15, .int .i64 two), (16, .slice j1.1 j1.2.1 j1.2.2), (17, .slice j2.1 j2.2.1 j2.2.2), (18, .slice j3.1 j3.2.1 j3.2.2), (19, .pointer (some ⟨pz, 0, some 0⟩))]) (fun _ h' => (Wf h' ∧ Grow g1 h') ∧ At h' pp (.cells [.complex .f64 p0 q0, .complex .f64 p1 q1, .complex .f64 p2 q2, .complex .f64 p3 q3] 41 4 false) ∧ At h' pz (.cells [.complex .f64 p0 q0, .complex .f64 p1 q1, .complex .f64 p2 q2, .complex .f64 p3 q3] 41 4 false) ∧ HeardA G h' i1.1 i1.2.1 i1.2.2 (madeE B (appL t L)) B (.slice j1.1 j1.2.1 j1.2.2) (appL t L) ∧ HeardA G h' i2.1 i2.2.1 i2.2.2 (undU t l) two (.slice j2.1 j2.2.1 j2.2.2) (undL t L) ∧ HeardA G h' i3.1 i3.2.1 i3.2.2 (madeE B (adjL t L)) B (.slice j3.1 j3.2.1 j3.2.2) (adjL t L)) ?_ ?_
  · by_cases hT0 : T = 0
    · obtain ⟨k3, k4, k5⟩ := tchk_ok (hT.trans hT0)
      rw [hrc (hT.trans hT0)]
      have ap := ap.grow gg4
      rw [hrc (hT.trans hT0)] at ap
      have hC0 : cL t m 0 = [.complex .f64 0 0, .complex .f64 0 0, .complex .f64 0 0, .complex .f64 0 0] := by unfold cL; rfl
      repeat' (first | with_reducible refine wo_nil ?_ | ((with_reducible refine wo_any ?_); first | ((with_reducible refine ik_move ?_); refine wo_op rfl (op_move rfl) rfl rfl ?_) | ((with_reducible refine ik_bin ?_); refine wo_op rfl (op_eql rfl rfl) rfl rfl ?_)) | with_reducible refine sq_norm ?_ | with_reducible refine wc_seq ?_ | with_reducible refine wc_region ?_ | with_reducible refine wc_block ?_ | (refine wc_if rfl (fun hb => ?_) (fun hb => dead_A hb); (try simp only [decide_eq_true_eq, decide_eq_false_iff_not, Bool.not_eq_true', Bool.not_eq_false', Int.not_lt, Int.not_le, Decidable.not_not, not_true_eq_false, not_false_eq_true, beq_self_eq_true, reduceCtorEq] at hb)))
      refine wc_loop (fun k : Nat => 4 - k) (fun k => [(0, .slice a m c), (1, .slice b n d), (5, .slice i1.1 i1.2.1 i1.2.2), (6, .int .i64 (madeE B (appL t L))), (7, .slice i2.1 i2.2.1 i2.2.2), (8, .int .i64 (undU t l)), (9, .slice i3.1 i3.2.1 i3.2.2), (10, .int .i64 (madeE B (adjL t L))), (11, .pointer (some ⟨pp, 0, some 0⟩)), (12, .int .i64 T), (13, .int .i64 T), (14, .int .i64 B), (15, .int .i64 two), (16, .slice j1.1 j1.2.1 j1.2.2), (17, .slice j2.1 j2.2.1 j2.2.2), (18, .slice j3.1 j3.2.1 j3.2.2), (19, .pointer (some ⟨pz, 0, some 0⟩)), (92, .int .i64 (k : Nat))]) (fun k h' => ((Wf h' ∧ Grow g1 h') ∧ At h' pp (.cells (cL t m 4) 41 4 false) ∧ At h' pz (.cells (cL t m k) 41 4 false) ∧ HeardA G h' i1.1 i1.2.1 i1.2.2 (madeE B (appL t L)) B (.slice j1.1 j1.2.1 j1.2.2) (appL t L) ∧ HeardA G h' i2.1 i2.2.1 i2.2.2 (undU t l) two (.slice j2.1 j2.2.1 j2.2.2) (undL t L) ∧ HeardA G h' i3.1 i3.2.1 i3.2.2 (madeE B (adjL t L)) B (.slice j3.1 j3.2.1 j3.2.2) (adjL t L)) ∧ k ≤ 4) 0 (within_lk ⟨rfl, rfl, rfl, rfl, rfl, rfl, rfl, rfl, rfl, rfl, rfl, rfl, rfl, rfl, rfl, rfl, rfl, rfl, trivial⟩) ⟨⟨⟨wf_A, gr_A⟩, at_A, by rw [hC0]; exact at_A, H1.grow gr_A, H2.grow gr_A, H3.grow gr_A⟩, Nat.zero_le _⟩ ?_
      clear H1 H2 H3 az w3 gg4 l3 lz ap
      rintro k ha ⟨⟨⟨wa, ga⟩, ap, az, H1, H2, H3⟩, hk⟩
      have la := ga.nx
      have lz := az.lt
      by_cases hk4 : k < 4
      · have zl := cL_len t m k
        have zn : cL t m (k + 1) = (cL t m k).set k (.complex .f64 (FloatKind.nearest .f64 (resR t k m)) (FloatKind.nearest .f64 (resI t k m))) := by rw [cL, cxv]; unfold fz; rfl
        have q29 := fun (h' : H) (g : Grow h h') (w' : Wf h') => c29 (k := k) (s.grow g) (by omega) (by omega) k4 w'
        obtain ⟨P, hP⟩ : ∃ z, resR t k m = z := ⟨_, rfl⟩
        obtain ⟨Q, hQ⟩ : ∃ z, resI t k m = z := ⟨_, rfl⟩
        rw [hP, hQ] at zn q29
        obtain ⟨LL, hLL⟩ : ∃ LL, cL t m k = LL := ⟨_, rfl⟩
        rw [hLL] at az zl zn
        repeat' (first | with_reducible refine wo_nil ?_ | ((with_reducible refine wo_any ?_); first | ((with_reducible refine ik_move ?_); refine wo_op rfl (op_move rfl) rfl rfl ?_) | ((with_reducible refine ik_assign ?_); refine wo_op rfl (op_assign rfl) rfl rfl ?_) | ((with_reducible refine ik_convert ?_); refine wo_op rfl (op_cvif rfl Tryz.underlying3 Tryz.underlying52 rfl) rfl rfl ?_) | ((with_reducible refine ik_callb ?_); refine wo_op rfl (op_bcx rfl rfl) rfl rfl ?_) | ((with_reducible refine ik_indexAddr ?_); refine wo_op rfl (op_idxArrO (b := pz) (off := 0) (o := k) rfl rfl Tryz.underlying41 zs40 (by omega) (by omega) (by omega)) rfl rfl ?_) | ((with_reducible refine ik_store ?_); first | refine wo_op0 rfl (op_stIdx (b := pz) (o := k) rfl rfl at_A rfl zs40 (by omega) rfl rfl) rfl ?_ | refine wo_op0 rfl (op_stAgg rfl rfl at_A zs50 rfl rfl rfl rfl) rfl ?_) | ((with_reducible refine ik_alloc ?_); refine wo_op rfl (op_alloc zz50 zs50 rfl rfl rfl) rfl rfl ?_) | ((with_reducible refine ik_bin ?_); first | refine wo_op rfl (op_lss rfl rfl) rfl rfl ?_ | refine wo_op rfl (op_add' rfl rfl (w64 (by omega) (by omega))) rfl rfl ?_) | ((with_reducible refine ik_fieldAddr ?_); first | refine wo_op rfl (op_fieldAddr (o := 0) rfl Tryz.underlying50 rfl zs3 rfl) rfl rfl ?_ | refine wo_op rfl (op_fieldAddr (o := 1) rfl Tryz.underlying50 rfl zs3 rfl) rfl rfl ?_) | ((with_reducible refine ik_load ?_); refine wo_op rfl (op_ldAt rfl at_A Tryz.underlying3 rfl rfl) rfl rfl ?_) | ((with_reducible refine ik_callv ?_); (refine wo_call rfl rfl rfl rfl (q29 _ (gg.trans gr_A) wf_A) rfl rfl ?_; rintro _ _ ⟨rfl, hq⟩; all_goals ((try (have hqn := hq.nx)); (try simp only [H.nx_push, H.nx_set, H.nx_bump] at hqn))))) | with_reducible refine sq_norm ?_ | with_reducible refine wc_seq ?_ | with_reducible refine wc_region ?_ | with_reducible refine wc_skip ?_ | with_reducible refine wc_block ?_ | with_reducible refine bq_norm ?_ | (refine wc_if rfl (fun hb => ?_) (fun hb => dead_A hb); (try simp only [decide_eq_true_eq, decide_eq_false_iff_not, Bool.not_eq_true', Bool.not_eq_false', Int.not_lt, Int.not_le, Decidable.not_not, not_true_eq_false, not_false_eq_true, beq_self_eq_true, reduceCtorEq] at hb)))
        exact lq_norm (k + 1) (by omega) (within_lk ⟨rfl, rfl, rfl, rfl, rfl, rfl, rfl, rfl, rfl, rfl, rfl, rfl, rfl, rfl, rfl, rfl, rfl, rfl, trivial⟩) ⟨⟨⟨wf_A, gr_A⟩, at_A, by rw [zn]; exact at_A, HeardA.set_ne (H1.grow gr_A) (show At _ pz (.cells LL 41 4 false) from at_A) _, HeardA.set_ne (H2.grow gr_A) (show At _ pz (.cells LL 41 4 false) from at_A) _, HeardA.set_ne (H3.grow gr_A) (show At _ pz (.cells LL 41 4 false) from at_A) _⟩, by omega⟩
      · have : k = 4 := by omega
        subst this
        repeat' (first | with_reducible refine wo_nil ?_ | ((with_reducible refine wo_any ?_); ((with_reducible refine ik_bin ?_); refine wo_op rfl (op_lss rfl rfl) rfl rfl ?_)) | with_reducible refine sq_norm ?_ | with_reducible refine wc_seq ?_ | with_reducible refine wc_region ?_ | with_reducible refine wc_exit ?_ | with_reducible refine sq_exit ?_ | with_reducible refine lq_exit ?_ | refine bq_eq rfl ?_ | refine wc_iff rfl ?_)
        exact ⟨rfl, (), within_lk ⟨rfl, rfl, rfl, rfl, rfl, rfl, rfl, rfl, rfl, rfl, rfl, rfl, rfl, rfl, rfl, rfl, rfl, trivial⟩, ⟨wf_A, gr_A⟩, at_A, at_A, H1.grow gr_A, H2.grow gr_A, H3.grow gr_A⟩
    · have hz := hrz (by rw [hT]; exact hT0)
      have hC0 : cL t m 0 = [.complex .f64 0 0, .complex .f64 0 0, .complex .f64 0 0, .complex .f64 0 0] := by unfold cL; rfl
      rw [hz, hC0]
      have ap := ap.grow gg4
      rw [hz, hC0] at ap
      repeat' (first | with_reducible refine wo_nil ?_ | ((with_reducible refine wo_any ?_); first | ((with_reducible refine ik_move ?_); refine wo_op rfl (op_move rfl) rfl rfl ?_) | ((with_reducible refine ik_bin ?_); refine wo_op rfl (op_eql rfl rfl) rfl rfl ?_)) | with_reducible refine sq_norm ?_ | with_reducible refine wc_seq ?_ | with_reducible refine wc_region ?_ | with_reducible refine wc_skip ?_ | (refine wc_if rfl (fun hb => dead_A hb) (fun hb => ?_); (try simp only [decide_eq_true_eq, decide_eq_false_iff_not, Bool.not_eq_true', Bool.not_eq_false', Int.not_lt, Int.not_le, Decidable.not_not, not_true_eq_false, not_false_eq_true, beq_self_eq_true, reduceCtorEq] at hb)))
      exact ⟨rfl, (), within_lk ⟨rfl, rfl, rfl, rfl, rfl, rfl, rfl, rfl, rfl, rfl, rfl, rfl, rfl, rfl, rfl, rfl, rfl, trivial⟩, ⟨wf_A, gr_A⟩, at_A, at_A, H1.grow gr_A, H2.grow gr_A, H3.grow gr_A⟩
  clear H1 H2 H3 az w3 gg4 l3 lz ap
  rintro _ g4 ⟨⟨w4, gg4⟩, ap, az, H1, H2, H3⟩
  have l4 := gg4.nx
  repeat' (first | with_reducible refine wo_nil ?_ | ((with_reducible refine wo_any ?_); first | ((with_reducible refine ik_move ?_); refine wo_op rfl (op_move rfl) rfl rfl ?_) | ((with_reducible refine ik_assign ?_); refine wo_op rfl (op_assign rfl) rfl rfl ?_) | ((with_reducible refine ik_bin ?_); refine wo_op rfl (op_eql rfl rfl) rfl rfl ?_) | ((with_reducible refine ik_pick ?_); refine wo_op rfl (op_pickt rfl rfl) rfl rfl ?_) | ((with_reducible refine ik_callv ?_); refine wo_op rfl (op_call rfl rfl (q30 _ _ (st.grow gr_A))) rfl rfl ?_) | ((with_reducible refine ik_callF (f := 15) ?_); (refine wo_call rfl rfl rfl rfl (c15 (s.grow (gg.trans gr_A)) hm6) rfl rfl ?_; rintro _ _ ⟨st, hq, hwt⟩; all_goals ((try (have hqn := hq.nx)); (try simp only [H.nx_push, H.nx_set, H.nx_bump] at hqn)))) | ((with_reducible refine ik_g ?_); first | ((with_reducible refine ig_move ?_); refine wo_grun rfl rfl rfl (op_move rfl) rfl rfl ?_) | ((with_reducible refine ig_bin ?_); first | refine wo_grun rfl rfl rfl (op_eqT41 rfl rfl rfl rfl hsame) rfl rfl ?_ | refine wo_grun rfl rfl rfl (op_eql rfl rfl) rfl rfl ?_) | ((with_reducible refine ig_load ?_); refine wo_grun rfl rfl rfl (op_ldAgg rfl at_A Tryz.underlying41 rfl zs41 rfl rfl) rfl rfl ?_) | ((with_reducible refine ig_callv ?_); first | (refine wo_gcall rfl rfl rfl rfl rfl rfl (q31 _ _ _ _ _ _ (H1.grow gr_A) wf_A) rfl rfl ?_; rintro _ _ ⟨rfl, hq⟩; all_goals ((try (have hqn := hq.nx)); (try simp only [H.nx_push, H.nx_set, H.nx_bump] at hqn))) | (refine wo_gcall rfl rfl rfl rfl rfl rfl (q31 _ _ _ _ _ _ (H2.grow gr_A) wf_A) rfl rfl ?_; rintro _ _ ⟨rfl, hq⟩; all_goals ((try (have hqn := hq.nx)); (try simp only [H.nx_push, H.nx_set, H.nx_bump] at hqn))) | (refine wo_gcall rfl rfl rfl rfl rfl rfl (q31 _ _ _ _ _ _ (H3.grow gr_A) wf_A) rfl rfl ?_; rintro _ _ ⟨rfl, hq⟩; all_goals ((try (have hqn := hq.nx)); (try simp only [H.nx_push, H.nx_set, H.nx_bump] at hqn)))) | (refine wo_gsplit rfl rfl rfl (fun hb => ?_) (fun hb => (of_decide_eq_false hb rfl).elim); (try simp only [decide_eq_true_eq, decide_eq_false_iff_not, Bool.not_eq_true', Bool.not_eq_false', Int.not_lt, Int.not_le, Decidable.not_not, not_true_eq_false, not_false_eq_true, beq_self_eq_true, reduceCtorEq] at hb)))) | with_reducible refine sq_norm ?_ | with_reducible refine wc_seq ?_ | with_reducible refine wc_region ?_ | with_reducible refine wc_ret ?_)
  exact rq1 rfl ⟨by simp, gr_A⟩
theorem c4 {a b : Option Addr} {m c n d : Nat} {t : List Int} {l : List Nat} (s : Sl G h 1 (.slice a m c) m (t.map (.int .i64))) (u : Sl G h 1 (.slice b n d) n (l.map (.float .f32))) (hw : Wf h) (hG : ∀ a v, laidBase a = some v → G a = some v) : Cf (mz G) (.func (.func 4) #[] #[]) [.slice a m c, .slice b n d] h fun r h' => r = .bool true ∧ Grow h h' := by
  by_cases hS : m ≤ 9 ∧ (n ≤ 32 ∨ n = 1025)
  · exact c4m s u hS.1 hS.2 hw hG
  · exact c4n hS hw
end Go.Proofs.YtccdcekcbbpohaaGreatDoor
