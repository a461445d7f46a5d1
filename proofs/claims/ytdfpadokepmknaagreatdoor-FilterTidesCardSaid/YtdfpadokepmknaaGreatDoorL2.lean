/- The law FilterTides, walked. -/
import Derived.Test.YtdfpadokepmknaaGreatDoorT2
set_option linter.all false
/- The law FilterTides, walked. -/
namespace Go.Proofs.YtdfpadokepmknaaGreatDoor
open Go Go.Ab Go.Fl
attribute [local irreducible] SeqQ BlkQ LpQ RetQ Wc Wo WD WX Op1 Op1q Op1a Cf Cl From
attribute [local irreducible] Ieee.Format.order Ieee.Format.read Ieee.Format.nearest Ieee.Format.write Ieee.Format.mul Ieee.Format.div Ieee.Datum.order Ieee.Datum.integral smpE smp smpW K J U sumN lchk tchk trE hdrE appL undL undA undI wr ghoL rnd mulL dghL dghA rngE notN innL lowN lowD madeE pairE subL subF anyLarge subE remE difL rowE tidE errT lvl lvN lvD firstNZ
set_option maxRecDepth 10000
variable {G : Base} {h : H}

def LevS (ts : List (Int × Int)) (tick E p q : Int) : Prop := (E ≠ 0 ∧ p = 0 ∧ q = 0) ∨ (E = 0 ∧ LevP ts tick (ratV p q))
set_option maxHeartbeats 4000000 in
theorem c56 {v : Value} {n : Nat} {tick : Int} {ts : List (Int × Int)} (s : Sl G h 2 v n (ts.flatMap tidC)) (hw : Wf h) : Cf (mz G) (.func (.func 56) #[] #[]) [v, .int .i64 tick] h fun r h' => (∃ p q, r = .tuple #[ratV p q, .int .i64 (firstNZ [tidE ts, rngE tick 0 100000])] ∧ LevS ts tick (firstNZ [tidE ts, rngE tick 0 100000]) p q) ∧ Grow h h' := by
  have q60 := fun (h' : H) (g : Grow h h') (w' : Wf h') => c60 (s.grow g) w'
  have q101 := fun (h' : H) (ok : TidOk ts) (a : 0 ≤ tick) (b : tick ≤ 100000) (g : Grow h h') (w' : Wf h') => c101 (s.grow g) ok a b w'
  have q100 := fun (h' : H) => c100 (G := G) (h := h') tick
  have q72 := fun (h' : H) (v : Value) (s : Sl G h' 1 v 2 ([tidE ts, rngE tick 0 100000].map (.int .i64))) => c72 s (by omega)
  obtain ⟨a, c, rfl⟩ := s.form
  obtain ⟨T, hT⟩ : ∃ T, tidE ts = T := ⟨_, rfl⟩
  obtain ⟨K, hK⟩ : ∃ K, rngE tick 0 100000 = K := ⟨_, rfl⟩
  obtain ⟨E, hE⟩ : ∃ E, firstNZ [T, K] = E := ⟨_, rfl⟩
  rw [hT] at q60 q72
  rw [hK] at q100 q72
  rw [hT, hK]
  rw [hE] at q72 ⊢
  by_cases hz : E = 0
  · subst hz
    have z := firstNZ_zero hE
    have zT : T = 0 := z _ (by simp)
    have zK : K = 0 := z _ (by simp)
    have ok := tid_ok (hT.trans zT)
    have hr := rng_ok (hK.trans zK)
    refine cf_enter0 20 [.cell 4 65, .tmp 5] Tryz.func56 rfl rfl rfl rfl ?_
    repeat' (first | with_reducible refine wo_nil ?_ | ((with_reducible refine wo_any ?_); first | ((with_reducible refine ik_move ?_); refine wo_op rfl (op_move rfl) rfl rfl ?_) | ((with_reducible refine ik_assign ?_); refine wo_op rfl (op_assign rfl) rfl rfl ?_) | ((with_reducible refine ik_alloc ?_); refine wo_op rfl (op_alloc zz65 zs65 rfl rfl rfl) rfl rfl ?_) | ((with_reducible refine ik_buildSlice ?_); refine wo_op rfl (op_buildSl rfl Tryz.underlying163 zs29 zz29 rfl rfl) rfl rfl ?_) | ((with_reducible refine ik_bin ?_); refine wo_op rfl (op_neq rfl rfl) rfl rfl ?_) | ((with_reducible refine ik_store ?_); refine wo_op0 rfl (op_stAgg rfl rfl at_A zs65 rfl rfl rfl rfl) rfl ?_) | ((with_reducible refine ik_callv ?_); first | refine wo_op rfl (op_call rfl rfl (q100 _)) rfl rfl ?_ | refine wo_op rfl (op_call rfl rfl (q72 _ _ (Sl.ofAt (show At _ _ (.cells [.int .i64 T, .int .i64 K] 29 1 false) from at_A) rfl (Nat.le_refl _)))) rfl rfl ?_ | (refine wo_call rfl rfl rfl rfl (q60 _ gr_A wf_A) rfl rfl ?_; rintro _ _ ⟨rfl, hq⟩; all_goals ((try (have hqn := hq.nx)); (try simp only [H.nx_push, H.nx_set, H.nx_bump] at hqn))) | (refine wo_call rfl rfl rfl rfl (q101 _ ok hr.1 hr.2 gr_A wf_A) rfl rfl ?_; rintro _ _ ⟨⟨j, y1, y2, y3, rfl⟩, hq⟩; all_goals ((try (have hqn := hq.nx)); (try simp only [H.nx_push, H.nx_set, H.nx_bump] at hqn))))) | with_reducible refine sq_norm ?_ | with_reducible refine wc_seq ?_ | with_reducible refine wc_region ?_ | with_reducible refine wc_skip ?_ | with_reducible refine wc_ret ?_ | refine wc_iff rfl ?_)
    exact rqc2 rfl (ldAgg at_A Tryz.underlying65 rfl zs65 rfl rfl) rfl ⟨⟨_, _, rfl, .inr ⟨rfl, ⟨j, y1, y2, y3, rfl⟩⟩⟩, gr_A⟩
  · refine cf_enter0 20 [.cell 4 65, .tmp 5] Tryz.func56 rfl rfl rfl rfl ?_
    repeat' (first | with_reducible refine wo_nil ?_ | ((with_reducible refine wo_any ?_); first | ((with_reducible refine ik_move ?_); refine wo_op rfl (op_move rfl) rfl rfl ?_) | ((with_reducible refine ik_assign ?_); refine wo_op rfl (op_assign rfl) rfl rfl ?_) | ((with_reducible refine ik_alloc ?_); refine wo_op rfl (op_alloc zz65 zs65 rfl rfl rfl) rfl rfl ?_) | ((with_reducible refine ik_buildSlice ?_); refine wo_op rfl (op_buildSl rfl Tryz.underlying163 zs29 zz29 rfl rfl) rfl rfl ?_) | ((with_reducible refine ik_bin ?_); refine wo_op rfl (op_neq rfl rfl) rfl rfl ?_) | ((with_reducible refine ik_build ?_); refine wo_op rfl (op_buildT rfl zz65 zp65 rfl rfl) rfl rfl ?_) | ((with_reducible refine ik_store ?_); refine wo_op0 rfl (op_stAgg rfl rfl at_A zs65 rfl rfl rfl rfl) rfl ?_) | ((with_reducible refine ik_callv ?_); first | refine wo_op rfl (op_call rfl rfl (q100 _)) rfl rfl ?_ | refine wo_op rfl (op_call rfl rfl (q72 _ _ (Sl.ofAt (show At _ _ (.cells [.int .i64 T, .int .i64 K] 29 1 false) from at_A) rfl (Nat.le_refl _)))) rfl rfl ?_ | (refine wo_call rfl rfl rfl rfl (q60 _ gr_A wf_A) rfl rfl ?_; rintro _ _ ⟨rfl, hq⟩; all_goals ((try (have hqn := hq.nx)); (try simp only [H.nx_push, H.nx_set, H.nx_bump] at hqn))))) | with_reducible refine sq_norm ?_ | with_reducible refine wc_seq ?_ | with_reducible refine wc_region ?_ | with_reducible refine wc_ret ?_ | with_reducible refine sq_ret ?_ | (refine wc_if rfl (fun hb => ?_) (fun hb => dead_A hb); (try simp only [decide_eq_true_eq, decide_eq_false_iff_not, Bool.not_eq_true', Bool.not_eq_false', Int.not_lt, Int.not_le, Decidable.not_not, not_true_eq_false, not_false_eq_true, beq_self_eq_true, reduceCtorEq] at hb)))
    exact rqc2 rfl (ldAgg at_A Tryz.underlying65 rfl zs65 rfl rfl) rfl ⟨⟨_, _, rfl, .inl ⟨hz, rfl, rfl⟩⟩, gr_A⟩
set_option maxHeartbeats 4000000 in
theorem c8n {a : Option Addr} {n c : Nat} {tick : Int} (hS : ¬(n ≤ 4 ∨ n = 17)) (hw : Wf h) : Cf (mz G) (.func (.func 8) #[] #[]) [.slice a n c, .int .i64 tick] h fun r h' => r = .bool true ∧ Grow h h' := by
  have q55 := fun (h' : H) => c55 (G := G) (h := h') (a := a) (n := n) (c := c)
  rw [decide_eq_false hS] at q55
  refine cf_enter0 49 [.tmp 4] Tryz.func8 rfl rfl rfl rfl ?_
  repeat' (first | with_reducible refine wo_nil ?_ | ((with_reducible refine wo_any ?_); first | ((with_reducible refine ik_move ?_); refine wo_op rfl (op_move rfl) rfl rfl ?_) | ((with_reducible refine ik_assign ?_); refine wo_op rfl (op_assign rfl) rfl rfl ?_) | ((with_reducible refine ik_un ?_); refine wo_op rfl (op_not rfl) rfl rfl ?_) | ((with_reducible refine ik_pick ?_); refine wo_op rfl (op_pickf rfl rfl) rfl rfl ?_) | ((with_reducible refine ik_callF (f := 10) ?_); refine wo_op rfl (op_call rfl rfl (c10)) rfl rfl ?_) | ((with_reducible refine ik_g ?_); first | ((with_reducible refine ig_move ?_); refine wo_grun rfl rfl rfl (op_move rfl) rfl rfl ?_) | ((with_reducible refine ig_un ?_); refine wo_grun rfl rfl rfl (op_not rfl) rfl rfl ?_) | ((with_reducible refine ig_callv ?_); refine wo_grun rfl rfl rfl (op_call rfl rfl (q55 _)) rfl rfl ?_))) | with_reducible refine sq_norm ?_ | with_reducible refine wc_seq ?_ | with_reducible refine wc_region ?_ | with_reducible refine wc_ret ?_ | with_reducible refine sq_ret ?_ | refine wc_ift rfl ?_)
  all_goals exact rq1 rfl ⟨rfl, gr_A⟩
set_option maxHeartbeats 4000000 in
theorem c8m {a : Option Addr} {n c : Nat} {tick : Int} {ts : List (Int × Int)} (s : Sl G h 2 (.slice a n c) n (ts.flatMap tidC)) (hS : n ≤ 4 ∨ n = 17) (hw : Wf h) : Cf (mz G) (.func (.func 8) #[] #[]) [.slice a n c, .int .i64 tick] h fun r h' => r = .bool true ∧ Grow h h' := by
  have hn6 : n < 1000000 := by omega
  have hl := s.length
  rw [tid_len] at hl
  have hl : n = ts.length := by omega
  have q55 := fun (h' : H) => c55 (G := G) (h := h') (a := a) (n := n) (c := c)
  rw [decide_eq_true hS] at q55
  have q57 := fun (h' : H) (g : Grow h h') (w' : Wf h') => c57 (s.grow g) hn6 w'
  have q56 := fun (h' : H) (v : Value) (u : Sl G h' 2 v n (ts.flatMap tidC)) (w' : Wf h') => c56 (G := G) (h := h') (tick := tick) u w'
  have q60 := fun (h' : H) (v : Value) (u : Sl G h' 2 v n (ts.flatMap tidC)) (w' : Wf h') => c60 (G := G) (h := h') u w'
  have q58 := fun (h' : H) (g : Grow h h') (w' : Wf h') => c58 (s.grow g) hn6 w'
  have q59 := fun (h' : H) (ok : TidOk ts) (a : 0 ≤ tick) (b : tick ≤ 100000) (g : Grow h h') (w' : Wf h') => c59 (s.grow g) ok a b w'
  have q36 := fun (h' : H) => c36 (G := G) (h := h') tick 0 100000
  have q23 := fun (h' : H) (v : Value) (s : Sl G h' 1 v 2 ([tidE ts, rngE tick 0 100000].map (.int .i64))) => c23 s (by omega)
  obtain ⟨T, hT⟩ : ∃ T, tidE ts = T := ⟨_, rfl⟩
  obtain ⟨K, hK⟩ : ∃ K, rngE tick 0 100000 = K := ⟨_, rfl⟩
  obtain ⟨E, hE⟩ : ∃ E, firstNZ [T, K] = E := ⟨_, rfl⟩
  rw [hT] at q60 q58
  rw [hT, hK] at q23
  rw [hT, hK] at q56
  rw [hK] at q36
  rw [hE] at q23
  rw [hE] at q56
  refine cf_enter0 49 [.tmp 4] Tryz.func8 rfl rfl rfl rfl ?_
  refine wc_mid (ι := Unit) (fun _ => [(0, .slice a n c), (1, .int .i64 tick)]) (fun _ h' => (Wf h' ∧ Grow h h')) ?_ ?_
  · repeat' (first | with_reducible refine wo_nil ?_ | ((with_reducible refine wo_any ?_); ((with_reducible refine ik_assign ?_); refine wo_op rfl (op_assign rfl) rfl rfl ?_)) | with_reducible refine wc_region ?_)
    exact ⟨rfl, (), within_lk ⟨rfl, rfl, trivial⟩, wf_A, gr_A⟩
  rintro _ ha ⟨wa, ga⟩
  refine wc_mid (ι := Unit) (fun _ => [(0, .slice a n c), (1, .int .i64 tick)]) (fun _ h' => (Wf h' ∧ Grow h h')) ?_ ?_
  · repeat' (first | with_reducible refine wo_nil ?_ | ((with_reducible refine wo_any ?_); first | ((with_reducible refine ik_move ?_); refine wo_op rfl (op_move rfl) rfl rfl ?_) | ((with_reducible refine ik_un ?_); refine wo_op rfl (op_not rfl) rfl rfl ?_) | ((with_reducible refine ik_pick ?_); refine wo_op rfl (op_pickf rfl rfl) rfl rfl ?_) | ((with_reducible refine ik_callF (f := 10) ?_); refine wo_op rfl (op_call rfl rfl (c10)) rfl rfl ?_) | ((with_reducible refine ik_g ?_); first | ((with_reducible refine ig_move ?_); refine wo_grun rfl rfl rfl (op_move rfl) rfl rfl ?_) | ((with_reducible refine ig_un ?_); refine wo_grun rfl rfl rfl (op_not rfl) rfl rfl ?_) | ((with_reducible refine ig_callv ?_); refine wo_grun rfl rfl rfl (op_call rfl rfl (q55 _)) rfl rfl ?_))) | with_reducible refine sq_norm ?_ | with_reducible refine wc_seq ?_ | with_reducible refine wc_region ?_ | with_reducible refine wc_skip ?_ | refine wc_iff rfl ?_)
    exact ⟨rfl, (), within_lk ⟨rfl, rfl, trivial⟩, wf_A, gr_A⟩
  clear wa ga ha
  rintro _ ha ⟨wa, ga⟩
  have la := ga.nx
  refine wc_mid (ι := Nat × (Int × Int)) (fun i => [(0, .slice a n c), (1, .int .i64 tick), (5, .pointer (some ⟨i.1, 0, some 0⟩)), (6, .int .i64 E)]) (fun i h' => (Wf h' ∧ Grow h h') ∧ At h' i.1 (.cells [.int .i64 i.2.1, .int .i64 i.2.2] 65 2 false) ∧ LevS ts tick E i.2.1 i.2.2) ?_ ?_
  · repeat' (first | with_reducible refine wo_nil ?_ | ((with_reducible refine wo_any ?_); first | ((with_reducible refine ik_move ?_); refine wo_op rfl (op_move rfl) rfl rfl ?_) | ((with_reducible refine ik_assign ?_); refine wo_op rfl (op_assign rfl) rfl rfl ?_) | ((with_reducible refine ik_extract ?_); refine wo_op rfl (op_extract rfl rfl) rfl rfl ?_) | ((with_reducible refine ik_alloc ?_); refine wo_op rfl (op_alloc zz65 zs65 rfl rfl rfl) rfl rfl ?_) | ((with_reducible refine ik_store ?_); refine wo_op0 rfl (op_stAgg rfl rfl at_A zs65 rfl rfl rfl rfl) rfl ?_) | ((with_reducible refine ik_callv ?_); first | (refine wo_call rfl rfl rfl rfl (q57 _ gr_A wf_A) rfl rfl ?_; rintro _ _ ⟨⟨a5, c5, rfl, s5⟩, hq⟩; all_goals ((try (have hqn := hq.nx)); (try simp only [H.nx_push, H.nx_set, H.nx_bump] at hqn))) | (refine wo_call rfl rfl rfl rfl (q56 _ _ (s5.grow gr_A) wf_A) rfl rfl ?_; rintro _ _ ⟨⟨p, q, rfl, m⟩, hq⟩; all_goals ((try (have hqn := hq.nx)); (try simp only [H.nx_push, H.nx_set, H.nx_bump] at hqn))))) | with_reducible refine wc_region ?_)
    exact ⟨rfl, (_, (p, q)), within_lk ⟨rfl, rfl, rfl, rfl, trivial⟩, ⟨wf_A, gr_A⟩, at_A, m⟩
  clear wa ga la ha q56
  rintro ⟨B5, ⟨p, q⟩⟩ ha ⟨⟨wa, ga⟩, a5, m⟩
  simp only at a5 m ⊢
  have la := ga.nx
  have l5 := a5.lt
  refine wc_mid (ι := Unit) (fun i => [(0, .slice a n c), (1, .int .i64 tick), (5, .pointer (some ⟨B5, 0, some 0⟩)), (6, .int .i64 E), (7, .int .i64 T)]) (fun i h' => (Wf h' ∧ Grow h h') ∧ At h' B5 (.cells [.int .i64 p, .int .i64 q] 65 2 false)) ?_ ?_
  · repeat' (first | with_reducible refine wo_nil ?_ | ((with_reducible refine wo_any ?_); first | ((with_reducible refine ik_move ?_); refine wo_op rfl (op_move rfl) rfl rfl ?_) | ((with_reducible refine ik_assign ?_); refine wo_op rfl (op_assign rfl) rfl rfl ?_) | ((with_reducible refine ik_callv ?_); (refine wo_call rfl rfl rfl rfl (q58 _ gr_A wf_A) rfl rfl ?_; rintro _ _ ⟨rfl, hq⟩; all_goals ((try (have hqn := hq.nx)); (try simp only [H.nx_push, H.nx_set, H.nx_bump] at hqn))))) | with_reducible refine wc_region ?_)
    exact ⟨rfl, (), within_lk ⟨rfl, rfl, rfl, rfl, rfl, trivial⟩, ⟨wf_A, gr_A⟩, at_A⟩
  clear wa ga la a5 l5 ha q58
  rintro _ ha ⟨⟨wa, ga⟩, a5⟩
  have la := ga.nx
  have l5 := a5.lt
  refine wc_mid (ι := Unit) (fun i => [(0, .slice a n c), (1, .int .i64 tick), (5, .pointer (some ⟨B5, 0, some 0⟩)), (6, .int .i64 E), (7, .int .i64 T), (8, .int .i64 E)]) (fun i h' => (Wf h' ∧ Grow h h') ∧ At h' B5 (.cells [.int .i64 p, .int .i64 q] 65 2 false)) ?_ ?_
  · repeat' (first | with_reducible refine wo_nil ?_ | ((with_reducible refine wo_any ?_); first | ((with_reducible refine ik_move ?_); refine wo_op rfl (op_move rfl) rfl rfl ?_) | ((with_reducible refine ik_assign ?_); refine wo_op rfl (op_assign rfl) rfl rfl ?_) | ((with_reducible refine ik_buildSlice ?_); refine wo_op rfl (op_buildSl rfl Tryz.underlying22 zs3 zz3 rfl rfl) rfl rfl ?_) | ((with_reducible refine ik_callv ?_); first | refine wo_op rfl (op_call rfl rfl (q36 _)) rfl rfl ?_ | refine wo_op rfl (op_call rfl rfl (q23 _ _ (Sl.ofAt (show At _ _ (.cells [.int .i64 T, .int .i64 K] 3 1 false) from at_A) rfl (Nat.le_refl _)))) rfl rfl ?_)) | with_reducible refine wc_region ?_)
    exact ⟨rfl, (), within_lk ⟨rfl, rfl, rfl, rfl, rfl, rfl, trivial⟩, ⟨wf_A, gr_A⟩, at_A⟩
  clear wa ga la a5 l5 ha q36 q23
  rintro _ ha ⟨⟨wa, ga⟩, a5⟩
  have la := ga.nx
  have l5 := a5.lt
  refine wc_mid (ι := Nat) (fun i => [(0, .slice a n c), (1, .int .i64 tick), (5, .pointer (some ⟨B5, 0, some 0⟩)), (6, .int .i64 E), (7, .int .i64 T), (8, .int .i64 E), (9, .pointer (some ⟨i, 0, some 0⟩))]) (fun i h' => (Wf h' ∧ Grow h h') ∧ At h' B5 (.cells [.int .i64 p, .int .i64 q] 65 2 false) ∧ (B5 < i ∧ h.nx ≤ i) ∧ At h' i (.cells [.int .i64 0, .int .i64 0] 65 2 false)) ?_ ?_
  · repeat' (first | with_reducible refine wo_nil ?_ | ((with_reducible refine wo_any ?_); ((with_reducible refine ik_alloc ?_); refine wo_op rfl (op_alloc zz65 zs65 rfl rfl rfl) rfl rfl ?_)) | with_reducible refine wc_region ?_)
    exact ⟨rfl, ha.nx, within_lk ⟨rfl, rfl, rfl, rfl, rfl, rfl, rfl, trivial⟩, ⟨wf_A, gr_A⟩, at_A, ⟨l5, la⟩, at_A⟩
  clear wa ga la a5 l5 ha
  rintro B9 ha ⟨⟨wa, ga⟩, a5, ⟨n5, n9⟩, a9⟩
  have la := ga.nx
  have l5 := a5.lt
  have l9 := a9.lt
  refine wc_mid (ι := Int × Int) (fun i => [(0, .slice a n c), (5, .pointer (some ⟨B5, 0, some 0⟩)), (6, .int .i64 E), (7, .int .i64 T), (8, .int .i64 E), (9, .pointer (some ⟨B9, 0, some 0⟩))]) (fun i h' => (Wf h' ∧ Grow h h') ∧ At h' B5 (.cells [.int .i64 p, .int .i64 q] 65 2 false) ∧ At h' B9 (.cells [.int .i64 i.1, .int .i64 i.2] 65 2 false) ∧ RatA p q E E i.1 i.2) ?_ ?_
  · by_cases hz : E = 0
    · have z := firstNZ_zero (hE.trans hz)
      have zT : T = 0 := z _ (by simp)
      have zK : K = 0 := z _ (by simp)
      have ok := tid_ok (hT.trans zT)
      have hr := rng_ok (hK.trans zK)
      rcases m with ⟨m, _⟩ | ⟨_, j, m1, m2, m3, m4⟩
      · exact absurd hz m
      · subst hz
        repeat' (first | with_reducible refine wo_nil ?_ | ((with_reducible refine wo_any ?_); first | ((with_reducible refine ik_move ?_); refine wo_op rfl (op_move rfl) rfl rfl ?_) | ((with_reducible refine ik_store ?_); refine wo_op0 rfl (op_stAgg rfl rfl at_A zs65 rfl rfl rfl rfl) rfl ?_) | ((with_reducible refine ik_bin ?_); refine wo_op rfl (op_eql rfl rfl) rfl rfl ?_) | ((with_reducible refine ik_callv ?_); (refine wo_call rfl rfl rfl rfl (q59 _ ok hr.1 hr.2 gr_A wf_A) rfl rfl ?_; rintro _ _ ⟨⟨i, y1, y2, y3, rfl⟩, hq⟩; all_goals ((try (have hqn := hq.nx)); (try simp only [H.nx_push, H.nx_set, H.nx_bump] at hqn))))) | with_reducible refine sq_norm ?_ | with_reducible refine wc_seq ?_ | with_reducible refine wc_region ?_ | refine wc_ift rfl ?_)
        have hs := lvl_same ok y1 m1 y2 y3 m2 m3
        rw [hs] at m4
        injection m4 with m4
        injection m4 with m4
        injection m4 with m5 m4
        injection m5 with _ m5
        injection m4 with m6 _
        injection m6 with _ m6
        exact ⟨rfl, (_, _), within_lk ⟨rfl, rfl, rfl, rfl, rfl, rfl, trivial⟩, ⟨wf_A, gr_A⟩, at_A, at_A, .inr ⟨rfl, rfl, m5, m6⟩⟩
    · rcases m with ⟨_, m1, m2⟩ | ⟨m, _⟩
      · repeat' (first | with_reducible refine wo_nil ?_ | ((with_reducible refine wo_any ?_); first | ((with_reducible refine ik_move ?_); refine wo_op rfl (op_move rfl) rfl rfl ?_) | ((with_reducible refine ik_bin ?_); refine wo_op rfl (op_eql rfl rfl) rfl rfl ?_)) | with_reducible refine sq_norm ?_ | with_reducible refine wc_seq ?_ | with_reducible refine wc_region ?_ | with_reducible refine wc_skip ?_ | (refine wc_if rfl (fun hb => dead_A hb) (fun hb => ?_); (try simp only [decide_eq_true_eq, decide_eq_false_iff_not, Bool.not_eq_true', Bool.not_eq_false', Int.not_lt, Int.not_le, Decidable.not_not, not_true_eq_false, not_false_eq_true, beq_self_eq_true, reduceCtorEq] at hb)))
        exact ⟨rfl, (0, 0), within_lk ⟨rfl, rfl, rfl, rfl, rfl, rfl, trivial⟩, ⟨wf_A, gr_A⟩, at_A, at_A, .inl ⟨hz, rfl, m1, m2⟩⟩
      · exact absurd m hz
  clear wa ga la a5 l5 a9 l9 ha q59
  rintro ⟨p2, q2⟩ ha ⟨⟨wa, ga⟩, a5, a9, R⟩
  simp only at a9 R
  have la := ga.nx
  have l5 := a5.lt
  have l9 := a9.lt
  have q50 := fun (h' : H) (w' : Wf h') => c50 (G := G) (h := h') R w'
  repeat' (first | with_reducible refine wo_nil ?_ | ((with_reducible refine wo_any ?_); first | ((with_reducible refine ik_move ?_); refine wo_op rfl (op_move rfl) rfl rfl ?_) | ((with_reducible refine ik_assign ?_); refine wo_op rfl (op_assign rfl) rfl rfl ?_) | ((with_reducible refine ik_pick ?_); refine wo_op rfl (op_pickt rfl rfl) rfl rfl ?_) | ((with_reducible refine ik_bin ?_); refine wo_op rfl (op_eql rfl rfl) rfl rfl ?_) | ((with_reducible refine ik_callv ?_); first | (refine wo_call rfl rfl rfl rfl (q57 _ gr_A wf_A) rfl rfl ?_; rintro _ _ ⟨⟨a7, c7, rfl, s7⟩, hq⟩; all_goals ((try (have hqn := hq.nx)); (try simp only [H.nx_push, H.nx_set, H.nx_bump] at hqn))) | (refine wo_call rfl rfl rfl rfl (q60 _ _ (s7.grow gr_A) wf_A) rfl rfl ?_; rintro _ _ ⟨rfl, hq⟩; all_goals ((try (have hqn := hq.nx)); (try simp only [H.nx_push, H.nx_set, H.nx_bump] at hqn)))) | ((with_reducible refine ik_g ?_); first | ((with_reducible refine ig_move ?_); refine wo_grun rfl rfl rfl (op_move rfl) rfl rfl ?_) | ((with_reducible refine ig_load ?_); refine wo_grun rfl rfl rfl (op_ldAgg rfl at_A Tryz.underlying65 rfl zs65 rfl rfl) rfl rfl ?_) | ((with_reducible refine ig_callv ?_); (refine wo_gcall rfl rfl rfl rfl rfl rfl (q50 _ wf_A) rfl rfl ?_; rintro _ _ ⟨rfl, hq⟩; all_goals ((try (have hqn := hq.nx)); (try simp only [H.nx_push, H.nx_set, H.nx_bump] at hqn)))) | (refine wo_gsplit rfl rfl rfl (fun hb => ?_) (fun hb => (of_decide_eq_false hb rfl).elim); (try simp only [decide_eq_true_eq, decide_eq_false_iff_not, Bool.not_eq_true', Bool.not_eq_false', Int.not_lt, Int.not_le, Decidable.not_not, not_true_eq_false, not_false_eq_true, beq_self_eq_true, reduceCtorEq] at hb)))) | with_reducible refine sq_norm ?_ | with_reducible refine wc_seq ?_ | with_reducible refine wc_region ?_ | with_reducible refine wc_ret ?_)
  all_goals exact rq1 rfl ⟨by first | rfl | simp, gr_A⟩
theorem c8 {a : Option Addr} {n c : Nat} {tick : Int} {ts : List (Int × Int)} (s : Sl G h 2 (.slice a n c) n (ts.flatMap tidC)) (hw : Wf h) : Cf (mz G) (.func (.func 8) #[] #[]) [.slice a n c, .int .i64 tick] h fun r h' => r = .bool true ∧ Grow h h' := by
  by_cases hS : n ≤ 4 ∨ n = 17
  · exact c8m s hS hw
  · exact c8n hS hw
end Go.Proofs.YtdfpadokepmknaaGreatDoor
