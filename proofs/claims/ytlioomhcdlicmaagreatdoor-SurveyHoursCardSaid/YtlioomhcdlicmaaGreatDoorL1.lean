/- The law SurveyHours, walked. -/
import Derived.Test.YtlioomhcdlicmaaGreatDoorC15
import Derived.Test.YtlioomhcdlicmaaGreatDoorC11
set_option linter.all false
/- The law SurveyHours. -/
namespace Go.Proofs.YtlioomhcdlicmaaGreatDoor
open Go Go.Ab Go.Fl
attribute [local irreducible] SeqQ BlkQ LpQ RetQ Wc Wo WD WX Op1 Op1q Op1a Cf Cl From
attribute [local irreducible] Ieee.Format.order Ieee.Format.read Ieee.Format.nearest Ieee.Format.write Ieee.Format.mul Ieee.Format.div Ieee.Format.sqrt Ieee.Datum.order Ieee.Datum.integral K U rngE errN ptE firstNZ vesE watE sgE sgsE allE hitB sqD insB qsL lvl rn rl altB
set_option maxRecDepth 10000
variable {G : Base} {h : H}

attribute [local irreducible] spE numM cauW cnum cauN enE hrK ensE lowN lowD
theorem eg92 : Tryz.prog.eqGuardType Tryz.prog.depth 92 = false := by kernel_rfl
theorem eqv92 (a0 a1 b0 b1 : Int) : eqV Tryz.prog 3 92 [.int .i64 a0, .int .i64 a1] [.int .i64 b0, .int .i64 b1] = some (decide (a0 = b0) && (decide (a1 = b1) && true)) := by kernel_rfl
theorem eqv92_self (a0 a1 : Int) : eqV Tryz.prog 3 92 [.int .i64 a0, .int .i64 a1] [.int .i64 a0, .int .i64 a1] = some true := by
  rw [eqv92]; simp
theorem eqv22_self (z0 z1 z2 z3 z4 z5 : Int) : eqV Tryz.prog 3 22 [.int .i64 z0, .int .i64 z1, .int .i64 z2, .int .i64 z3, .int .i64 z4, .int .i64 z5] [.int .i64 z0, .int .i64 z1, .int .i64 z2, .int .i64 z3, .int .i64 z4, .int .i64 z5] = some true := by
  rw [eqv22]; simp
theorem hrE_six {l : List En} (n : Nat) : (hrE l n).length = 6 := by
  unfold hrE
  split
  · rfl
  · exact hrK_len n
theorem mgd_le (l : List En) : (mgdL l).length ≤ l.length := by
  unfold mgdL
  split
  · rw [← mgL_rm]; exact mg_le l
  · exact Nat.zero_le _
set_option maxHeartbeats 16000000 in
theorem c7 {a : Option Addr} {n c : Nat} {l : List En} (s : Sl G h 3 (.slice a n c) n (l.flatMap En.cells)) (hl : l.length = n) (hnm : n ≤ maxLen) (hw : Wf h) : Cf (mz G) (.func (.func 7) #[] #[]) [.slice a n c] h fun r h' => r = .bool true ∧ Grow h h' := by
  have q38 := fun (h' : H) (g : Grow h h') (w' : Wf h') => c38 (s.grow g) hl hnm w'
  cases hS : shoE l with
  | false =>
    rw [hS] at q38
    refine cf_enter0 93 [.tmp 2] Tryz.func7 rfl rfl rfl rfl ?_
    repeat' (first | with_reducible refine wo_nil ?_ | ((with_reducible refine wo_any ?_); first | ((with_reducible refine ik_move ?_); refine wo_op rfl (op_move rfl) rfl rfl ?_) | ((with_reducible refine ik_assign ?_); refine wo_op rfl (op_assign rfl) rfl rfl ?_) | ((with_reducible refine ik_un ?_); refine wo_op rfl (op_not rfl) rfl rfl ?_) | ((with_reducible refine ik_callF (f := 15) ?_); refine wo_op rfl (op_call rfl rfl (c15)) rfl rfl ?_) | ((with_reducible refine ik_callv ?_); (refine wo_call rfl rfl rfl rfl (q38 _ gr_A wf_A) rfl rfl ?_; rintro _ _ ⟨rfl, hq⟩; all_goals ((try (have hqn := hq.nx)); (try simp only [H.nx_push, H.nx_set, H.nx_bump] at hqn))))) | with_reducible refine sq_norm ?_ | with_reducible refine wc_seq ?_ | with_reducible refine wc_region ?_ | with_reducible refine wc_ret ?_ | with_reducible refine sq_ret ?_ | refine wc_ift rfl ?_)
    exact rq1 rfl ⟨rfl, gr_A⟩
  | true =>
  rw [hS] at q38
  have hn : n < 1000000 := by
    unfold shoE at hS
    simp only [Bool.and_eq_true, decide_eq_true_eq] at hS
    omega
  clear hS
  have q40 := fun (h' : H) (g : Grow h h') (w' : Wf h') => cf_formW (c40 (s.grow g) hl hn w')
  have q39 := fun (h' : H) (v : Value) (s1 : Sl G h' 3 v n (l.flatMap En.cells)) (w' : Wf h') => c39 s1 hl hn w'
  have q41 := fun (h' : H) (v : Value) (s1 : Sl G h' 3 v n (l.flatMap En.cells)) (w' : Wf h') => c41 s1 hl hn w'
  have q42 := fun (h' : H) (v : Value) (s1 : Sl G h' 3 v n (l.flatMap En.cells)) (w' : Wf h') => c42 s1 hl hn w'
  have q49 := fun (h' : H) (v : Value) (s1 : Sl G h' 3 v n (l.flatMap En.cells)) (w' : Wf h') => c49 s1 hl hn w'
  have q43 := fun (h' : H) (g : Grow h h') (w' : Wf h') => c43 (s.grow g) hl hn w'
  have q46 := fun (h' : H) (g : Grow h h') (w' : Wf h') => c46 (s.grow g) hl hn w'
  have q44 := fun (he : ensE l = 0) (h' : H) (g : Grow h h') (w' : Wf h') => (c44g (s.grow g) hl hn w').mono (Q' := fun r h2 => (∃ a c, r = .slice a (mgdL l).length c ∧ Sl G h2 3 (.slice a (mgdL l).length c) (mgdL l).length ((mgdL l).flatMap En.cells)) ∧ Grow h' h2) (fun r h2 ⟨q, g⟩ => by
    have s := q.sl (G := G) (by rw [En.flat])
    have e : mgL l = mgdL l := by unfold mgdL; rw [if_pos he, mgL_rm]
    rw [e] at s
    obtain ⟨a, c, rfl⟩ := s.form
    exact ⟨⟨a, c, rfl, s⟩, g⟩)
  have q45 := fun (he : ensE l = 0) (h' : H) (g : Grow h h') (w' : Wf h') => c45 (s.grow g) hl (by have := (ens_ok he).1; omega) (ens_ok he).2 w'
  have hbad : ensE l ≠ 0 → mgdL l = [] := fun he => by unfold mgdL; rw [if_neg he]
  have hE0 : ensE l = 0 → hrE l n = hrK l n := fun he => by unfold hrE; rw [if_neg (by simpa using he)]
  have hE1 : ensE l ≠ 0 → hrE l n = [0, 0, 0, 0, 0, 0] := fun he => by unfold hrE; rw [if_pos he]
  have hml := mgd_le l
  obtain ⟨z0, z1, z2, z3, z4, z5, hz⟩ := six (hrE_six (l := l) n)
  have q45 := fun (he : ensE l = 0) (h' : H) (g : Grow h h') (w' : Wf h') => (q45 he h' g w').mono (Q' := fun r h2 => r = .agg ⟨[.int .i64 z0, .int .i64 z1, .int .i64 z2, .int .i64 z3, .int .i64 z4, .int .i64 z5]⟩ ∧ Grow h' h2) (fun r h2 ⟨q, g⟩ => by
    rw [← hE0 he, hz] at q
    exact ⟨q, g⟩)
  rw [hz] at q41 hE1
  dsimp only [List.map] at q41
  clear hE0
  obtain ⟨M, hM⟩ : ∃ M, mgdL l = M := ⟨_, rfl⟩
  rw [hM] at q39 q44 hbad hml
  obtain ⟨K, hK⟩ : ∃ K, M.length = K := ⟨_, rfl⟩
  rw [hK] at q39 q44 hml
  obtain ⟨E, hE⟩ : ∃ E, ensE l = E := ⟨_, rfl⟩
  rw [hE] at q39 q41 q49 q43 q44 q45 hbad hE1
  obtain ⟨D, hD⟩ : ∃ D, dtE l = D := ⟨_, rfl⟩
  rw [hD] at q42 q46
  obtain ⟨dn, hdn⟩ : ∃ D, dtN l = D := ⟨_, rfl⟩
  rw [hdn] at q42 q46
  obtain ⟨dd, hdd⟩ : ∃ D, dtD l = D := ⟨_, rfl⟩
  rw [hdd] at q42 q46
  have q51 := fun (h' : H) (v : Value) (s1 : Sl G h' 3 v K (M.flatMap En.cells)) (w' : Wf h') => cf_formW (c51 s1 hK (by omega) w')
  have q50 := fun (h' : H) (v1 v2 : Value) (s1 : Sl G h' 3 v1 K (M.flatMap En.cells)) (s2 : Sl G h' 3 v2 K (M.flatMap En.cells)) (w' : Wf h') => c50 s1 s2 hK (by omega) w'
  have q47 := fun (h' : H) (w' : Wf h') => c47 (G := G) (h := h') w'
  have q48 := fun (h' : H) (w' : Wf h') => c48 (G := G) (h := h') w'
  have q13 := fun (h' : H) (v1 v2 : Value) (s1 : Sl G h' 1 v1 6 (WS.map Value.string)) (s2 : Sl G h' 1 v2 6 (WS.map Value.string)) (w' : Wf h') => c13 s1 s2 (by omega) w'
  have eqH := eqv22_self z0 z1 z2 z3 z4 z5
  have eqR := eqv92_self dn dd
  clear hM hE hD hdn hdd hz s
  refine cf_enter0 93 [.tmp 2] Tryz.func7 rfl rfl rfl rfl ?_
  refine wc_mid (ι := Unit) (fun _ => [(0, .slice a n c)]) (fun _ h' => Wf h' ∧ Grow h h') ?_ ?_
  · repeat' (first | with_reducible refine wo_nil ?_ | ((with_reducible refine wo_any ?_); ((with_reducible refine ik_assign ?_); refine wo_op rfl (op_assign rfl) rfl rfl ?_)) | with_reducible refine wc_region ?_)
    exact ⟨rfl, (), within_lk ⟨rfl, trivial⟩, wf_A, gr_A⟩
  rintro _ h1 ⟨w1, g1⟩
  refine wc_mid (ι := Unit) (fun _ => [(0, .slice a n c)]) (fun _ h' => Wf h' ∧ Grow h h') ?_ ?_
  · clear q40 q39 q41 q42 q49 q43 q46 q44 q45 q51 q50 q47 q48 q13
    repeat' (first | with_reducible refine wo_nil ?_ | ((with_reducible refine wo_any ?_); first | ((with_reducible refine ik_move ?_); refine wo_op rfl (op_move rfl) rfl rfl ?_) | ((with_reducible refine ik_un ?_); refine wo_op rfl (op_not rfl) rfl rfl ?_) | ((with_reducible refine ik_callv ?_); (refine wo_call rfl rfl rfl rfl (q38 _ (g1.trans gr_A) wf_A) rfl rfl ?_; rintro _ _ ⟨rfl, hq⟩; all_goals ((try (have hqn := hq.nx)); (try simp only [H.nx_push, H.nx_set, H.nx_bump] at hqn))))) | with_reducible refine sq_norm ?_ | with_reducible refine wc_seq ?_ | with_reducible refine wc_region ?_ | with_reducible refine wc_skip ?_ | refine wc_iff rfl ?_)
    exact ⟨rfl, (), within_lk ⟨rfl, trivial⟩, wf_A, g1.trans gr_A⟩
  clear w1 g1 q38
  rintro _ h1 ⟨w1, g1⟩
  refine wc_mid (ι := Option Addr × Nat) (fun z => [(0, .slice a n c), (3, .slice z.1 K z.2), (4, .int .i64 E)]) (fun z h' => (Wf h' ∧ Grow h h') ∧ Sl G h' 3 (.slice z.1 K z.2) K (M.flatMap En.cells)) ?_ ?_
  · clear q41 q42 q49 q43 q46 q44 q45 q51 q50 q47 q48 q13
    have n1 := g1.nx
    repeat' (first | with_reducible refine wo_nil ?_ | ((with_reducible refine wo_any ?_); first | ((with_reducible refine ik_move ?_); refine wo_op rfl (op_move rfl) rfl rfl ?_) | ((with_reducible refine ik_assign ?_); refine wo_op rfl (op_assign rfl) rfl rfl ?_) | ((with_reducible refine ik_extract ?_); refine wo_op rfl (op_extract rfl rfl) rfl rfl ?_) | ((with_reducible refine ik_callv ?_); first | (refine wo_call rfl rfl rfl rfl (q40 _ (g1.trans gr_A) wf_A) rfl rfl ?_; rintro _ _ ⟨⟨a1, c1, rfl, s1⟩, hq⟩; all_goals ((try (have hqn := hq.nx)); (try simp only [H.nx_push, H.nx_set, H.nx_bump] at hqn))) | (refine wo_call rfl rfl rfl rfl (q39 _ _ (s1.grow gr_A) wf_A) rfl rfl ?_; rintro _ _ ⟨⟨ma, mc, rfl, sm⟩, hq⟩; all_goals ((try (have hqn := hq.nx)); (try simp only [H.nx_push, H.nx_set, H.nx_bump] at hqn))))) | with_reducible refine wc_region ?_)
    exact ⟨rfl, (ma, mc), within_lk ⟨rfl, rfl, rfl, trivial⟩, ⟨wf_A, g1.trans gr_A⟩, sm.grow gr_A⟩
  clear w1 g1 q39
  rintro ⟨ma, mc⟩ h1 ⟨⟨w1, g1⟩, sm⟩
  dsimp only at sm ⊢
  refine wc_mid (ι := Nat) (fun b5 => [(0, .slice a n c), (3, .slice ma K mc), (4, .int .i64 E), (5, .pointer (some ⟨b5, 0, some 0⟩)), (6, .int .i64 E)]) (fun b5 h' => (Wf h' ∧ Grow h1 h') ∧ At h' b5 (.cells [.int .i64 z0, .int .i64 z1, .int .i64 z2, .int .i64 z3, .int .i64 z4, .int .i64 z5] 22 6 false)) ?_ ?_
  · clear q42 q49 q43 q46 q44 q45 q51 q50 q47 q48 q13
    have n1 := g1.nx
    repeat' (first | with_reducible refine wo_nil ?_ | ((with_reducible refine wo_any ?_); first | ((with_reducible refine ik_move ?_); refine wo_op rfl (op_move rfl) rfl rfl ?_) | ((with_reducible refine ik_assign ?_); refine wo_op rfl (op_assign rfl) rfl rfl ?_) | ((with_reducible refine ik_extract ?_); refine wo_op rfl (op_extract rfl rfl) rfl rfl ?_) | ((with_reducible refine ik_alloc ?_); refine wo_op rfl (op_alloc zz22 zs22 rfl rfl rfl) rfl rfl ?_) | ((with_reducible refine ik_store ?_); refine wo_op0 rfl (op_stAgg rfl rfl at_A zs22 rfl rfl rfl rfl) rfl ?_) | ((with_reducible refine ik_callv ?_); first | (refine wo_call rfl rfl rfl rfl (q40 _ (g1.trans gr_A) wf_A) rfl rfl ?_; rintro _ _ ⟨⟨a1, c1, rfl, s1⟩, hq⟩; all_goals ((try (have hqn := hq.nx)); (try simp only [H.nx_push, H.nx_set, H.nx_bump] at hqn))) | (refine wo_call rfl rfl rfl rfl (q41 _ _ (s1.grow gr_A) wf_A) rfl rfl ?_; rintro _ _ ⟨rfl, hq⟩; all_goals ((try (have hqn := hq.nx)); (try simp only [H.nx_push, H.nx_set, H.nx_bump] at hqn))))) | with_reducible refine wc_region ?_)
    exact ⟨rfl, _, within_lk ⟨rfl, rfl, rfl, rfl, rfl, trivial⟩, ⟨wf_A, gr_A⟩, at_A⟩
  clear w1 q41
  rintro b5 h2 ⟨⟨w1, g2⟩, at5⟩
  have sm := sm.grow g2
  have g1 := g1.trans g2
  clear g2
  refine wc_mid (ι := Nat) (fun b7 => [(0, .slice a n c), (3, .slice ma K mc), (4, .int .i64 E), (5, .pointer (some ⟨b5, 0, some 0⟩)), (6, .int .i64 E), (7, .pointer (some ⟨b7, 0, some 0⟩)), (8, .int .i64 D)]) (fun b7 h' => (Wf h' ∧ Grow h2 h') ∧ At h' b7 (.cells [.int .i64 dn, .int .i64 dd] 92 2 false)) ?_ ?_
  · clear q49 q43 q46 q44 q45 q51 q50 q47 q48 q13
    have n1 := g1.nx
    repeat' (first | with_reducible refine wo_nil ?_ | ((with_reducible refine wo_any ?_); first | ((with_reducible refine ik_move ?_); refine wo_op rfl (op_move rfl) rfl rfl ?_) | ((with_reducible refine ik_assign ?_); refine wo_op rfl (op_assign rfl) rfl rfl ?_) | ((with_reducible refine ik_extract ?_); refine wo_op rfl (op_extract rfl rfl) rfl rfl ?_) | ((with_reducible refine ik_alloc ?_); refine wo_op rfl (op_alloc zz92 zs92 rfl rfl rfl) rfl rfl ?_) | ((with_reducible refine ik_store ?_); refine wo_op0 rfl (op_stAgg rfl rfl at_A zs92 rfl rfl rfl rfl) rfl ?_) | ((with_reducible refine ik_callv ?_); first | (refine wo_call rfl rfl rfl rfl (q40 _ (g1.trans gr_A) wf_A) rfl rfl ?_; rintro _ _ ⟨⟨a1, c1, rfl, s1⟩, hq⟩; all_goals ((try (have hqn := hq.nx)); (try simp only [H.nx_push, H.nx_set, H.nx_bump] at hqn))) | (refine wo_call rfl rfl rfl rfl (q42 _ _ (s1.grow gr_A) wf_A) rfl rfl ?_; rintro _ _ ⟨rfl, hq⟩; all_goals ((try (have hqn := hq.nx)); (try simp only [H.nx_push, H.nx_set, H.nx_bump] at hqn))))) | with_reducible refine wc_region ?_)
    exact ⟨rfl, _, within_lk ⟨rfl, rfl, rfl, rfl, rfl, rfl, rfl, trivial⟩, ⟨wf_A, gr_A⟩, at_A⟩
  clear w1 q42
  rintro b7 h3 ⟨⟨w1, g2⟩, at7⟩
  have sm := sm.grow g2
  have at5 := at5.grow g2
  have g1 := g1.trans g2
  clear g2
  refine wc_mid (ι := Unit) (fun _ => [(0, .slice a n c), (3, .slice ma K mc), (4, .int .i64 E), (5, .pointer (some ⟨b5, 0, some 0⟩)), (6, .int .i64 E), (7, .pointer (some ⟨b7, 0, some 0⟩)), (8, .int .i64 D), (9, .int .i64 E)]) (fun _ h' => Wf h' ∧ Grow h3 h') ?_ ?_
  · clear q40 q49 q46 q44 q45 q51 q50 q47 q48 q13
    have n1 := g1.nx
    repeat' (first | with_reducible refine wo_nil ?_ | ((with_reducible refine wo_any ?_); first | ((with_reducible refine ik_move ?_); refine wo_op rfl (op_move rfl) rfl rfl ?_) | ((with_reducible refine ik_assign ?_); refine wo_op rfl (op_assign rfl) rfl rfl ?_) | ((with_reducible refine ik_callv ?_); (refine wo_call rfl rfl rfl rfl (q43 _ (g1.trans gr_A) wf_A) rfl rfl ?_; rintro _ _ ⟨rfl, hq⟩; all_goals ((try (have hqn := hq.nx)); (try simp only [H.nx_push, H.nx_set, H.nx_bump] at hqn))))) | with_reducible refine wc_region ?_)
    exact ⟨rfl, (), within_lk ⟨rfl, rfl, rfl, rfl, rfl, rfl, rfl, rfl, trivial⟩, wf_A, gr_A⟩
  clear w1 q43
  rintro _ h4 ⟨w1, g2⟩
  have sm := sm.grow g2
  have at5 := at5.grow g2
  have at7 := at7.grow g2
  have g1 := g1.trans g2
  clear g2
  refine wc_mid (ι := Unit) (fun _ => [(0, .slice a n c), (3, .slice ma K mc), (4, .int .i64 E), (5, .pointer (some ⟨b5, 0, some 0⟩)), (6, .int .i64 E), (7, .pointer (some ⟨b7, 0, some 0⟩)), (8, .int .i64 D), (9, .int .i64 E), (10, .slice none 0 0)]) (fun _ h' => h4 = h') ?_ ?_
  · repeat' (first | with_reducible refine wo_nil ?_ | ((with_reducible refine wo_any ?_); ((with_reducible refine ik_assign ?_); refine wo_op rfl (op_assign rfl) rfl rfl ?_)) | with_reducible refine wc_region ?_)
    exact ⟨rfl, (), within_lk ⟨rfl, rfl, rfl, rfl, rfl, rfl, rfl, rfl, rfl, trivial⟩, rfl⟩
  rintro _ h4' e
  subst e
  have n1 := g1.nx
  refine wc_mid (ι := Nat) (fun b11 => [(0, .slice a n c), (3, .slice ma K mc), (4, .int .i64 E), (5, .pointer (some ⟨b5, 0, some 0⟩)), (6, .int .i64 E), (7, .pointer (some ⟨b7, 0, some 0⟩)), (8, .int .i64 D), (9, .int .i64 E), (10, .slice none 0 0), (11, .pointer (some ⟨b11, 0, some 0⟩))]) (fun b11 h' => (Wf h' ∧ Grow h4 h') ∧ h4.nx ≤ b11 ∧ At h' b11 (.cells [.int .i64 0, .int .i64 0, .int .i64 0, .int .i64 0, .int .i64 0, .int .i64 0] 22 6 false)) ?_ ?_
  · repeat' (first | with_reducible refine wo_nil ?_ | ((with_reducible refine wo_any ?_); ((with_reducible refine ik_alloc ?_); refine wo_op rfl (op_alloc zz22 zs22 rfl rfl rfl) rfl rfl ?_)) | with_reducible refine wc_region ?_)
    exact ⟨rfl, _, within_lk ⟨rfl, rfl, rfl, rfl, rfl, rfl, rfl, rfl, rfl, rfl, trivial⟩, ⟨wf_A, gr_A⟩, Nat.le_refl _, at_A⟩
  clear w1
  rintro b11 h5 ⟨⟨w1, g2⟩, hb, at11⟩
  have n2 := g2.nx
  refine wc_mid (ι := Option Addr × Nat) (fun z => [(0, .slice a n c), (3, .slice ma K mc), (4, .int .i64 E), (5, .pointer (some ⟨b5, 0, some 0⟩)), (6, .int .i64 E), (7, .pointer (some ⟨b7, 0, some 0⟩)), (8, .int .i64 D), (9, .int .i64 E), (10, .slice z.1 K z.2), (11, .pointer (some ⟨b11, 0, some 0⟩))]) (fun z h' => (Wf h' ∧ Grow h4 h') ∧ Sl G h' 3 (.slice z.1 K z.2) K (M.flatMap En.cells) ∧ At h' b11 (.cells [.int .i64 z0, .int .i64 z1, .int .i64 z2, .int .i64 z3, .int .i64 z4, .int .i64 z5] 22 6 false)) ?_ ?_
  · clear q40 q49 q46 q51 q50 q47 q48 q13
    by_cases he : E = 0
    · have k44 := q44 he
      have k45 := q45 he
      clear q44 q45
      have l11 := at11.lt
      have g3 := g1.trans g2
      subst he
      clear hbad hE1
      repeat' (first | with_reducible refine wo_nil ?_ | ((with_reducible refine wo_any ?_); first | ((with_reducible refine ik_move ?_); refine wo_op rfl (op_move rfl) rfl rfl ?_) | ((with_reducible refine ik_assign ?_); refine wo_op rfl (op_assign rfl) rfl rfl ?_) | ((with_reducible refine ik_store ?_); refine wo_op0 rfl (op_stAgg rfl rfl at_A zs22 rfl rfl rfl rfl) rfl ?_) | ((with_reducible refine ik_bin ?_); refine wo_op rfl (op_eql rfl rfl) rfl rfl ?_) | ((with_reducible refine ik_callv ?_); first | (refine wo_call rfl rfl rfl rfl (k44 _ (g3.trans gr_A) wf_A) rfl rfl ?_; rintro _ _ ⟨⟨ra, rc, rfl, sr⟩, hq⟩; all_goals ((try (have hqn := hq.nx)); (try simp only [H.nx_push, H.nx_set, H.nx_bump] at hqn))) | (refine wo_call rfl rfl rfl rfl (k45 _ (g3.trans gr_A) wf_A) rfl rfl ?_; rintro _ _ ⟨rfl, hq⟩; all_goals ((try (have hqn := hq.nx)); (try simp only [H.nx_push, H.nx_set, H.nx_bump] at hqn))))) | with_reducible refine sq_norm ?_ | with_reducible refine wc_seq ?_ | with_reducible refine wc_region ?_ | refine wc_ift rfl ?_)
      refine ⟨rfl, (ra, rc), within_lk ⟨rfl, rfl, rfl, rfl, rfl, rfl, rfl, rfl, rfl, rfl, trivial⟩, ⟨wf_A, gr_A⟩, ?_, at_A⟩
      exact Sl.set_ne (sr.grow gr_A) at_A (by decide) _
    · have e0 := hbad he
      have e1 := hE1 he
      simp only [List.cons.injEq, and_true] at e1
      obtain ⟨rfl, rfl, rfl, rfl, rfl, rfl⟩ := e1
      subst e0
      subst hK
      repeat' (first | with_reducible refine wo_nil ?_ | ((with_reducible refine wo_any ?_); first | ((with_reducible refine ik_move ?_); refine wo_op rfl (op_move rfl) rfl rfl ?_) | ((with_reducible refine ik_bin ?_); refine wo_op rfl (op_eql rfl rfl) rfl rfl ?_)) | with_reducible refine sq_norm ?_ | with_reducible refine wc_seq ?_ | with_reducible refine wc_region ?_ | with_reducible refine wc_skip ?_ | (refine wc_if rfl (fun hb => dead_A hb) (fun hb => ?_); (try simp only [decide_eq_true_eq, decide_eq_false_iff_not, Bool.not_eq_true', Bool.not_eq_false', Int.not_lt, Int.not_le, Decidable.not_not, not_true_eq_false, not_false_eq_true, beq_self_eq_true, reduceCtorEq] at hb)))
      exact ⟨rfl, (none, 0), within_lk ⟨rfl, rfl, rfl, rfl, rfl, rfl, rfl, rfl, rfl, rfl, trivial⟩, ⟨wf_A, gr_A⟩, .nil, at_A⟩
  clear w1 g2 n2 hb at11 q44 q45
  rintro ⟨ra, rc⟩ h5 ⟨⟨w1, g2⟩, sr, at11⟩
  dsimp only at sr ⊢
  have sm := sm.grow g2
  have at5 := at5.grow g2
  have at7 := at7.grow g2
  have g1 := g1.trans g2
  clear g2
  refine wc_mid (ι := Nat) (fun b12 => [(0, .slice a n c), (3, .slice ma K mc), (4, .int .i64 E), (5, .pointer (some ⟨b5, 0, some 0⟩)), (6, .int .i64 E), (7, .pointer (some ⟨b7, 0, some 0⟩)), (8, .int .i64 D), (9, .int .i64 E), (10, .slice ra K rc), (11, .pointer (some ⟨b11, 0, some 0⟩)), (12, .pointer (some ⟨b12, 0, some 0⟩)), (13, .int .i64 D)]) (fun b12 h' => (Wf h' ∧ Grow h5 h') ∧ At h' b12 (.cells [.int .i64 dn, .int .i64 dd] 92 2 false)) ?_ ?_
  · clear q40 q49 q51 q50 q47 q48 q13
    have n1 := g1.nx
    repeat' (first | with_reducible refine wo_nil ?_ | ((with_reducible refine wo_any ?_); first | ((with_reducible refine ik_move ?_); refine wo_op rfl (op_move rfl) rfl rfl ?_) | ((with_reducible refine ik_assign ?_); refine wo_op rfl (op_assign rfl) rfl rfl ?_) | ((with_reducible refine ik_extract ?_); refine wo_op rfl (op_extract rfl rfl) rfl rfl ?_) | ((with_reducible refine ik_alloc ?_); refine wo_op rfl (op_alloc zz92 zs92 rfl rfl rfl) rfl rfl ?_) | ((with_reducible refine ik_store ?_); refine wo_op0 rfl (op_stAgg rfl rfl at_A zs92 rfl rfl rfl rfl) rfl ?_) | ((with_reducible refine ik_callv ?_); (refine wo_call rfl rfl rfl rfl (q46 _ (g1.trans gr_A) wf_A) rfl rfl ?_; rintro _ _ ⟨rfl, hq⟩; all_goals ((try (have hqn := hq.nx)); (try simp only [H.nx_push, H.nx_set, H.nx_bump] at hqn))))) | with_reducible refine wc_region ?_)
    exact ⟨rfl, _, within_lk ⟨rfl, rfl, rfl, rfl, rfl, rfl, rfl, rfl, rfl, rfl, rfl, rfl, trivial⟩, ⟨wf_A, gr_A⟩, at_A⟩
  clear w1 q46
  rintro b12 h6 ⟨⟨w1, g2⟩, at12⟩
  have sm := sm.grow g2
  have sr := sr.grow g2
  have at5 := at5.grow g2
  have at7 := at7.grow g2
  have at11 := at11.grow g2
  have g1 := g1.trans g2
  clear g2
  have n1 := g1.nx
  have l5 := at5.lt
  have l7 := at7.lt
  have l11 := at11.lt
  have l12 := at12.lt
  clear hbad hE1 hK
  repeat' (first | with_reducible refine wo_nil ?_ | ((with_reducible refine wo_any ?_); first | ((with_reducible refine ik_move ?_); refine wo_op rfl (op_move rfl) rfl rfl ?_) | ((with_reducible refine ik_assign ?_); refine wo_op rfl (op_assign rfl) rfl rfl ?_) | ((with_reducible refine ik_pick ?_); refine wo_op rfl (op_pickt rfl rfl) rfl rfl ?_) | ((with_reducible refine ik_callv ?_); first | (refine wo_call rfl rfl rfl rfl (q47 _ wf_A) rfl rfl ?_; rintro _ _ ⟨⟨wa, wc, rfl, sa⟩, hq⟩; all_goals ((try (have hqn := hq.nx)); (try simp only [H.nx_push, H.nx_set, H.nx_bump] at hqn))) | (refine wo_call rfl rfl rfl rfl (q48 _ wf_A) rfl rfl ?_; rintro _ _ ⟨⟨xa, xc, rfl, sx⟩, hq⟩; all_goals ((try (have hqn := hq.nx)); (try simp only [H.nx_push, H.nx_set, H.nx_bump] at hqn))) | (refine wo_call rfl rfl rfl rfl (q13 _ _ _ (sa.grow gr_A) (sx.grow gr_A) wf_A) rfl rfl ?_; rintro _ _ ⟨rfl, hq⟩; all_goals ((try (have hqn := hq.nx)); (try simp only [H.nx_push, H.nx_set, H.nx_bump] at hqn)))) | ((with_reducible refine ik_g ?_); first | ((with_reducible refine ig_move ?_); refine wo_grun rfl rfl rfl (op_move rfl) rfl rfl ?_) | ((with_reducible refine ig_bin ?_); first | refine wo_grun rfl rfl rfl (op_eqT 3 rfl rfl rfl Tryz.underlying22 rfl eg22 eqH) rfl rfl ?_ | refine wo_grun rfl rfl rfl (op_eqT 3 rfl rfl rfl Tryz.underlying92 rfl eg92 eqR) rfl rfl ?_ | refine wo_grun rfl rfl rfl (op_eql rfl rfl) rfl rfl ?_) | ((with_reducible refine ig_load ?_); first | refine wo_grun rfl rfl rfl (op_ldAgg rfl at_A Tryz.underlying22 rfl zs22 rfl rfl) rfl rfl ?_ | refine wo_grun rfl rfl rfl (op_ldAgg rfl at_A Tryz.underlying92 rfl zs92 rfl rfl) rfl rfl ?_) | ((with_reducible refine ig_callF (f := 15) ?_); refine wo_grun rfl rfl rfl (op_call rfl rfl (c15)) rfl rfl ?_) | ((with_reducible refine ig_callv ?_); first | (refine wo_gcall rfl rfl rfl rfl rfl rfl (q40 _ (g1.trans gr_A) wf_A) rfl rfl ?_; rintro _ _ ⟨⟨a1, c1, rfl, s1⟩, hq⟩; all_goals ((try (have hqn := hq.nx)); (try simp only [H.nx_push, H.nx_set, H.nx_bump] at hqn))) | (refine wo_gcall rfl rfl rfl rfl rfl rfl (q49 _ _ (s1.grow gr_A) wf_A) rfl rfl ?_; rintro _ _ ⟨rfl, hq⟩; all_goals ((try (have hqn := hq.nx)); (try simp only [H.nx_push, H.nx_set, H.nx_bump] at hqn))) | (refine wo_gcall rfl rfl rfl rfl rfl rfl (q51 _ _ (sm.grow gr_A) wf_A) rfl rfl ?_; rintro _ _ ⟨⟨oa, oc, rfl, so⟩, hq⟩; all_goals ((try (have hqn := hq.nx)); (try simp only [H.nx_push, H.nx_set, H.nx_bump] at hqn))) | (refine wo_gcall rfl rfl rfl rfl rfl rfl (q50 _ _ _ (so.grow gr_A) (sr.grow gr_A) wf_A) rfl rfl ?_; rintro _ _ ⟨rfl, hq⟩; all_goals ((try (have hqn := hq.nx)); (try simp only [H.nx_push, H.nx_set, H.nx_bump] at hqn)))) | (refine wo_gsplit rfl rfl rfl (fun hb => ?_) (fun hb => (of_decide_eq_false hb rfl).elim); (try simp only [decide_eq_true_eq, decide_eq_false_iff_not, Bool.not_eq_true', Bool.not_eq_false', Int.not_lt, Int.not_le, Decidable.not_not, not_true_eq_false, not_false_eq_true, beq_self_eq_true, reduceCtorEq] at hb)))) | with_reducible refine sq_norm ?_ | with_reducible refine wc_seq ?_ | with_reducible refine wc_region ?_ | with_reducible refine wc_ret ?_)
  all_goals exact rq1 rfl ⟨rfl, g1.trans gr_A⟩
end Go.Proofs.YtlioomhcdlicmaaGreatDoor
