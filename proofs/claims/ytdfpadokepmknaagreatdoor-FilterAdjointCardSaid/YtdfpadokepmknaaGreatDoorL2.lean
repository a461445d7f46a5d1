/- The law FilterAdjoint, walked. -/
import Derived.Test.YtdfpadokepmknaaGreatDoorL1
set_option linter.all false
/- The law FilterAdjoint, walked. -/
namespace Go.Proofs.YtdfpadokepmknaaGreatDoor
open Go Go.Ab Go.Fl
attribute [local irreducible] SeqQ BlkQ LpQ RetQ Wc Wo WD WX Op1 Op1q Op1a Cf Cl From
attribute [local irreducible] Ieee.Format.order Ieee.Format.read Ieee.Format.nearest Ieee.Format.write Ieee.Format.mul Ieee.Format.div Ieee.Datum.order Ieee.Datum.integral smpE smp smpW K J U sumN lchk tchk trE hdrE appL adjL quietB appE adjE pairE innL addL mixN addW
set_option maxRecDepth 10000
variable {G : Base} {h : H}

set_option maxHeartbeats 4000000 in
theorem c3n {x0 x1 a b : Option Addr} {n p c0 c1 m c k d : Nat} {l0 l1 : List Nat} {t s : List Int} (st : Sl G h 1 (.slice a m c) m (t.map (.int .i64))) (ss : Sl G h 1 (.slice b k d) k (s.map (.int .i64))) (s0 : Sl G h 1 (.slice x0 n c0) n (l0.map (.float .f32))) (s1 : Sl G h 1 (.slice x1 p c1) p (l1.map (.float .f32))) (hS : ¬(m ≤ 9 ∧ k ≤ 9 ∧ tchk t = 0 ∧ tchk s = 0 ∧ quietB l0 60 = true ∧ quietB l1 60 = true ∧ n = p)) (hw : Wf h) : Cf (mz G) (.func (.func 3) #[] #[]) [.slice a m c, .slice b k d, .agg ⟨[.slice x0 n c0, .slice x1 p c1]⟩] h fun r h' => r = .bool true ∧ Grow h h' := by
  have q12 := fun (h' : H) (g : Grow h h') (q : m < 1000000) => c12 (st.grow g) q
  have r12 := fun (h' : H) (g : Grow h h') (q : k < 1000000) => c12 (ss.grow g) q
  have q13 := fun (h' : H) (g : Grow h h') => c13 (L := 60) (s0.grow g) (by decide)
  have r13 := fun (h' : H) (g : Grow h h') => c13 (L := 60) (s1.grow g) (by decide)
  obtain ⟨ET, hET⟩ : ∃ E, tchk t = E := ⟨_, rfl⟩
  obtain ⟨ES, hES⟩ : ∃ E, tchk s = E := ⟨_, rfl⟩
  obtain ⟨Q0, hQ0⟩ : ∃ E, quietB l0 60 = E := ⟨_, rfl⟩
  obtain ⟨Q1, hQ1⟩ : ∃ E, quietB l1 60 = E := ⟨_, rfl⟩
  rw [hET, hES, hQ0, hQ1] at hS
  rw [hET] at q12
  rw [hES] at r12
  rw [hQ0] at q13
  rw [hQ1] at r13
  clear hET hES hQ0 hQ1
  cases Q0 <;> cases Q1
  all_goals simp only [Bool.false_eq_true, false_and, and_false, true_and, not_false_eq_true] at hS
  all_goals
    refine cf_enter0 316 [.tmp 6] Tryz.func3 rfl rfl rfl rfl ?_
    repeat' (first | with_reducible refine wo_nil ?_ | ((with_reducible refine wo_any ?_); first | ((with_reducible refine ik_move ?_); refine wo_op rfl (op_move rfl) rfl rfl ?_) | ((with_reducible refine ik_assign ?_); refine wo_op rfl (op_assign rfl) rfl rfl ?_) | ((with_reducible refine ik_box ?_); refine wo_op rfl (op_boxAgg rfl zs24 rfl) rfl rfl ?_) | ((with_reducible refine ik_un ?_); refine wo_op rfl (op_not rfl) rfl rfl ?_) | ((with_reducible refine ik_pick ?_); first | refine wo_op rfl (op_pickt rfl rfl) rfl rfl ?_ | refine wo_op rfl (op_pickf rfl rfl) rfl rfl ?_) | ((with_reducible refine ik_callF (f := 10) ?_); refine wo_op rfl (op_call rfl rfl (c10)) rfl rfl ?_) | ((with_reducible refine ik_g ?_); first | refine wo_gskip rfl rfl rfl rfl rfl rfl ?_ | ((with_reducible refine ig_move ?_); refine wo_grun rfl rfl rfl (op_move rfl) rfl rfl ?_) | ((with_reducible refine ig_un ?_); refine wo_grun rfl rfl rfl (op_not rfl) rfl rfl ?_) | ((with_reducible refine ig_bin ?_); refine wo_grun rfl rfl rfl (op_neq rfl rfl) rfl rfl ?_) | ((with_reducible refine ig_indexAddr ?_); refine wo_grun rfl rfl rfl (op_idxArr' rfl rfl Tryz.underlying24 zs23 (by omega) (by omega)) rfl rfl ?_) | ((with_reducible refine ig_load ?_); refine wo_grun rfl rfl rfl (op_ldAt rfl at_A Tryz.underlying23 rfl rfl) rfl rfl ?_) | ((with_reducible refine ig_callb ?_); refine wo_grun rfl rfl rfl (op_lenSl rfl Tryz.underlying23) rfl rfl ?_) | ((with_reducible refine ig_callF (f := 11) ?_); refine wo_grun rfl rfl rfl (op_call rfl rfl (c11)) rfl rfl ?_) | ((with_reducible refine ig_callv ?_); first | refine wo_grun rfl rfl rfl (op_call rfl rfl (q12 _ gr_A (by omega))) rfl rfl ?_ | refine wo_grun rfl rfl rfl (op_call rfl rfl (r12 _ gr_A (by omega))) rfl rfl ?_ | refine wo_grun rfl rfl rfl (op_call rfl rfl (q13 _ gr_A)) rfl rfl ?_ | refine wo_grun rfl rfl rfl (op_call rfl rfl (r13 _ gr_A)) rfl rfl ?_) | (refine wo_gsplit rfl rfl rfl (fun hb => ?_) (fun hb => ?_) <;> (try simp only [decide_eq_true_eq, decide_eq_false_iff_not, Bool.not_eq_true', Bool.not_eq_false', Int.not_lt, Int.not_le, Decidable.not_not, not_true_eq_false, not_false_eq_true, beq_self_eq_true, reduceCtorEq] at hb) <;> (try (exfalso; omega))))) | with_reducible refine sq_norm ?_ | with_reducible refine wc_seq ?_ | with_reducible refine wc_region ?_ | with_reducible refine wc_ret ?_ | with_reducible refine sq_ret ?_ | refine wc_ift rfl ?_ | (refine wc_if rfl (fun hb => ?_) (fun hb => ?_) <;> (try simp only [decide_eq_true_eq, decide_eq_false_iff_not, Bool.not_eq_true', Bool.not_eq_false', Int.not_lt, Int.not_le, Decidable.not_not, not_true_eq_false, not_false_eq_true, beq_self_eq_true, reduceCtorEq] at hb) <;> (try (exfalso; omega))))
    all_goals exact rq1 rfl ⟨rfl, gr_A⟩


set_option maxHeartbeats 4000000 in
theorem c3m {x0 x1 a b : Option Addr} {n c0 c1 m c k d : Nat} {l0 l1 : List Nat} {t s : List Int} (st : Sl G h 1 (.slice a m c) m (t.map (.int .i64))) (ss : Sl G h 1 (.slice b k d) k (s.map (.int .i64))) (s0 : Sl G h 1 (.slice x0 n c0) n (l0.map (.float .f32))) (s1 : Sl G h 1 (.slice x1 n c1) n (l1.map (.float .f32))) (hm9 : m ≤ 9) (hk9 : k ≤ 9) (zt : tchk t = 0) (zs : tchk s = 0) (z0 : quietB l0 60 = true) (z1 : quietB l1 60 = true) (hw : Wf h) (hG : ∀ a v, laidBase a = some v → G a = some v) : Cf (mz G) (.func (.func 3) #[] #[]) [.slice a m c, .slice b k d, .agg ⟨[.slice x0 n c0, .slice x1 n c1]⟩] h fun r h' => r = .bool true ∧ Grow h h' := by
  have hlt := st.length
  have hls := ss.length
  have hl0 := s0.length
  have hl1 := s1.length
  simp at hlt hls hl0 hl1
  have hm6 : m < 1000000 := by omega
  have hk6 : k < 1000000 := by omega
  have y0 := z0
  have y1 := z1
  unfold quietB at y0 y1
  obtain ⟨u0, v0, w0⟩ := of_decide_eq_true y0
  obtain ⟨u1, v1, w1⟩ := of_decide_eq_true y1
  have hn6 : n < 1000000 := by omega
  have hn24 : n ≤ 24 := by omega
  have e0 : ∀ z ∈ l0, smpE z = 0 := fun z hz => firstNZ_zero v0 _ (List.mem_map_of_mem hz)
  have e1 : ∀ z ∈ l1, smpE z = 0 := fun z hz => firstNZ_zero v1 _ (List.mem_map_of_mem hz)
  have lc0 := lchk_of (by omega) e0
  have lc1 := lchk_of (by omega) e1
  obtain ⟨t1, t2, _⟩ := tchk_ok zt
  obtain ⟨t3, t4, _⟩ := tchk_ok zs
  obtain ⟨L0, hL0⟩ : ∃ L, l0.map smp = L := ⟨_, rfl⟩
  obtain ⟨L1, hL1⟩ : ∃ L, l1.map smp = L := ⟨_, rfl⟩
  have b0 : ∀ z ∈ L0, z.natAbs ≤ 60 := fun z hz => by rw [← hL0] at hz; obtain ⟨x, hx, rfl⟩ := List.mem_map.1 hz; exact w0 x hx
  have b1 : ∀ z ∈ L1, z.natAbs ≤ 60 := fun z hz => by rw [← hL1] at hz; obtain ⟨x, hx, rfl⟩ := List.mem_map.1 hz; exact w1 x hx
  have n0 : L0.length = n := by rw [← hL0]; simpa using hl0
  have n1 : L1.length = n := by rw [← hL1]; simpa using hl1
  have sm : ∀ {r x : List Int}, (∀ z ∈ r, z.natAbs ≤ 16) → r.length ≤ 8 → (∀ z ∈ x, z.natAbs ≤ 60) → ∀ z ∈ appL r x, z.natAbs ≤ 7680 := fun hr hr8 hx z hz => by
    have := appL_bound hr hx z hz
    have h2 := Nat.mul_le_mul_right (16 * 60) hr8
    omega
  obtain ⟨aA, hA⟩ : ∃ L, appL t L0 = L := ⟨_, rfl⟩
  obtain ⟨aB, hB⟩ : ∃ L, adjL t L1 = L := ⟨_, rfl⟩
  have bA : ∀ z ∈ aA, z.natAbs ≤ 7680 := by rw [← hA]; exact sm t2 t1.2 b0
  have bB : ∀ z ∈ aB, z.natAbs ≤ 7680 := by
    rw [← hB]; unfold adjL
    exact fun z hz => sm t2 t1.2 (fun x hx => b1 x (List.mem_reverse.1 hx)) z (List.mem_reverse.1 hz)
  have nA : aA.length = n := by rw [← hA, appL_len, n0]
  have nB : aB.length = n := by rw [← hB]; unfold adjL; rw [List.length_reverse, appL_len, List.length_reverse, n1]
  obtain ⟨mA, eA⟩ := made_smp (L := aA) (fun z hz => Nat.le_trans (bA z hz) (by decide))
  obtain ⟨mB, eB⟩ := made_smp (L := aB) (fun z hz => Nat.le_trans (bB z hz) (by decide))
  have lcA := lchk_of (l := aA.map smpW) (by simp; omega) eA
  have lcB := lchk_of (l := aB.map smpW) (by simp; omega) eB
  have E0 : appE t l0 = 0 := appE_ok zt lc0 (large_no (by rw [hL0, hA]; exact fun z hz => Nat.le_trans (bA z hz) (by decide)))
  have E1 : adjE t l1 = 0 := adjE_ok zt lc1 (large_no (by rw [hL1, hB]; exact fun z hz => Nat.le_trans (bB z hz) (by decide)))
  have q12 := fun (h' : H) (g : Grow h h') => c12 (st.grow g) hm6
  have r12 := fun (h' : H) (g : Grow h h') => c12 (ss.grow g) hk6
  have q13 := fun (h' : H) (g : Grow h h') => c13 (L := 60) (s0.grow g) (by decide)
  have r13 := fun (h' : H) (g : Grow h h') => c13 (L := 60) (s1.grow g) (by decide)
  rw [zt] at q12
  rw [zs] at r12
  rw [z0] at q13
  rw [z1] at r13
  have q14 := fun (h' : H) (v w : Value) (u1 : Sl G h' 1 v m (t.map (.int .i64))) (u2 : Sl G h' 1 w n (l0.map (.float .f32))) (w' : Wf h') => c14k (G := G) (h := h') u1 u2 hm6 hn6 w' hG E0
  have q17 := fun (h' : H) (v w : Value) (u1 : Sl G h' 1 v m (t.map (.int .i64))) (u2 : Sl G h' 1 w n (l1.map (.float .f32))) (w' : Wf h') => c17k (G := G) (h := h') u1 u2 hm6 hn6 w' hG E1
  rw [hL0, hA] at q14
  rw [hL1, hB] at q17
  refine cf_enter0 316 [.tmp 6] Tryz.func3 rfl rfl rfl rfl ?_
  refine wc_mid (ι := Unit) (fun _ => [(0, .slice a m c), (1, .slice b k d), (5, .pointer (some ⟨h.nx, 0, some 0⟩))]) (fun _ h' => (Wf h' ∧ Grow h h' ∧ At h' h.nx (.cells [.slice x0 n c0, .slice x1 n c1] 24 2 false))) ?_ ?_
  · repeat' (first | with_reducible refine wo_nil ?_ | ((with_reducible refine wo_any ?_); first | ((with_reducible refine ik_assign ?_); refine wo_op rfl (op_assign rfl) rfl rfl ?_) | ((with_reducible refine ik_box ?_); refine wo_op rfl (op_boxAgg rfl zs24 rfl) rfl rfl ?_)) | with_reducible refine wc_region ?_)
    exact ⟨rfl, (), within_lk ⟨rfl, rfl, rfl, trivial⟩, wf_A, gr_A, at_A⟩
  rintro _ ha ⟨wa, ga, aa⟩
  refine wc_mid (ι := Unit) (fun _ => [(0, .slice a m c), (1, .slice b k d), (5, .pointer (some ⟨h.nx, 0, some 0⟩))]) (fun _ h' => (Wf h' ∧ Grow h h' ∧ At h' h.nx (.cells [.slice x0 n c0, .slice x1 n c1] 24 2 false))) ?_ ?_
  · repeat' (first | with_reducible refine wo_nil ?_ | ((with_reducible refine wo_any ?_); first | ((with_reducible refine ik_move ?_); refine wo_op rfl (op_move rfl) rfl rfl ?_) | ((with_reducible refine ik_un ?_); refine wo_op rfl (op_not rfl) rfl rfl ?_) | ((with_reducible refine ik_pick ?_); refine wo_op rfl (op_pickf rfl rfl) rfl rfl ?_) | ((with_reducible refine ik_callF (f := 10) ?_); refine wo_op rfl (op_call rfl rfl (c10)) rfl rfl ?_) | ((with_reducible refine ik_g ?_); first | ((with_reducible refine ig_move ?_); refine wo_grun rfl rfl rfl (op_move rfl) rfl rfl ?_) | ((with_reducible refine ig_un ?_); refine wo_grun rfl rfl rfl (op_not rfl) rfl rfl ?_) | ((with_reducible refine ig_bin ?_); refine wo_grun rfl rfl rfl (op_neq rfl rfl) rfl rfl ?_) | ((with_reducible refine ig_indexAddr ?_); refine wo_grun rfl rfl rfl (op_idxArr' rfl rfl Tryz.underlying24 zs23 (by omega) (by omega)) rfl rfl ?_) | ((with_reducible refine ig_load ?_); refine wo_grun rfl rfl rfl (op_ldAt rfl at_A Tryz.underlying23 rfl rfl) rfl rfl ?_) | ((with_reducible refine ig_callb ?_); refine wo_grun rfl rfl rfl (op_lenSl rfl Tryz.underlying23) rfl rfl ?_) | ((with_reducible refine ig_callF (f := 11) ?_); refine wo_grun rfl rfl rfl (op_call rfl rfl (c11)) rfl rfl ?_) | ((with_reducible refine ig_callv ?_); first | refine wo_grun rfl rfl rfl (op_call rfl rfl (q12 _ gr_A)) rfl rfl ?_ | refine wo_grun rfl rfl rfl (op_call rfl rfl (r12 _ gr_A)) rfl rfl ?_ | refine wo_grun rfl rfl rfl (op_call rfl rfl (q13 _ gr_A)) rfl rfl ?_ | refine wo_grun rfl rfl rfl (op_call rfl rfl (r13 _ gr_A)) rfl rfl ?_) | (refine wo_gsplit rfl rfl rfl (fun hb => dead_A hb) (fun hb => ?_); (try simp only [decide_eq_true_eq, decide_eq_false_iff_not, Bool.not_eq_true', Bool.not_eq_false', Int.not_lt, Int.not_le, Decidable.not_not, not_true_eq_false, not_false_eq_true, beq_self_eq_true, reduceCtorEq] at hb)))) | with_reducible refine sq_norm ?_ | with_reducible refine wc_seq ?_ | with_reducible refine wc_region ?_ | with_reducible refine wc_skip ?_ | (refine wc_if rfl (fun hb => (of_decide_eq_true hb rfl).elim) (fun hb => ?_); (try simp only [decide_eq_true_eq, decide_eq_false_iff_not, Bool.not_eq_true', Bool.not_eq_false', Int.not_lt, Int.not_le, Decidable.not_not, not_true_eq_false, not_false_eq_true, beq_self_eq_true, reduceCtorEq] at hb)))
    exact ⟨rfl, (), within_lk ⟨rfl, rfl, rfl, trivial⟩, wf_A, gr_A, at_A⟩
  clear wa ga aa ha q12 r12 q13 r13
  rintro _ ha ⟨wa, ga, aa⟩
  have la := aa.lt
  refine wc_mid (ι := Option Addr × Nat) (fun i => [(0, .slice a m c), (1, .slice b k d), (5, .pointer (some ⟨h.nx, 0, some 0⟩)), (7, .slice i.1 n i.2), (8, .int .i64 0)]) (fun i h' => (Wf h' ∧ Grow h h' ∧ At h' h.nx (.cells [.slice x0 n c0, .slice x1 n c1] 24 2 false)) ∧ Sl G h' 1 (.slice i.1 n i.2) n ((aA.map smpW).map (.float .f32))) ?_ ?_
  · repeat' (first | ((with_reducible refine xk_any ?_); ((with_reducible refine xk_as0 ?_); first | ((with_reducible refine xk_move ?_); refine wx_q (wt_none rfl) rfl rfl (op_q rfl (op_move rfl)) rfl rfl rfl ?_) | ((with_reducible refine xk_assign ?_); refine wx_q (wt_none rfl) rfl rfl (op_q rfl (op_assign rfl)) rfl rfl rfl ?_) | ((with_reducible refine xk_indexAddr ?_); refine wx_q (wt_none rfl) rfl rfl (op_q rfl (op_idxArr' rfl rfl Tryz.underlying24 zs23 (by omega) (by omega))) rfl rfl rfl ?_) | ((with_reducible refine xk_load ?_); refine wx_h0 (wt_none rfl) rfl (op_q rfl (op_ldAt rfl at_A Tryz.underlying23 rfl rfl)) rfl rfl rfl ?_) | ((with_reducible refine xk_extract ?_); refine wx_q (wt_none rfl) rfl rfl (op_q rfl (op_extract rfl rfl)) rfl rfl rfl ?_) | ((with_reducible refine xk_callF (f := 15) ?_); (refine wx_call0 (wt_none rfl) rfl rfl rfl rfl (c15 (st.grow gr_A) hm6) rfl rfl ?_; rintro _ _ ⟨si, hq, hwi⟩; all_goals ((try (have hqn := hq.nx)); (try simp only [H.nx_push, H.nx_set, H.nx_bump] at hqn)))) | ((with_reducible refine xk_callF (f := 16) ?_); (refine wx_call0 (wt_none rfl) rfl rfl rfl rfl (c16 (s0.grow gr_A) hn6) rfl rfl ?_; rintro _ _ ⟨sf, hq, hwf⟩; all_goals ((try (have hqn := hq.nx)); (try simp only [H.nx_push, H.nx_set, H.nx_bump] at hqn)))) | ((with_reducible refine xk_callv ?_); (refine wx_call0 (wt_none rfl) rfl rfl rfl rfl (q14 _ _ _ (si.grow gr_A) (sf.grow gr_A) wf_A) rfl rfl ?_; rintro _ _ ⟨⟨a7, c7, rfl, sA⟩, hq⟩; all_goals ((try (have hqn := hq.nx)); (try simp only [H.nx_push, H.nx_set, H.nx_bump] at hqn)))) | with_reducible refine wx_nil0 ?_ ?_)) | with_reducible exact obl_nil | with_reducible refine obl_cons ?_ ?_ | ((with_reducible refine ik_obs ?_); first | exact obs_nil | refine obs_skip rfl ?_ | refine obs_chkn rfl rfl (op_q rfl (op_ldAt rfl at_A Tryz.underlying23 rfl (by rfl))) ?_) | refine wc_drawB (id := 3) 11 [0, 1, 0, 4, 15, 31, 63, 127, 127, 255, 1023] [0, 1, 2, 3, 4, 5, 6, 7, 8, 9, 10] (by kernel_rfl) (by kernel_rfl) rfl rfl ?_)
    exact ⟨rfl, (a7, c7), within_lk ⟨rfl, rfl, rfl, rfl, rfl, trivial⟩, ⟨wf_A, gr_A, at_A⟩, sA.grow gr_A⟩

  clear wa ga aa la ha q14
  rintro ⟨a7, c7⟩ ha ⟨⟨wa, ga, aa⟩, sA⟩
  simp only at sA ⊢
  have la := aa.lt
  refine wc_mid (ι := Option Addr × Nat) (fun i => [(0, .slice a m c), (1, .slice b k d), (5, .pointer (some ⟨h.nx, 0, some 0⟩)), (7, .slice a7 n c7), (8, .int .i64 0), (9, .slice i.1 n i.2), (10, .int .i64 0)]) (fun i h' => (Wf h' ∧ Grow h h' ∧ At h' h.nx (.cells [.slice x0 n c0, .slice x1 n c1] 24 2 false)) ∧ Sl G h' 1 (.slice a7 n c7) n ((aA.map smpW).map (.float .f32)) ∧ Sl G h' 1 (.slice i.1 n i.2) n ((aB.map smpW).map (.float .f32))) ?_ ?_
  · repeat' (first | ((with_reducible refine xk_any ?_); ((with_reducible refine xk_as0 ?_); first | ((with_reducible refine xk_move ?_); refine wx_q (wt_none rfl) rfl rfl (op_q rfl (op_move rfl)) rfl rfl rfl ?_) | ((with_reducible refine xk_assign ?_); refine wx_q (wt_none rfl) rfl rfl (op_q rfl (op_assign rfl)) rfl rfl rfl ?_) | ((with_reducible refine xk_indexAddr ?_); refine wx_q (wt_none rfl) rfl rfl (op_q rfl (op_idxArr' rfl rfl Tryz.underlying24 zs23 (by omega) (by omega))) rfl rfl rfl ?_) | ((with_reducible refine xk_load ?_); refine wx_h0 (wt_none rfl) rfl (op_q rfl (op_ldAt rfl at_A Tryz.underlying23 rfl rfl)) rfl rfl rfl ?_) | ((with_reducible refine xk_extract ?_); refine wx_q (wt_none rfl) rfl rfl (op_q rfl (op_extract rfl rfl)) rfl rfl rfl ?_) | ((with_reducible refine xk_callF (f := 15) ?_); (refine wx_call0 (wt_none rfl) rfl rfl rfl rfl (c15 (st.grow gr_A) hm6) rfl rfl ?_; rintro _ _ ⟨si, hq, hwi⟩; all_goals ((try (have hqn := hq.nx)); (try simp only [H.nx_push, H.nx_set, H.nx_bump] at hqn)))) | ((with_reducible refine xk_callF (f := 16) ?_); (refine wx_call0 (wt_none rfl) rfl rfl rfl rfl (c16 (s1.grow gr_A) hn6) rfl rfl ?_; rintro _ _ ⟨sf, hq, hwf⟩; all_goals ((try (have hqn := hq.nx)); (try simp only [H.nx_push, H.nx_set, H.nx_bump] at hqn)))) | ((with_reducible refine xk_callv ?_); (refine wx_call0 (wt_none rfl) rfl rfl rfl rfl (q17 _ _ _ (si.grow gr_A) (sf.grow gr_A) wf_A) rfl rfl ?_; rintro _ _ ⟨⟨a9, c9, rfl, sB⟩, hq⟩; all_goals ((try (have hqn := hq.nx)); (try simp only [H.nx_push, H.nx_set, H.nx_bump] at hqn)))) | with_reducible refine wx_nil0 ?_ ?_)) | with_reducible exact obl_nil | with_reducible refine obl_cons ?_ ?_ | ((with_reducible refine ik_obs ?_); first | exact obs_nil | refine obs_skip rfl ?_ | refine obs_chkn rfl rfl (op_q rfl (op_ldAt rfl at_A Tryz.underlying23 rfl (by rfl))) ?_) | refine wc_drawB (id := 4) 11 [0, 1, 0, 4, 15, 31, 63, 127, 127, 255, 1023] [0, 1, 2, 3, 4, 5, 6, 7, 8, 9, 10] (by kernel_rfl) (by kernel_rfl) rfl rfl ?_)
    exact ⟨rfl, (a9, c9), within_lk ⟨rfl, rfl, rfl, rfl, rfl, rfl, rfl, trivial⟩, ⟨wf_A, gr_A, at_A⟩, sA.grow gr_A, sB.grow gr_A⟩
  clear wa ga aa la ha q17 sA
  rintro ⟨a9, c9⟩ ha ⟨⟨wa, ga, aa⟩, sA, sB⟩
  simp only at sA sB ⊢
  refine wc_mid (ι := Unit) (fun _ => [(0, .slice a m c), (1, .slice b k d), (5, .pointer (some ⟨h.nx, 0, some 0⟩)), (7, .slice a7 n c7), (9, .slice a9 n c9)]) (fun _ h' => (Wf h' ∧ Grow h h' ∧ At h' h.nx (.cells [.slice x0 n c0, .slice x1 n c1] 24 2 false)) ∧ Sl G h' 1 (.slice a7 n c7) n ((aA.map smpW).map (.float .f32)) ∧ Sl G h' 1 (.slice a9 n c9) n ((aB.map smpW).map (.float .f32))) ?_ ?_
  · repeat' (first | with_reducible refine wo_nil ?_ | ((with_reducible refine wo_any ?_); first | ((with_reducible refine ik_move ?_); refine wo_op rfl (op_move rfl) rfl rfl ?_) | ((with_reducible refine ik_pick ?_); refine wo_op rfl (op_pickf rfl rfl) rfl rfl ?_) | ((with_reducible refine ik_bin ?_); refine wo_op rfl (op_neq rfl rfl) rfl rfl ?_) | ((with_reducible refine ik_g ?_); first | ((with_reducible refine ig_move ?_); refine wo_grun rfl rfl rfl (op_move rfl) rfl rfl ?_) | ((with_reducible refine ig_bin ?_); refine wo_grun rfl rfl rfl (op_neq rfl rfl) rfl rfl ?_) | ((with_reducible refine ig_indexAddr ?_); refine wo_grun rfl rfl rfl (op_idxArr' rfl rfl Tryz.underlying24 zs23 (by omega) (by omega)) rfl rfl ?_) | ((with_reducible refine ig_load ?_); refine wo_grun rfl rfl rfl (op_ldAt rfl at_A Tryz.underlying23 rfl rfl) rfl rfl ?_) | ((with_reducible refine ig_callb ?_); refine wo_grun rfl rfl rfl (op_lenSl rfl Tryz.underlying23) rfl rfl ?_) | (refine wo_gsplit rfl rfl rfl (fun hb => (of_decide_eq_true hb rfl).elim) (fun hb => ?_); (try simp only [decide_eq_true_eq, decide_eq_false_iff_not, Bool.not_eq_true', Bool.not_eq_false', Int.not_lt, Int.not_le, Decidable.not_not, not_true_eq_false, not_false_eq_true, beq_self_eq_true, reduceCtorEq] at hb)))) | with_reducible refine sq_norm ?_ | with_reducible refine wc_seq ?_ | with_reducible refine wc_region ?_ | with_reducible refine wc_skip ?_ | (refine wc_if rfl (fun hb => (of_decide_eq_true hb rfl).elim) (fun hb => ?_); (try simp only [decide_eq_true_eq, decide_eq_false_iff_not, Bool.not_eq_true', Bool.not_eq_false', Int.not_lt, Int.not_le, Decidable.not_not, not_true_eq_false, not_false_eq_true, beq_self_eq_true, reduceCtorEq] at hb)))
    exact ⟨rfl, (), within_lk ⟨rfl, rfl, rfl, rfl, rfl, trivial⟩, ⟨wf_A, gr_A, at_A⟩, sA.grow gr_A, sB.grow gr_A⟩
  clear wa ga aa ha sA sB
  rintro _ ha ⟨⟨wa, ga, aa⟩, sA, sB⟩
  have la := aa.lt
  have hXY : innL aA L1 = innL L0 aB := by
    rw [← hA, ← hB]; unfold innL adjL; exact inn_adj (by omega)
  obtain ⟨X, hX⟩ : ∃ X, innL aA L1 = X := ⟨_, rfl⟩
  have q18 := fun (h' : H) (v w : Value) (u1 : Sl G h' 1 v n ((aA.map smpW).map (.float .f32))) (u2 : Sl G h' 1 w n (l1.map (.float .f32))) (w' : Wf h') => c18k (G := G) (h := h') u1 u2 hn6 hn6 w' hG (pairE_ok lcA lc1 (by simp; omega))
  have r18 := fun (h' : H) (v w : Value) (u1 : Sl G h' 1 v n (l0.map (.float .f32))) (u2 : Sl G h' 1 w n ((aB.map smpW).map (.float .f32))) (w' : Wf h') => c18k (G := G) (h := h') u1 u2 hn6 hn6 w' hG (pairE_ok lc0 lcB (by simp; omega))
  rw [mA, hL1, hX] at q18
  rw [mB, hL0, ← hXY, hX] at r18
  refine wc_mid (ι := Unit) (fun _ => [(0, .slice a m c), (1, .slice b k d), (5, .pointer (some ⟨h.nx, 0, some 0⟩)), (7, .slice a7 n c7), (9, .slice a9 n c9), (11, .int .i64 X), (12, .int .i64 0)]) (fun _ h' => (Wf h' ∧ Grow h h' ∧ At h' h.nx (.cells [.slice x0 n c0, .slice x1 n c1] 24 2 false)) ∧ Sl G h' 1 (.slice a7 n c7) n ((aA.map smpW).map (.float .f32)) ∧ Sl G h' 1 (.slice a9 n c9) n ((aB.map smpW).map (.float .f32))) ?_ ?_
  · repeat' (first | ((with_reducible refine xk_any ?_); ((with_reducible refine xk_as0 ?_); first | ((with_reducible refine xk_move ?_); refine wx_q (wt_none rfl) rfl rfl (op_q rfl (op_move rfl)) rfl rfl rfl ?_) | ((with_reducible refine xk_assign ?_); refine wx_q (wt_none rfl) rfl rfl (op_q rfl (op_assign rfl)) rfl rfl rfl ?_) | ((with_reducible refine xk_indexAddr ?_); refine wx_q (wt_none rfl) rfl rfl (op_q rfl (op_idxArr' rfl rfl Tryz.underlying24 zs23 (by omega) (by omega))) rfl rfl rfl ?_) | ((with_reducible refine xk_load ?_); refine wx_h0 (wt_none rfl) rfl (op_q rfl (op_ldAt rfl at_A Tryz.underlying23 rfl rfl)) rfl rfl rfl ?_) | ((with_reducible refine xk_extract ?_); refine wx_q (wt_none rfl) rfl rfl (op_q rfl (op_extract rfl rfl)) rfl rfl rfl ?_) | ((with_reducible refine xk_callF (f := 16) ?_); first | (refine wx_call0 (wt_none rfl) rfl rfl rfl rfl (c16 (sA.grow gr_A) hn6) rfl rfl ?_; rintro _ _ ⟨sf, hq, hwf⟩; all_goals ((try (have hqn := hq.nx)); (try simp only [H.nx_push, H.nx_set, H.nx_bump] at hqn))) | (refine wx_call0 (wt_none rfl) rfl rfl rfl rfl (c16 (s1.grow gr_A) hn6) rfl rfl ?_; rintro _ _ ⟨sg, hq, hwg⟩; all_goals ((try (have hqn := hq.nx)); (try simp only [H.nx_push, H.nx_set, H.nx_bump] at hqn)))) | ((with_reducible refine xk_callv ?_); (refine wx_call0 (wt_none rfl) rfl rfl rfl rfl (q18 _ _ _ (sf.grow gr_A) (sg.grow gr_A) wf_A) rfl rfl ?_; rintro _ _ ⟨rfl, hq⟩; all_goals ((try (have hqn := hq.nx)); (try simp only [H.nx_push, H.nx_set, H.nx_bump] at hqn)))) | with_reducible refine wx_nil0 ?_ ?_)) | with_reducible exact obl_nil | with_reducible refine obl_cons ?_ ?_ | ((with_reducible refine ik_obs ?_); first | exact obs_nil | refine obs_skip rfl ?_ | refine obs_chkn rfl rfl (op_q rfl (op_ldAt rfl at_A Tryz.underlying23 rfl (by rfl))) ?_) | refine wc_drawB (id := 7) 11 [0, 1, 0, 4, 15, 31, 63, 127, 127, 255, 1023] [0, 1, 2, 3, 4, 5, 6, 7, 8, 9, 10] (by kernel_rfl) (by kernel_rfl) rfl rfl ?_)
    exact ⟨rfl, (), within_lk ⟨rfl, rfl, rfl, rfl, rfl, rfl, rfl, trivial⟩, ⟨wf_A, gr_A, at_A⟩, sA.grow gr_A, sB.grow gr_A⟩
  clear wa ga aa la ha q18 sA sB
  rintro _ ha ⟨⟨wa, ga, aa⟩, sA, sB⟩
  have la := aa.lt
  refine wc_mid (ι := Unit) (fun _ => [(0, .slice a m c), (1, .slice b k d), (5, .pointer (some ⟨h.nx, 0, some 0⟩)), (7, .slice a7 n c7), (9, .slice a9 n c9), (11, .int .i64 X), (12, .int .i64 0), (13, .int .i64 X), (14, .int .i64 0)]) (fun _ h' => (Wf h' ∧ Grow h h' ∧ At h' h.nx (.cells [.slice x0 n c0, .slice x1 n c1] 24 2 false)) ∧ Sl G h' 1 (.slice a7 n c7) n ((aA.map smpW).map (.float .f32)) ∧ Sl G h' 1 (.slice a9 n c9) n ((aB.map smpW).map (.float .f32))) ?_ ?_
  · repeat' (first | with_reducible refine wo_nil ?_ | ((with_reducible refine wo_any ?_); first | ((with_reducible refine ik_move ?_); refine wo_op rfl (op_move rfl) rfl rfl ?_) | ((with_reducible refine ik_assign ?_); refine wo_op rfl (op_assign rfl) rfl rfl ?_) | ((with_reducible refine ik_indexAddr ?_); refine wo_op rfl (op_idxArr' rfl rfl Tryz.underlying24 zs23 (by omega) (by omega)) rfl rfl ?_) | ((with_reducible refine ik_load ?_); refine wo_op rfl (op_ldAt rfl at_A Tryz.underlying23 rfl rfl) rfl rfl ?_) | ((with_reducible refine ik_extract ?_); refine wo_op rfl (op_extract rfl rfl) rfl rfl ?_) | ((with_reducible refine ik_callF (f := 16) ?_); first | (refine wo_call rfl rfl rfl rfl (c16 (s0.grow gr_A) hn6) rfl rfl ?_; rintro _ _ ⟨sf, hq, hwf⟩; all_goals ((try (have hqn := hq.nx)); (try simp only [H.nx_push, H.nx_set, H.nx_bump] at hqn))) | (refine wo_call rfl rfl rfl rfl (c16 (sB.grow gr_A) hn6) rfl rfl ?_; rintro _ _ ⟨sg, hq, hwg⟩; all_goals ((try (have hqn := hq.nx)); (try simp only [H.nx_push, H.nx_set, H.nx_bump] at hqn)))) | ((with_reducible refine ik_callv ?_); (refine wo_call rfl rfl rfl rfl (r18 _ _ _ (sf.grow gr_A) (sg.grow gr_A) wf_A) rfl rfl ?_; rintro _ _ ⟨rfl, hq⟩; all_goals ((try (have hqn := hq.nx)); (try simp only [H.nx_push, H.nx_set, H.nx_bump] at hqn))))) | with_reducible refine wc_region ?_)
    exact ⟨rfl, (), within_lk ⟨rfl, rfl, rfl, rfl, rfl, rfl, rfl, rfl, rfl, trivial⟩, ⟨wf_A, gr_A, at_A⟩, sA.grow gr_A, sB.grow gr_A⟩
  clear wa ga aa la ha r18 sA sB
  rintro _ ha ⟨⟨wa, ga, aa⟩, sA, sB⟩
  refine wc_mid (ι := Unit) (fun _ => [(0, .slice a m c), (1, .slice b k d), (5, .pointer (some ⟨h.nx, 0, some 0⟩)), (7, .slice a7 n c7), (9, .slice a9 n c9)]) (fun _ h' => (Wf h' ∧ Grow h h' ∧ At h' h.nx (.cells [.slice x0 n c0, .slice x1 n c1] 24 2 false)) ∧ Sl G h' 1 (.slice a7 n c7) n ((aA.map smpW).map (.float .f32)) ∧ Sl G h' 1 (.slice a9 n c9) n ((aB.map smpW).map (.float .f32))) ?_ ?_
  · repeat' (first | with_reducible refine wo_nil ?_ | ((with_reducible refine wo_any ?_); first | ((with_reducible refine ik_move ?_); refine wo_op rfl (op_move rfl) rfl rfl ?_) | ((with_reducible refine ik_pick ?_); refine wo_op rfl (op_pickf rfl rfl) rfl rfl ?_) | ((with_reducible refine ik_bin ?_); refine wo_op rfl (op_neq rfl rfl) rfl rfl ?_) | ((with_reducible refine ik_g ?_); first | ((with_reducible refine ig_move ?_); refine wo_grun rfl rfl rfl (op_move rfl) rfl rfl ?_) | ((with_reducible refine ig_bin ?_); refine wo_grun rfl rfl rfl (op_neq rfl rfl) rfl rfl ?_))) | with_reducible refine sq_norm ?_ | with_reducible refine wc_seq ?_ | with_reducible refine wc_region ?_ | with_reducible refine wc_skip ?_ | (refine wc_if rfl (fun hb => (of_decide_eq_true hb rfl).elim) (fun hb => ?_); (try simp only [decide_eq_true_eq, decide_eq_false_iff_not, Bool.not_eq_true', Bool.not_eq_false', Int.not_lt, Int.not_le, Decidable.not_not, not_true_eq_false, not_false_eq_true, beq_self_eq_true, reduceCtorEq] at hb)))
    exact ⟨rfl, (), within_lk ⟨rfl, rfl, rfl, rfl, rfl, trivial⟩, ⟨wf_A, gr_A, at_A⟩, sA.grow gr_A, sB.grow gr_A⟩
  clear wa ga aa ha sA sB hX hXY X
  rintro _ g0 ⟨⟨wg, gg, ag⟩, sA, sB⟩
  have lg := ag.lt

  refine wc_mid (ι := (Nat × Bool) × Nat × Bool) (fun i => [(0, .slice a m c), (1, .slice b k d), (5, .pointer (some ⟨h.nx, 0, some 0⟩)), (7, .slice a7 n c7), (9, .slice a9 n c9), (15, .slice (some ⟨i.1.1, 0, some 0⟩) n n), (16, .slice (some ⟨i.2.1, 0, some 0⟩) n n)]) (fun i h' => (Wf h' ∧ Grow g0 h') ∧ At h' i.1.1 (.cells (l0.map (.float .f32)) 36 1 i.1.2) ∧ At h' i.2.1 (.cells (l1.map (.float .f32)) 36 1 i.2.2) ∧ g0.nx ≤ i.1.1 ∧ i.1.1 < i.2.1) ?_ ?_
  · repeat' (first | ((with_reducible refine xk_any ?_); ((with_reducible refine xk_as0 ?_); first | ((with_reducible refine xk_assign ?_); refine wx_q (wt_none rfl) rfl rfl (op_q rfl (op_assign rfl)) rfl rfl rfl ?_) | ((with_reducible refine xk_indexAddr ?_); refine wx_q (wt_none rfl) rfl rfl (op_q rfl (op_idxArr' rfl rfl Tryz.underlying24 zs23 (by omega) (by omega))) rfl rfl rfl ?_) | ((with_reducible refine xk_load ?_); refine wx_h0 (wt_none rfl) rfl (op_q rfl (op_ldAt rfl at_A Tryz.underlying23 rfl rfl)) rfl rfl rfl ?_) | ((with_reducible refine xk_callF (f := 16) ?_); first | (refine wx_call0 (wt_none rfl) rfl rfl rfl rfl (c16o (s0.grow gr_A) hn6) rfl rfl ?_; rintro _ _ ⟨⟨p5, f5, rfl, hp5, at5⟩, hq⟩; all_goals ((try (have hqn := hq.nx)); (try simp only [H.nx_push, H.nx_set, H.nx_bump] at hqn))) | (refine wx_call0 (wt_none rfl) rfl rfl rfl rfl (c16o (s1.grow gr_A) hn6) rfl rfl ?_; rintro _ _ ⟨⟨p6, f6, rfl, hp6, at6⟩, hq⟩; all_goals ((try (have hqn := hq.nx)); (try simp only [H.nx_push, H.nx_set, H.nx_bump] at hqn)))) | with_reducible refine wx_nil0 ?_ ?_)) | with_reducible exact obl_nil | with_reducible refine obl_cons ?_ ?_ | ((with_reducible refine ik_obs ?_); first | exact obs_nil | refine obs_skip rfl ?_ | refine obs_chkn rfl rfl (op_q rfl (op_ldAt rfl at_A Tryz.underlying23 rfl (by rfl))) ?_) | refine wc_drawB (id := 11) 8 [0, 1, 3, 0, 8, 31, 63, 127] [0, 1, 2, 3, 4, 5, 6, 7] (by kernel_rfl) (by kernel_rfl) rfl rfl ?_)
    have l5 := at5.lt
    simp only [H.nx_push, H.nx_set, H.nx_bump] at hp5 hp6
    exact ⟨rfl, ((p5, f5), (p6, f6)), within_lk ⟨rfl, rfl, rfl, rfl, rfl, rfl, rfl, trivial⟩, ⟨wf_A, gr_A⟩, at_A, at_A, by simp only; omega, by simp only; omega⟩
  rintro ⟨⟨p5, f5⟩, ⟨p6, f6⟩⟩ ha ⟨⟨wa, ga⟩, a5, a6, hp5, hp6⟩
  simp only at a5 a6 hp5 hp6 ⊢
  have la := ga.nx
  have l5 := a5.lt
  have l6 := a6.lt
  obtain ⟨fS, hfS⟩ : ∃ f : Nat → Nat, f = fun j => addW (l0.getD j 0) (l1.getD j 0) := ⟨_, rfl⟩
  obtain ⟨fR, hfR⟩ : ∃ f : Nat → Nat, f = fun j => l1.getD (n - 1 - j) 0 := ⟨_, rfl⟩
  refine wc_mid (ι := Unit) (fun _ => [(0, .slice a m c), (1, .slice b k d), (5, .pointer (some ⟨h.nx, 0, some 0⟩)), (7, .slice a7 n c7), (9, .slice a9 n c9), (15, .slice (some ⟨p5, 0, some 0⟩) n n), (16, .slice (some ⟨p6, 0, some 0⟩) n n)]) (fun _ h' => (Wf h' ∧ Grow g0 h') ∧ At h' p5 (.cells ((mixN fS l0 n).map (.float .f32)) 36 1 f5) ∧ At h' p6 (.cells ((mixN fR l1 n).map (.float .f32)) 36 1 f6)) ?_ ?_
  · repeat' (first | with_reducible refine wo_nil ?_ | ((with_reducible refine wo_any ?_); first | ((with_reducible refine ik_move ?_); refine wo_op rfl (op_move rfl) rfl rfl ?_) | ((with_reducible refine ik_callb ?_); refine wo_op rfl (op_lenSl rfl Tryz.underlying23) rfl rfl ?_)) | with_reducible refine sq_norm ?_ | with_reducible refine wc_seq ?_ | with_reducible refine wc_region ?_ | with_reducible refine wc_block ?_)
    refine wc_loop (fun i => n - i) (fun i : Nat => [(0, .slice a m c), (1, .slice b k d), (5, .pointer (some ⟨h.nx, 0, some 0⟩)), (7, .slice a7 n c7), (9, .slice a9 n c9), (15, .slice (some ⟨p5, 0, some 0⟩) n n), (16, .slice (some ⟨p6, 0, some 0⟩) n n), (150, .slice (some ⟨p5, 0, some 0⟩) n n), (151, .int .i64 n), (152, .int .i64 i)]) (fun i h' => ((Wf h' ∧ Grow g0 h') ∧ At h' p5 (.cells ((mixN fS l0 i).map (.float .f32)) 36 1 f5) ∧ At h' p6 (.cells ((mixN fR l1 i).map (.float .f32)) 36 1 f6)) ∧ i ≤ n) 0 (within_lk ⟨rfl, rfl, rfl, rfl, rfl, rfl, rfl, rfl, rfl, rfl, trivial⟩) ⟨⟨⟨wf_A, gr_A⟩, by rw [mixN_zero]; exact at_A, by rw [mixN_zero]; exact at_A⟩, Nat.zero_le _⟩ ?_
    clear wa ga a5 a6 la l5 l6 ha
    rintro i ha ⟨⟨⟨wa, ga⟩, a5, a6⟩, hi⟩
    have la := ga.nx
    have l5 := a5.lt
    have l6 := a6.lt
    by_cases hlt : i < n
    · have aa := ag.grow ga
      obtain ⟨ad, i1, i3⟩ := sl_at (s0.grow (gg.trans ga)) (i := (i : Int)) (q := i) hlt rfl
      obtain ⟨bd, g1, g3⟩ := sl_at (s1.grow (gg.trans ga)) (i := (i : Int)) (q := i) hlt rfl
      obtain ⟨cd, k1, k3⟩ := sl_at (s1.grow (gg.trans ga)) (i := (n : Int) - 1 - (i : Int)) (q := n - 1 - i) (by omega) (by omega)
      have ex := e0 _ (List.getElem_mem (show i < l0.length by omega))
      have ey := e1 _ (List.getElem_mem (show i < l1.length by omega))
      have bx := w0 _ (List.getElem_mem (show i < l0.length by omega))
      have bY := w1 _ (List.getElem_mem (show i < l1.length by omega))
      have hadd := (addW_ok ex ey (by omega)).1
      have hS1 : addW l0[i] l1[i] = fS i := by rw [hfS]; simp [List.getD, List.getElem?_eq_getElem (show i < l0.length by omega), List.getElem?_eq_getElem (show i < l1.length by omega)]
      have hR1 : l1[n - 1 - i] = fR i := by rw [hfR]; simp [List.getD, List.getElem?_eq_getElem (show n - 1 - i < l1.length by omega)]
      rw [hS1] at hadd
      have k3f : ∀ h', Grow g0 h' → acell G h' cd = some (.float .f32 (fR i)) := fun h' g => by
        obtain ⟨ad', j1, j3⟩ := sl_at (s1.grow (gg.trans g)) (i := (n : Int) - 1 - (i : Int)) (q := n - 1 - i) (by omega) (by omega)
        cases k1.symm.trans j1
        rw [hR1] at j3
        exact j3
      have hs1 := mixN_step fS l0 (i := i) (by omega)
      have hs2 := mixN_step fR l1 (i := i) (by omega)
      repeat' (first | with_reducible refine wo_nil ?_ | ((with_reducible refine wo_any ?_); first | ((with_reducible refine ik_move ?_); refine wo_op rfl (op_move rfl) rfl rfl ?_) | ((with_reducible refine ik_assign ?_); refine wo_op rfl (op_assign rfl) rfl rfl ?_) | ((with_reducible refine ik_indexAddr ?_); first | refine wo_op rfl (op_indexAddr rfl rfl k1) rfl rfl ?_ | refine wo_op rfl (op_idxSl (o := i) rfl rfl Tryz.underlying23 zs36 (by omega) (by omega) (by omega)) rfl rfl ?_ | refine wo_op rfl (op_idxArr' rfl rfl Tryz.underlying24 zs23 (by omega) (by omega)) rfl rfl ?_) | ((with_reducible refine ik_load ?_); first | refine wo_op rfl (op_ldCell rfl Tryz.underlying36 rfl (k3f _ gr_A)) rfl rfl ?_ | refine wo_op rfl (op_ldAt rfl at_A Tryz.underlying23 rfl rfl) rfl rfl ?_) | ((with_reducible refine ik_bin ?_); first | refine wo_op rfl (op_lss rfl rfl) rfl rfl ?_ | refine wo_op rfl (op_sub' rfl rfl (w64 (by omega) (by omega))) rfl rfl ?_ | refine wo_op rfl (op_add' rfl rfl (w64 (by omega) (by omega))) rfl rfl ?_) | ((with_reducible refine ik_store ?_); refine wo_op0 rfl (op_stIdx rfl rfl at_A rfl zs36 (by simp [mixN_len]; omega) rfl hs2) rfl ?_) | ((with_reducible refine ik_callb ?_); refine wo_op rfl (op_lenSl rfl Tryz.underlying23) rfl rfl ?_)) | ((with_reducible refine xk_any ?_); ((with_reducible refine xk_as0 ?_); first | ((with_reducible refine xk_move ?_); refine wx_q (wt_none rfl) rfl rfl (op_q rfl (op_move rfl)) rfl rfl rfl ?_) | ((with_reducible refine xk_indexAddr ?_); first | refine wx_q (wt_none rfl) rfl rfl (op_q rfl (op_indexAddr rfl rfl i1)) rfl rfl rfl ?_ | refine wx_q (wt_none rfl) rfl rfl (op_q rfl (op_indexAddr rfl rfl g1)) rfl rfl rfl ?_ | refine wx_q (wt_none rfl) rfl rfl (op_q rfl (op_idxSl (o := i) rfl rfl Tryz.underlying23 zs36 (by omega) (by omega) (by omega))) rfl rfl rfl ?_ | refine wx_q (wt_none rfl) rfl rfl (op_q rfl (op_idxArr' rfl rfl Tryz.underlying24 zs23 (by omega) (by omega))) rfl rfl rfl ?_) | ((with_reducible refine xk_load ?_); first | refine wx_h0 (wt_none rfl) rfl (op_q rfl (op_ldCell rfl Tryz.underlying36 rfl i3)) rfl rfl rfl ?_ | refine wx_h0 (wt_none rfl) rfl (op_q rfl (op_ldCell rfl Tryz.underlying36 rfl g3)) rfl rfl rfl ?_ | refine wx_h0 (wt_none rfl) rfl (op_q rfl (op_ldAt rfl at_A Tryz.underlying23 rfl rfl)) rfl rfl rfl ?_) | ((with_reducible refine xk_bin ?_); refine wx_q (wt_none rfl) rfl rfl (op_q rfl (op_fadd rfl rfl hadd)) rfl rfl rfl ?_) | ((with_reducible refine xk_store ?_); refine wx_ee0 (wt_none rfl) rfl rfl (op_stIdx rfl rfl at_A rfl zs36 (by simp [mixN_len]; omega) rfl hs1) rfl ?_) | with_reducible refine wx_nil0 ?_ ?_)) | with_reducible exact obl_nil | with_reducible refine obl_cons ?_ ?_ | ((with_reducible refine ik_obs ?_); first | exact obs_nil | refine obs_skip rfl ?_ | refine obs_chkn rfl rfl (op_q rfl (op_ldCell rfl Tryz.underlying36 rfl i3)) ?_ | refine obs_chkn rfl rfl (op_q rfl (op_ldCell rfl Tryz.underlying36 rfl g3)) ?_ | refine obs_chkn rfl rfl (op_q rfl (op_ldAt rfl at_A Tryz.underlying23 rfl (by rfl))) ?_) | with_reducible refine sq_norm ?_ | with_reducible refine wc_seq ?_ | with_reducible refine wc_region ?_ | with_reducible refine wc_skip ?_ | with_reducible refine wc_block ?_ | with_reducible refine bq_norm ?_ | (refine wc_if rfl (fun hb => ?_) (fun hb => ?_) <;> (try simp only [decide_eq_true_eq, decide_eq_false_iff_not, Bool.not_eq_true', Bool.not_eq_false', Int.not_lt, Int.not_le, Decidable.not_not, not_true_eq_false, not_false_eq_true, beq_self_eq_true, reduceCtorEq] at hb) <;> (try (exfalso; omega))) | refine wc_drawB (id := 15) 15 [0, 0, 0, 4, 0, 28, 60, 0, 128, 0, 896, 1920, 4092, 8191, 16383] [0, 1, 2, 3, 4, 5, 6, 7, 8, 9, 10, 11, 12, 13, 14] (by kernel_rfl) (by kernel_rfl) rfl rfl ?_)
      exact lq_norm (i + 1) (by omega) (within_lk ⟨rfl, rfl, rfl, rfl, rfl, rfl, rfl, rfl, rfl, rfl, trivial⟩) ⟨⟨⟨wf_A, gr_A⟩, at_A, at_A⟩, by omega⟩
    · have hin : i = n := by omega
      subst hin
      repeat' (first | with_reducible refine wo_nil ?_ | ((with_reducible refine wo_any ?_); ((with_reducible refine ik_bin ?_); refine wo_op rfl (op_lss rfl rfl) rfl rfl ?_)) | with_reducible refine sq_norm ?_ | with_reducible refine wc_seq ?_ | with_reducible refine wc_region ?_ | with_reducible refine wc_exit ?_ | with_reducible refine sq_exit ?_ | with_reducible refine lq_exit ?_ | refine bq_eq rfl ?_ | (refine wc_if rfl (fun hb => ?_) (fun hb => ?_) <;> (try simp only [decide_eq_true_eq, decide_eq_false_iff_not, Bool.not_eq_true', Bool.not_eq_false', Int.not_lt, Int.not_le, Decidable.not_not, not_true_eq_false, not_false_eq_true, beq_self_eq_true, reduceCtorEq] at hb) <;> (try (exfalso; omega))))
      exact ⟨rfl, (), within_lk ⟨rfl, rfl, rfl, rfl, rfl, rfl, rfl, trivial⟩, ⟨wa, ga⟩, a5, a6⟩
  clear wa ga a5 a6 la l5 l6 ha
  rintro _ g1 ⟨⟨w1g, g1g⟩, a5, a6⟩

  have lS : mixN fS l0 n = (List.range n).map fS := by have := mixN_end fS l0; rwa [hl0] at this
  have lR : mixN fR l1 n = (List.range n).map fR := by have := mixN_end fR l1; rwa [hl1] at this
  rw [lS] at a5
  rw [lR] at a6
  clear lS lR
  have g0i : ∀ i (q : i < n), l0.getD i 0 = l0[i]'(by omega) := fun i q => by simp [List.getD, List.getElem?_eq_getElem (show i < l0.length by omega)]
  have g1i : ∀ i (q : i < n), l1.getD i 0 = l1[i]'(by omega) := fun i q => by simp [List.getD, List.getElem?_eq_getElem (show i < l1.length by omega)]
  have f0i : ∀ i (q : i < n), smp (l0[i]'(by omega)) = L0.getD i 0 := fun i q => (smp_getD (by omega)).trans (by rw [hL0])
  have f1i : ∀ i (q : i < n), smp (l1[i]'(by omega)) = L1.getD i 0 := fun i q => (smp_getD (by omega)).trans (by rw [hL1])
  have oS : ∀ i, i < n → smpE (fS i) = 0 ∧ smp (fS i) = L0.getD i 0 + L1.getD i 0 := fun i q => by
    rw [hfS]
    simp only
    have := addW_ok (e0 _ (List.getElem_mem (show i < l0.length by omega))) (e1 _ (List.getElem_mem (show i < l1.length by omega))) (by
      have := w0 _ (List.getElem_mem (show i < l0.length by omega)); have := w1 _ (List.getElem_mem (show i < l1.length by omega)); omega)
    rw [g0i i q, g1i i q, ← f0i i q, ← f1i i q]
    exact this.2
  have oR : ∀ i, i < n → smpE (fR i) = 0 ∧ smp (fR i) = L1.getD (n - 1 - i) 0 := fun i q => by
    rw [hfR]
    simp only
    rw [g1i _ (by omega), ← f1i _ (by omega)]
    exact ⟨e1 _ (List.getElem_mem _), rfl⟩
  obtain ⟨lS, hlS⟩ : ∃ l, (List.range n).map fS = l := ⟨_, rfl⟩
  obtain ⟨lR, hlR⟩ : ∃ l, (List.range n).map fR = l := ⟨_, rfl⟩
  rw [hlS] at a5
  rw [hlR] at a6
  have nS : lS.length = n := by rw [← hlS]; simp
  have nR : lR.length = n := by rw [← hlR]; simp
  have eS : ∀ z ∈ lS, smpE z = 0 := fun z hz => by rw [← hlS] at hz; obtain ⟨i, hi, rfl⟩ := List.mem_map.1 hz; exact (oS i (List.mem_range.1 hi)).1
  have eR : ∀ z ∈ lR, smpE z = 0 := fun z hz => by rw [← hlR] at hz; obtain ⟨i, hi, rfl⟩ := List.mem_map.1 hz; exact (oR i (List.mem_range.1 hi)).1
  have mS : lS.map smp = addL L0 L1 := by
    rw [← hlS, List.map_map]; unfold addL; rw [n0]
    exact List.map_congr_left fun i hi => (oS i (List.mem_range.1 hi)).2
  have mR : lR.map smp = L1.reverse := by
    refine getD_ext (by simp; omega) fun i hi => ?_
    have hi : i < n := by simpa [nR] using hi
    rw [← hlR, List.map_map, getD_row hi, getD_rev (by omega), n1]
    exact (oR i hi).2
  have bS : ∀ z ∈ addL L0 L1, z.natAbs ≤ 120 := fun z hz => by
    unfold addL at hz
    obtain ⟨i, _, rfl⟩ := List.mem_map.1 hz
    have := getD_bound b0 i
    have := getD_bound b1 i
    omega
  clear hlS hlR oS oR hfS hfR g0i g1i f0i f1i
  obtain ⟨aC, hC⟩ : ∃ L, appL t L1 = L := ⟨_, rfl⟩
  obtain ⟨aS, hS⟩ : ∃ L, appL t (addL L0 L1) = L := ⟨_, rfl⟩
  obtain ⟨aR, hR⟩ : ∃ L, appL t L1.reverse = L := ⟨_, rfl⟩
  have nC : aC.length = n := by rw [← hC, appL_len, n1]
  have nSS : aS.length = n := by rw [← hS, appL_len, addL_len, n0]
  have nRR : aR.length = n := by rw [← hR, appL_len, List.length_reverse, n1]
  have bC : ∀ z ∈ aC, z.natAbs ≤ 7680 := by rw [← hC]; exact sm t2 t1.2 b1
  have bR : ∀ z ∈ aR, z.natAbs ≤ 7680 := by rw [← hR]; exact sm t2 t1.2 (fun x hx => b1 x (List.mem_reverse.1 hx))
  have bSS : ∀ z ∈ aS, z.natAbs ≤ 15360 := by
    rw [← hS]
    intro z hz
    have := appL_bound t2 bS z hz
    have h2 := Nat.mul_le_mul_right (16 * 120) t1.2
    omega
  have sumS : ∀ i, i < n → aS.getD i 0 = aA.getD i 0 + aC.getD i 0 := fun i hi => by rw [← hS, ← hA, ← hC]; exact app_add (by omega) (by omega)
  have revB : aB = aR.reverse := by rw [← hB, ← hR]; unfold adjL; rfl
  have E2 : appE t l1 = 0 := appE_ok zt lc1 (large_no (by rw [hL1, hC]; exact fun z hz => Nat.le_trans (bC z hz) (by decide)))
  have E3 : appE t lS = 0 := appE_ok zt (lchk_of (by omega) eS) (large_no (by rw [mS, hS]; exact fun z hz => Nat.le_trans (bSS z hz) (by decide)))
  have E4 : appE t lR = 0 := appE_ok zt (lchk_of (by omega) eR) (large_no (by rw [mR, hR]; exact fun z hz => Nat.le_trans (bR z hz) (by decide)))
  have q14 := fun (h' : H) (v w : Value) (u1 : Sl G h' 1 v m (t.map (.int .i64))) (u2 : Sl G h' 1 w n (l1.map (.float .f32))) (w' : Wf h') => c14k (G := G) (h := h') u1 u2 hm6 hn6 w' hG E2
  have r14 := fun (h' : H) (v w : Value) (u1 : Sl G h' 1 v m (t.map (.int .i64))) (u2 : Sl G h' 1 w n (lS.map (.float .f32))) (w' : Wf h') => c14k (G := G) (h := h') u1 u2 hm6 hn6 w' hG E3
  have s14 := fun (h' : H) (v w : Value) (u1 : Sl G h' 1 v m (t.map (.int .i64))) (u2 : Sl G h' 1 w n (lR.map (.float .f32))) (w' : Wf h') => c14k (G := G) (h := h') u1 u2 hm6 hn6 w' hG E4
  rw [hL1, hC] at q14
  rw [mS, hS] at r14
  rw [mR, hR] at s14
  clear E2 E3 E4
  have lg1 := g1g.nx
  have a5s : Sl G g1 1 (.slice (some ⟨p5, 0, some 0⟩) n n) n (lS.map (.float .f32)) := Sl.ofAt a5 (by simp; omega) (Nat.le_refl _)
  have a6s : Sl G g1 1 (.slice (some ⟨p6, 0, some 0⟩) n n) n (lR.map (.float .f32)) := Sl.ofAt a6 (by simp; omega) (Nat.le_refl _)
  clear a5 a6
  refine wc_mid (ι := Option Addr × Nat) (fun i => [(0, .slice a m c), (1, .slice b k d), (5, .pointer (some ⟨h.nx, 0, some 0⟩)), (7, .slice a7 n c7), (9, .slice a9 n c9), (15, .slice (some ⟨p5, 0, some 0⟩) n n), (16, .slice (some ⟨p6, 0, some 0⟩) n n), (18, .slice i.1 n i.2), (19, .int .i64 0)]) (fun i h' => (Wf h' ∧ Grow g1 h') ∧ Sl G h' 1 (.slice i.1 n i.2) n ((aC.map smpW).map (.float .f32))) ?_ ?_
  · repeat' (first | ((with_reducible refine xk_any ?_); ((with_reducible refine xk_as0 ?_); first | ((with_reducible refine xk_move ?_); refine wx_q (wt_none rfl) rfl rfl (op_q rfl (op_move rfl)) rfl rfl rfl ?_) | ((with_reducible refine xk_assign ?_); refine wx_q (wt_none rfl) rfl rfl (op_q rfl (op_assign rfl)) rfl rfl rfl ?_) | ((with_reducible refine xk_indexAddr ?_); refine wx_q (wt_none rfl) rfl rfl (op_q rfl (op_idxArr' rfl rfl Tryz.underlying24 zs23 (by omega) (by omega))) rfl rfl rfl ?_) | ((with_reducible refine xk_load ?_); refine wx_h0 (wt_none rfl) rfl (op_q rfl (op_ldAt rfl at_A Tryz.underlying23 rfl rfl)) rfl rfl rfl ?_) | ((with_reducible refine xk_extract ?_); refine wx_q (wt_none rfl) rfl rfl (op_q rfl (op_extract rfl rfl)) rfl rfl rfl ?_) | ((with_reducible refine xk_callF (f := 15) ?_); (refine wx_call0 (wt_none rfl) rfl rfl rfl rfl (c15 (st.grow gr_A) hm6) rfl rfl ?_; rintro _ _ ⟨si, hq, hwi⟩; all_goals ((try (have hqn := hq.nx)); (try simp only [H.nx_push, H.nx_set, H.nx_bump] at hqn)))) | ((with_reducible refine xk_callF (f := 16) ?_); (refine wx_call0 (wt_none rfl) rfl rfl rfl rfl (c16 (s1.grow gr_A) hn6) rfl rfl ?_; rintro _ _ ⟨sf, hq, hwf⟩; all_goals ((try (have hqn := hq.nx)); (try simp only [H.nx_push, H.nx_set, H.nx_bump] at hqn)))) | ((with_reducible refine xk_callv ?_); (refine wx_call0 (wt_none rfl) rfl rfl rfl rfl (q14 _ _ _ (si.grow gr_A) (sf.grow gr_A) wf_A) rfl rfl ?_; rintro _ _ ⟨⟨a8, c8, rfl, s8⟩, hq⟩; all_goals ((try (have hqn := hq.nx)); (try simp only [H.nx_push, H.nx_set, H.nx_bump] at hqn)))) | with_reducible refine wx_nil0 ?_ ?_)) | with_reducible exact obl_nil | with_reducible refine obl_cons ?_ ?_ | ((with_reducible refine ik_obs ?_); first | exact obs_nil | refine obs_skip rfl ?_ | refine obs_chkn rfl rfl (op_q rfl (op_ldAt rfl at_A Tryz.underlying23 rfl (by rfl))) ?_) | refine wc_drawB (id := 18) 11 [0, 1, 0, 4, 15, 31, 63, 127, 127, 255, 1023] [0, 1, 2, 3, 4, 5, 6, 7, 8, 9, 10] (by kernel_rfl) (by kernel_rfl) rfl rfl ?_)
    exact ⟨rfl, (a8, c8), within_lk ⟨rfl, rfl, rfl, rfl, rfl, rfl, rfl, rfl, rfl, trivial⟩, ⟨wf_A, gr_A⟩, s8.grow gr_A⟩
  rintro ⟨a8, c8⟩ ha ⟨⟨wa, ga⟩, s8⟩
  simp only at s8 ⊢
  refine wc_mid (ι := Option Addr × Nat) (fun i => [(0, .slice a m c), (1, .slice b k d), (5, .pointer (some ⟨h.nx, 0, some 0⟩)), (7, .slice a7 n c7), (9, .slice a9 n c9), (15, .slice (some ⟨p5, 0, some 0⟩) n n), (16, .slice (some ⟨p6, 0, some 0⟩) n n), (18, .slice a8 n c8), (19, .int .i64 0), (20, .slice i.1 n i.2), (21, .int .i64 0)]) (fun i h' => (Wf h' ∧ Grow g1 h') ∧ Sl G h' 1 (.slice a8 n c8) n ((aC.map smpW).map (.float .f32)) ∧ Sl G h' 1 (.slice i.1 n i.2) n ((aS.map smpW).map (.float .f32))) ?_ ?_
  · repeat' (first | with_reducible refine wo_nil ?_ | ((with_reducible refine wo_any ?_); first | ((with_reducible refine ik_move ?_); refine wo_op rfl (op_move rfl) rfl rfl ?_) | ((with_reducible refine ik_assign ?_); refine wo_op rfl (op_assign rfl) rfl rfl ?_) | ((with_reducible refine ik_extract ?_); refine wo_op rfl (op_extract rfl rfl) rfl rfl ?_) | ((with_reducible refine ik_callF (f := 15) ?_); (refine wo_call rfl rfl rfl rfl (c15 (st.grow gr_A) hm6) rfl rfl ?_; rintro _ _ ⟨si, hq, hwi⟩; all_goals ((try (have hqn := hq.nx)); (try simp only [H.nx_push, H.nx_set, H.nx_bump] at hqn)))) | ((with_reducible refine ik_callv ?_); (refine wo_call rfl rfl rfl rfl (r14 _ _ _ (si.grow gr_A) (a5s.grow gr_A) wf_A) rfl rfl ?_; rintro _ _ ⟨⟨a10, c10, rfl, s10⟩, hq⟩; all_goals ((try (have hqn := hq.nx)); (try simp only [H.nx_push, H.nx_set, H.nx_bump] at hqn))))) | with_reducible refine wc_region ?_)
    exact ⟨rfl, (a10, c10), within_lk ⟨rfl, rfl, rfl, rfl, rfl, rfl, rfl, rfl, rfl, rfl, rfl, trivial⟩, ⟨wf_A, gr_A⟩, s8.grow gr_A, s10.grow gr_A⟩
  clear wa ga ha s8
  rintro ⟨a10, c10⟩ ha ⟨⟨wa, ga⟩, s8, s10⟩
  simp only at s8 s10 ⊢
  refine wc_mid (ι := Option Addr × Nat) (fun i => [(0, .slice a m c), (1, .slice b k d), (5, .pointer (some ⟨h.nx, 0, some 0⟩)), (7, .slice a7 n c7), (9, .slice a9 n c9), (18, .slice a8 n c8), (19, .int .i64 0), (20, .slice a10 n c10), (21, .int .i64 0), (22, .slice i.1 n i.2), (23, .int .i64 0)]) (fun i h' => (Wf h' ∧ Grow g1 h') ∧ Sl G h' 1 (.slice a8 n c8) n ((aC.map smpW).map (.float .f32)) ∧ Sl G h' 1 (.slice a10 n c10) n ((aS.map smpW).map (.float .f32)) ∧ Sl G h' 1 (.slice i.1 n i.2) n ((aR.map smpW).map (.float .f32))) ?_ ?_
  · repeat' (first | with_reducible refine wo_nil ?_ | ((with_reducible refine wo_any ?_); first | ((with_reducible refine ik_move ?_); refine wo_op rfl (op_move rfl) rfl rfl ?_) | ((with_reducible refine ik_assign ?_); refine wo_op rfl (op_assign rfl) rfl rfl ?_) | ((with_reducible refine ik_extract ?_); refine wo_op rfl (op_extract rfl rfl) rfl rfl ?_) | ((with_reducible refine ik_callF (f := 15) ?_); (refine wo_call rfl rfl rfl rfl (c15 (st.grow gr_A) hm6) rfl rfl ?_; rintro _ _ ⟨si, hq, hwi⟩; all_goals ((try (have hqn := hq.nx)); (try simp only [H.nx_push, H.nx_set, H.nx_bump] at hqn)))) | ((with_reducible refine ik_callv ?_); (refine wo_call rfl rfl rfl rfl (s14 _ _ _ (si.grow gr_A) (a6s.grow gr_A) wf_A) rfl rfl ?_; rintro _ _ ⟨⟨a11, c11, rfl, s11⟩, hq⟩; all_goals ((try (have hqn := hq.nx)); (try simp only [H.nx_push, H.nx_set, H.nx_bump] at hqn))))) | with_reducible refine wc_region ?_)
    exact ⟨rfl, (a11, c11), within_lk ⟨rfl, rfl, rfl, rfl, rfl, rfl, rfl, rfl, rfl, rfl, rfl, trivial⟩, ⟨wf_A, gr_A⟩, s8.grow gr_A, s10.grow gr_A, s11.grow gr_A⟩
  clear wa ga ha s8 s10 q14 r14 s14 a5s a6s
  rintro ⟨a11, c11⟩ ha ⟨⟨wa, ga⟩, s8, s10, s11⟩
  simp only at s8 s10 s11 ⊢
  refine wc_mid (ι := Unit) (fun _ => [(0, .slice a m c), (1, .slice b k d), (5, .pointer (some ⟨h.nx, 0, some 0⟩)), (7, .slice a7 n c7), (9, .slice a9 n c9), (18, .slice a8 n c8), (20, .slice a10 n c10), (22, .slice a11 n c11)]) (fun _ h' => (Wf h' ∧ Grow g1 h') ∧ Sl G h' 1 (.slice a8 n c8) n ((aC.map smpW).map (.float .f32)) ∧ Sl G h' 1 (.slice a10 n c10) n ((aS.map smpW).map (.float .f32)) ∧ Sl G h' 1 (.slice a11 n c11) n ((aR.map smpW).map (.float .f32))) ?_ ?_
  · repeat' (first | with_reducible refine wo_nil ?_ | ((with_reducible refine wo_any ?_); first | ((with_reducible refine ik_move ?_); refine wo_op rfl (op_move rfl) rfl rfl ?_) | ((with_reducible refine ik_pick ?_); refine wo_op rfl (op_pickf rfl rfl) rfl rfl ?_) | ((with_reducible refine ik_bin ?_); refine wo_op rfl (op_neq rfl rfl) rfl rfl ?_) | ((with_reducible refine ik_g ?_); first | ((with_reducible refine ig_move ?_); refine wo_grun rfl rfl rfl (op_move rfl) rfl rfl ?_) | ((with_reducible refine ig_bin ?_); refine wo_grun rfl rfl rfl (op_neq rfl rfl) rfl rfl ?_) | ((with_reducible refine ig_callb ?_); refine wo_grun rfl rfl rfl (op_lenSl rfl Tryz.underlying23) rfl rfl ?_) | (refine wo_gsplit rfl rfl rfl (fun hb => (of_decide_eq_true hb rfl).elim) (fun hb => ?_); (try simp only [decide_eq_true_eq, decide_eq_false_iff_not, Bool.not_eq_true', Bool.not_eq_false', Int.not_lt, Int.not_le, Decidable.not_not, not_true_eq_false, not_false_eq_true, beq_self_eq_true, reduceCtorEq] at hb)))) | with_reducible refine sq_norm ?_ | with_reducible refine wc_seq ?_ | with_reducible refine wc_region ?_ | with_reducible refine wc_skip ?_ | (refine wc_if rfl (fun hb => (of_decide_eq_true hb rfl).elim) (fun hb => ?_); (try simp only [decide_eq_true_eq, decide_eq_false_iff_not, Bool.not_eq_true', Bool.not_eq_false', Int.not_lt, Int.not_le, Decidable.not_not, not_true_eq_false, not_false_eq_true, beq_self_eq_true, reduceCtorEq] at hb)))
    exact ⟨rfl, (), within_lk ⟨rfl, rfl, rfl, rfl, rfl, rfl, rfl, rfl, trivial⟩, ⟨wf_A, gr_A⟩, s8.grow gr_A, s10.grow gr_A, s11.grow gr_A⟩
  clear wa ga ha s8 s10 s11
  rintro _ g2 ⟨⟨w2g, g2g⟩, s8, s10, s11⟩
  have sA2 := sA.grow (g1g.trans g2g)
  have sB2 := sB.grow (g1g.trans g2g)

  have lg2 := g2g.nx
  obtain ⟨mC, eC⟩ := made_smp (L := aC) (fun z hz => Nat.le_trans (bC z hz) (by decide))
  obtain ⟨mSS, eSS⟩ := made_smp (L := aS) (fun z hz => Nat.le_trans (bSS z hz) (by decide))
  obtain ⟨mRR, eRR⟩ := made_smp (L := aR) (fun z hz => Nat.le_trans (bR z hz) (by decide))
  refine wc_mid (ι := Unit) (fun _ => [(0, .slice a m c), (1, .slice b k d), (5, .pointer (some ⟨h.nx, 0, some 0⟩)), (7, .slice a7 n c7), (9, .slice a9 n c9)]) (fun _ h' => (Wf h' ∧ Grow g2 h')) ?_ ?_
  · repeat' (first | with_reducible refine wo_nil ?_ | ((with_reducible refine wo_any ?_); first | ((with_reducible refine ik_move ?_); refine wo_op rfl (op_move rfl) rfl rfl ?_) | ((with_reducible refine ik_callb ?_); refine wo_op rfl (op_lenSl rfl Tryz.underlying23) rfl rfl ?_)) | with_reducible refine sq_norm ?_ | with_reducible refine wc_seq ?_ | with_reducible refine wc_region ?_ | with_reducible refine wc_block ?_)
    refine wc_loop (fun i => n - i) (fun i : Nat => [(0, .slice a m c), (1, .slice b k d), (5, .pointer (some ⟨h.nx, 0, some 0⟩)), (7, .slice a7 n c7), (9, .slice a9 n c9), (18, .slice a8 n c8), (20, .slice a10 n c10), (22, .slice a11 n c11), (237, .slice a7 n c7), (238, .int .i64 n), (239, .int .i64 i)]) (fun i h' => (Wf h' ∧ Grow g2 h') ∧ i ≤ n) 0 (within_lk ⟨rfl, rfl, rfl, rfl, rfl, rfl, rfl, rfl, rfl, rfl, rfl, trivial⟩) ⟨⟨wf_A, gr_A⟩, Nat.zero_le _⟩ ?_
    rintro i ha ⟨⟨wa, ga⟩, hi⟩
    have la := ga.nx
    by_cases hlt : i < n
    · have kA : i < (aA.map smpW).length := by simp; omega
      have kC : i < (aC.map smpW).length := by simp; omega
      have kS : i < (aS.map smpW).length := by simp; omega
      have kR : i < (aR.map smpW).length := by simp; omega
      have kB : n - 1 - i < (aB.map smpW).length := by simp; omega
      obtain ⟨d1, i1, j1⟩ := sl_at (s10.grow ga) (i := (i : Int)) (q := i) hlt rfl
      obtain ⟨d2, i2, j2⟩ := sl_at (sA2.grow ga) (i := (i : Int)) (q := i) hlt rfl
      obtain ⟨d3, i3, j3⟩ := sl_at (s8.grow ga) (i := (i : Int)) (q := i) hlt rfl
      obtain ⟨d4, i4, j4⟩ := sl_at (s11.grow ga) (i := (i : Int)) (q := i) hlt rfl
      obtain ⟨d5, i5, j5⟩ := sl_at (sB2.grow ga) (i := (n : Int) - 1 - (i : Int)) (q := n - 1 - i) (by omega) (by omega)
      have vA : smp (aA.map smpW)[i] = aA.getD i 0 := (smp_getD kA).trans (by rw [mA])
      have vC : smp (aC.map smpW)[i] = aC.getD i 0 := (smp_getD kC).trans (by rw [mC])
      have vS : smp (aS.map smpW)[i] = aS.getD i 0 := (smp_getD kS).trans (by rw [mSS])
      have vR : smp (aR.map smpW)[i] = aR.getD i 0 := (smp_getD kR).trans (by rw [mRR])
      have vB : smp (aB.map smpW)[n - 1 - i] = aB.getD (n - 1 - i) 0 := (smp_getD kB).trans (by rw [mB])
      have bAi := getD_bound bA i
      have bCi := getD_bound bC i
      obtain ⟨o1, o2, o3⟩ := addW_ok (eA _ (List.getElem_mem kA)) (eC _ (List.getElem_mem kC)) (by omega)
      have he1 := feq_smp (eSS _ (List.getElem_mem kS)) o2 (by rw [o3, vS, vA, vC]; exact sumS i hlt)
      have he2 := feq_smp (eRR _ (List.getElem_mem kR)) (eB _ (List.getElem_mem kB)) (by rw [vR, vB, revB, getD_rev (by omega), nRR]; congr 1; omega)
      repeat' (first | with_reducible refine wo_nil ?_ | ((with_reducible refine wo_any ?_); first | ((with_reducible refine ik_move ?_); refine wo_op rfl (op_move rfl) rfl rfl ?_) | ((with_reducible refine ik_assign ?_); refine wo_op rfl (op_assign rfl) rfl rfl ?_) | ((with_reducible refine ik_bin ?_); first | refine wo_op rfl (op_lss rfl rfl) rfl rfl ?_ | refine wo_op rfl (op_add' rfl rfl (w64 (by omega) (by omega))) rfl rfl ?_)) | ((with_reducible refine xk_any ?_); ((with_reducible refine xk_as0 ?_); first | ((with_reducible refine xk_move ?_); refine wx_q (wt_none rfl) rfl rfl (op_q rfl (op_move rfl)) rfl rfl rfl ?_) | ((with_reducible refine xk_indexAddr ?_); first | refine wx_q (wt_none rfl) rfl rfl (op_q rfl (op_indexAddr rfl rfl i1)) rfl rfl rfl ?_ | refine wx_q (wt_none rfl) rfl rfl (op_q rfl (op_indexAddr rfl rfl i2)) rfl rfl rfl ?_ | refine wx_q (wt_none rfl) rfl rfl (op_q rfl (op_indexAddr rfl rfl i3)) rfl rfl rfl ?_) | ((with_reducible refine xk_load ?_); first | refine wx_h0 (wt_none rfl) rfl (op_q rfl (op_ldCell rfl Tryz.underlying36 rfl j1)) rfl rfl rfl ?_ | refine wx_h0 (wt_none rfl) rfl (op_q rfl (op_ldCell rfl Tryz.underlying36 rfl j2)) rfl rfl rfl ?_ | refine wx_h0 (wt_none rfl) rfl (op_q rfl (op_ldCell rfl Tryz.underlying36 rfl j3)) rfl rfl rfl ?_) | ((with_reducible refine xk_bin ?_); first | refine wx_q (wt_none rfl) rfl rfl (op_q rfl (op_fadd rfl rfl o1)) rfl rfl rfl ?_ | refine wx_q (wt_none rfl) rfl rfl (op_q rfl (op_fneq rfl rfl he1)) rfl rfl rfl ?_) | ((with_reducible refine xk_pick ?_); refine wx_q (wt_none rfl) rfl rfl (op_q rfl (op_pickf rfl rfl)) rfl rfl rfl ?_) | ((with_reducible refine xk_g ?_); first | ((with_reducible refine xg_move ?_); refine wx_q (wt_run rfl rfl rfl) rfl rfl (op_q rfl (op_move rfl)) rfl rfl rfl ?_) | ((with_reducible refine xg_indexAddr ?_); first | refine wx_q (wt_run rfl rfl rfl) rfl rfl (op_q rfl (op_indexAddr rfl rfl i4)) rfl rfl rfl ?_ | refine wx_q (wt_run rfl rfl rfl) rfl rfl (op_q rfl (op_indexAddr rfl rfl i5)) rfl rfl rfl ?_) | ((with_reducible refine xg_load ?_); first | refine wx_h0 (wt_run rfl rfl rfl) rfl (op_q rfl (op_ldCell rfl Tryz.underlying36 rfl j4)) rfl rfl rfl ?_ | refine wx_h0 (wt_run rfl rfl rfl) rfl (op_q rfl (op_ldCell rfl Tryz.underlying36 rfl j5)) rfl rfl rfl ?_) | ((with_reducible refine xg_bin ?_); first | refine wx_q (wt_run rfl rfl rfl) rfl rfl (op_q rfl (op_fneq rfl rfl he2)) rfl rfl rfl ?_ | refine wx_q (wt_run rfl rfl rfl) rfl rfl (op_q rfl (op_sub' rfl rfl (w64 (by omega) (by omega)))) rfl rfl rfl ?_) | ((with_reducible refine xg_callb ?_); refine wx_q (wt_run rfl rfl rfl) rfl rfl (op_q rfl (op_lenSl rfl Tryz.underlying23)) rfl rfl rfl ?_)) | with_reducible refine wx_nil0 ?_ ?_)) | with_reducible exact obl_nil | with_reducible refine obl_cons ?_ ?_ | ((with_reducible refine ik_obs ?_); first | exact obs_nil | refine obs_chkn rfl rfl (op_q rfl (op_ldCell rfl Tryz.underlying36 rfl j1)) ?_ | refine obs_chkn rfl rfl (op_q rfl (op_ldCell rfl Tryz.underlying36 rfl j2)) ?_ | refine obs_chkn rfl rfl (op_q rfl (op_ldCell rfl Tryz.underlying36 rfl j3)) ?_ | refine obs_chkn rfl rfl (op_q rfl (op_ldCell rfl Tryz.underlying36 rfl j4)) ?_ | refine obs_chkn rfl rfl (op_q rfl (op_ldCell rfl Tryz.underlying36 rfl j5)) ?_) | with_reducible refine sq_norm ?_ | with_reducible refine wc_seq ?_ | with_reducible refine wc_region ?_ | with_reducible refine wc_skip ?_ | with_reducible refine wc_block ?_ | with_reducible refine bq_norm ?_ | refine wc_iff rfl ?_ | (refine wc_if rfl (fun hb => ?_) (fun hb => dead_A hb); (try simp only [decide_eq_true_eq, decide_eq_false_iff_not, Bool.not_eq_true', Bool.not_eq_false', Int.not_lt, Int.not_le, Decidable.not_not, not_true_eq_false, not_false_eq_true, beq_self_eq_true, reduceCtorEq] at hb)) | refine wc_drawB (id := 26) 29 [0, 0, 3, 7, 0, 0, 48, 112, 0, 0, 768, 1792, 4080, 8191, 16383, 32767, 32767, 131071, 262143, 32767, 32767, 1081343, 3178495, 32767, 15761407, 33062911, 66617343, 134217727, 268435455] [0, 1, 2, 3, 4, 5, 6, 7, 8, 9, 10, 11, 12, 13, 14, 15, 16, 17, 18, 19, 20, 21, 22, 23, 24, 25, 26, 27, 28] (by kernel_rfl) (by kernel_rfl) rfl rfl ?_)
      exact lq_norm (i + 1) (by omega) (within_lk ⟨rfl, rfl, rfl, rfl, rfl, rfl, rfl, rfl, rfl, rfl, rfl, trivial⟩) ⟨⟨wf_A, gr_A⟩, by omega⟩
    · have hin : i = n := by omega
      subst hin
      repeat' (first | with_reducible refine wo_nil ?_ | ((with_reducible refine wo_any ?_); ((with_reducible refine ik_bin ?_); refine wo_op rfl (op_lss rfl rfl) rfl rfl ?_)) | with_reducible refine sq_norm ?_ | with_reducible refine wc_seq ?_ | with_reducible refine wc_region ?_ | with_reducible refine wc_exit ?_ | with_reducible refine sq_exit ?_ | with_reducible refine lq_exit ?_ | refine bq_eq rfl ?_ | (refine wc_if rfl (fun hb => ?_) (fun hb => ?_) <;> (try simp only [decide_eq_true_eq, decide_eq_false_iff_not, Bool.not_eq_true', Bool.not_eq_false', Int.not_lt, Int.not_le, Decidable.not_not, not_true_eq_false, not_false_eq_true, beq_self_eq_true, reduceCtorEq] at hb) <;> (try (exfalso; omega))))
      exact ⟨rfl, (), within_lk ⟨rfl, rfl, rfl, rfl, rfl, trivial⟩, wa, ga⟩
  have ss2 := ss.grow (gg.trans (g1g.trans g2g))
  have st2 := st.grow (gg.trans (g1g.trans g2g))
  have s02 := s0.grow (gg.trans (g1g.trans g2g))
  have gh2 := gg.trans (g1g.trans g2g)
  have ag2 := ag.grow (g1g.trans g2g)
  clear s8 s10 s11 sB2 sA sB
  rintro _ g3 ⟨w3g, g3g⟩
  obtain ⟨aD, hD⟩ : ∃ L, appL s L0 = L := ⟨_, rfl⟩
  have bD : ∀ z ∈ aD, z.natAbs ≤ 7680 := by rw [← hD]; exact sm t4 t3.2 b0
  have nD : aD.length = n := by rw [← hD, appL_len, n0]
  obtain ⟨mD, eD⟩ := made_smp (L := aD) (fun z hz => Nat.le_trans (bD z hz) (by decide))
  have E5 : appE s l0 = 0 := appE_ok zs lc0 (large_no (by rw [hL0, hD]; exact fun z hz => Nat.le_trans (bD z hz) (by decide)))
  have q14 := fun (h' : H) (v w : Value) (u1 : Sl G h' 1 v k (s.map (.int .i64))) (u2 : Sl G h' 1 w n (l0.map (.float .f32))) (w' : Wf h') => c14k (G := G) (h := h') u1 u2 hk6 hn6 w' hG E5
  rw [hL0, hD] at q14
  by_cases hLg : anyLarge (appL s aA) = true
  · have E6 : appE s (aA.map smpW) = 4 := appE_large zs lcA (by rw [mA]; exact hLg)
    have r14 := fun (h' : H) (v w : Value) (u1 : Sl G h' 1 v k (s.map (.int .i64))) (u2 : Sl G h' 1 w n ((aA.map smpW).map (.float .f32))) (w' : Wf h') => c14L (G := G) (h := h') u1 u2 hk6 hn6 w' hG E6
    refine wc_mid (ι := Unit) (fun _ => [(0, .slice a m c), (1, .slice b k d), (5, .pointer (some ⟨h.nx, 0, some 0⟩)), (7, .slice a7 n c7), (9, .slice a9 n c9), (26, .int .i64 4)]) (fun _ h' => (Wf h' ∧ Grow g2 h')) ?_ ?_
    · repeat' (first | with_reducible refine wo_nil ?_ | ((with_reducible refine wo_any ?_); first | ((with_reducible refine ik_move ?_); refine wo_op rfl (op_move rfl) rfl rfl ?_) | ((with_reducible refine ik_assign ?_); refine wo_op rfl (op_assign rfl) rfl rfl ?_) | ((with_reducible refine ik_extract ?_); refine wo_op rfl (op_extract rfl rfl) rfl rfl ?_) | ((with_reducible refine ik_callF (f := 15) ?_); (refine wo_call rfl rfl rfl rfl (c15 (ss2.grow gr_A) hk6) rfl rfl ?_; rintro _ _ ⟨si, hq, hwi⟩; all_goals ((try (have hqn := hq.nx)); (try simp only [H.nx_push, H.nx_set, H.nx_bump] at hqn)))) | ((with_reducible refine ik_callF (f := 16) ?_); (refine wo_call rfl rfl rfl rfl (c16 (sA2.grow gr_A) hn6) rfl rfl ?_; rintro _ _ ⟨sf, hq, hwf⟩; all_goals ((try (have hqn := hq.nx)); (try simp only [H.nx_push, H.nx_set, H.nx_bump] at hqn)))) | ((with_reducible refine ik_callv ?_); (refine wo_call rfl rfl rfl rfl (r14 _ _ _ (si.grow gr_A) (sf.grow gr_A) wf_A) rfl rfl ?_; rintro _ _ ⟨rfl, hq⟩; all_goals ((try (have hqn := hq.nx)); (try simp only [H.nx_push, H.nx_set, H.nx_bump] at hqn))))) | with_reducible refine wc_region ?_)
      exact ⟨rfl, (), within_lk ⟨rfl, rfl, rfl, rfl, rfl, rfl, trivial⟩, wf_A, gr_A⟩
    clear w3g g3g g3
    rintro _ g3 ⟨w3g, g3g⟩
    have l3 := g3g.nx
    refine wc_mid (ι := Option Addr × Nat) (fun i => [(0, .slice a m c), (1, .slice b k d), (5, .pointer (some ⟨h.nx, 0, some 0⟩)), (7, .slice a7 n c7), (9, .slice a9 n c9), (26, .int .i64 4), (27, .slice i.1 n i.2), (28, .int .i64 0)]) (fun i h' => (Wf h' ∧ Grow g2 h') ∧ Sl G h' 1 (.slice i.1 n i.2) n ((aD.map smpW).map (.float .f32))) ?_ ?_
    · repeat' (first | ((with_reducible refine xk_any ?_); ((with_reducible refine xk_as0 ?_); first | ((with_reducible refine xk_move ?_); refine wx_q (wt_none rfl) rfl rfl (op_q rfl (op_move rfl)) rfl rfl rfl ?_) | ((with_reducible refine xk_assign ?_); refine wx_q (wt_none rfl) rfl rfl (op_q rfl (op_assign rfl)) rfl rfl rfl ?_) | ((with_reducible refine xk_indexAddr ?_); refine wx_q (wt_none rfl) rfl rfl (op_q rfl (op_idxArr' rfl rfl Tryz.underlying24 zs23 (by omega) (by omega))) rfl rfl rfl ?_) | ((with_reducible refine xk_load ?_); refine wx_h0 (wt_none rfl) rfl (op_q rfl (op_ldAt rfl at_A Tryz.underlying23 rfl rfl)) rfl rfl rfl ?_) | ((with_reducible refine xk_extract ?_); refine wx_q (wt_none rfl) rfl rfl (op_q rfl (op_extract rfl rfl)) rfl rfl rfl ?_) | ((with_reducible refine xk_callF (f := 15) ?_); (refine wx_call0 (wt_none rfl) rfl rfl rfl rfl (c15 (ss2.grow gr_A) hk6) rfl rfl ?_; rintro _ _ ⟨si, hq, hwi⟩; all_goals ((try (have hqn := hq.nx)); (try simp only [H.nx_push, H.nx_set, H.nx_bump] at hqn)))) | ((with_reducible refine xk_callF (f := 16) ?_); (refine wx_call0 (wt_none rfl) rfl rfl rfl rfl (c16 (s02.grow gr_A) hn6) rfl rfl ?_; rintro _ _ ⟨sf, hq, hwf⟩; all_goals ((try (have hqn := hq.nx)); (try simp only [H.nx_push, H.nx_set, H.nx_bump] at hqn)))) | ((with_reducible refine xk_callv ?_); (refine wx_call0 (wt_none rfl) rfl rfl rfl rfl (q14 _ _ _ (si.grow gr_A) (sf.grow gr_A) wf_A) rfl rfl ?_; rintro _ _ ⟨⟨aa1, cc1, rfl, sD⟩, hq⟩; all_goals ((try (have hqn := hq.nx)); (try simp only [H.nx_push, H.nx_set, H.nx_bump] at hqn)))) | with_reducible refine wx_nil0 ?_ ?_)) | with_reducible exact obl_nil | with_reducible refine obl_cons ?_ ?_ | ((with_reducible refine ik_obs ?_); first | exact obs_nil | refine obs_skip rfl ?_ | refine obs_chkn rfl rfl (op_q rfl (op_ldAt rfl at_A Tryz.underlying23 rfl (by rfl))) ?_) | refine wc_drawB (id := 30) 11 [0, 1, 0, 4, 15, 31, 63, 127, 127, 255, 1023] [0, 1, 2, 3, 4, 5, 6, 7, 8, 9, 10] (by kernel_rfl) (by kernel_rfl) rfl rfl ?_)
      exact ⟨rfl, (aa1, cc1), within_lk ⟨rfl, rfl, rfl, rfl, rfl, rfl, rfl, rfl, trivial⟩, ⟨wf_A, gr_A⟩, sD.grow gr_A⟩
    clear w3g g3g g3 l3
    rintro ⟨aa1, cc1⟩ g3 ⟨⟨w3g, g3g⟩, sD⟩
    repeat' (first | with_reducible refine wo_nil ?_ | ((with_reducible refine wo_any ?_); first | ((with_reducible refine ik_move ?_); refine wo_op rfl (op_move rfl) rfl rfl ?_) | ((with_reducible refine ik_assign ?_); refine wo_op rfl (op_assign rfl) rfl rfl ?_) | ((with_reducible refine ik_pick ?_); refine wo_op rfl (op_pickt rfl rfl) rfl rfl ?_) | ((with_reducible refine ik_bin ?_); first | refine wo_op rfl (op_neq rfl rfl) rfl rfl ?_ | refine wo_op rfl (op_eql rfl rfl) rfl rfl ?_) | ((with_reducible refine ik_g ?_); refine wo_gskip rfl rfl rfl rfl rfl rfl ?_)) | with_reducible refine sq_norm ?_ | with_reducible refine wc_seq ?_ | with_reducible refine wc_region ?_ | with_reducible refine wc_ret ?_ | with_reducible refine sq_ret ?_ | refine wc_ift rfl ?_)
    exact rq1 rfl ⟨rfl, gr_A⟩
  · have hLf := Bool.eq_false_iff.2 hLg
    have E6 : appE s (aA.map smpW) = 0 := appE_ok zs lcA (by rw [mA]; exact hLf)
    have r14 := fun (h' : H) (v w : Value) (u1 : Sl G h' 1 v k (s.map (.int .i64))) (u2 : Sl G h' 1 w n ((aA.map smpW).map (.float .f32))) (w' : Wf h') => c14k (G := G) (h := h') u1 u2 hk6 hn6 w' hG E6
    rw [mA] at r14
    have hcm : appL t aD = appL s aA := by rw [← hD, ← hA]; exact app_comm s t L0
    have E7 : appE t (aD.map smpW) = 0 := appE_ok zt (lchk_of (by simp; omega) eD) (by rw [mD, hcm]; exact hLf)
    have s14 := fun (h' : H) (v w : Value) (u1 : Sl G h' 1 v m (t.map (.int .i64))) (u2 : Sl G h' 1 w n ((aD.map smpW).map (.float .f32))) (w' : Wf h') => c14k (G := G) (h := h') u1 u2 hm6 hn6 w' hG E7
    rw [mD, hcm] at s14
    obtain ⟨aF, hF⟩ : ∃ L, appL s aA = L := ⟨_, rfl⟩
    rw [hF] at r14 s14 hLf
    have sF : selfEq (aF.map smpW) := fun x hx => by
      obtain ⟨z, hz, rfl⟩ := List.mem_map.1 hx
      exact smpW_self (not_large hLf z hz)
    refine wc_mid (ι := Option Addr × Nat) (fun i => [(0, .slice a m c), (1, .slice b k d), (5, .pointer (some ⟨h.nx, 0, some 0⟩)), (7, .slice a7 n c7), (9, .slice a9 n c9), (25, .slice i.1 n i.2), (26, .int .i64 0)]) (fun i h' => (Wf h' ∧ Grow g2 h') ∧ Sl G h' 1 (.slice i.1 n i.2) n ((aF.map smpW).map (.float .f32))) ?_ ?_
    · repeat' (first | with_reducible refine wo_nil ?_ | ((with_reducible refine wo_any ?_); first | ((with_reducible refine ik_move ?_); refine wo_op rfl (op_move rfl) rfl rfl ?_) | ((with_reducible refine ik_assign ?_); refine wo_op rfl (op_assign rfl) rfl rfl ?_) | ((with_reducible refine ik_extract ?_); refine wo_op rfl (op_extract rfl rfl) rfl rfl ?_) | ((with_reducible refine ik_callF (f := 15) ?_); (refine wo_call rfl rfl rfl rfl (c15 (ss2.grow gr_A) hk6) rfl rfl ?_; rintro _ _ ⟨si, hq, hwi⟩; all_goals ((try (have hqn := hq.nx)); (try simp only [H.nx_push, H.nx_set, H.nx_bump] at hqn)))) | ((with_reducible refine ik_callF (f := 16) ?_); (refine wo_call rfl rfl rfl rfl (c16 (sA2.grow gr_A) hn6) rfl rfl ?_; rintro _ _ ⟨sf, hq, hwf⟩; all_goals ((try (have hqn := hq.nx)); (try simp only [H.nx_push, H.nx_set, H.nx_bump] at hqn)))) | ((with_reducible refine ik_callv ?_); (refine wo_call rfl rfl rfl rfl (r14 _ _ _ (si.grow gr_A) (sf.grow gr_A) wf_A) rfl rfl ?_; rintro _ _ ⟨⟨aa1, cc1, rfl, sD⟩, hq⟩; all_goals ((try (have hqn := hq.nx)); (try simp only [H.nx_push, H.nx_set, H.nx_bump] at hqn))))) | with_reducible refine wc_region ?_)
      exact ⟨rfl, (aa1, cc1), within_lk ⟨rfl, rfl, rfl, rfl, rfl, rfl, rfl, trivial⟩, ⟨wf_A, gr_A⟩, sD.grow gr_A⟩
    clear w3g g3g g3
    rintro ⟨aa1, cc1⟩ g3 ⟨⟨w3g, g3g⟩, s1F⟩
    simp only at s1F ⊢
    have l3 := g3g.nx
    refine wc_mid (ι := Option Addr × Nat) (fun i => [(0, .slice a m c), (1, .slice b k d), (5, .pointer (some ⟨h.nx, 0, some 0⟩)), (7, .slice a7 n c7), (9, .slice a9 n c9), (25, .slice aa1 n cc1), (26, .int .i64 0), (27, .slice i.1 n i.2), (28, .int .i64 0)]) (fun i h' => (Wf h' ∧ Grow g2 h') ∧ Sl G h' 1 (.slice aa1 n cc1) n ((aF.map smpW).map (.float .f32)) ∧ Sl G h' 1 (.slice i.1 n i.2) n ((aD.map smpW).map (.float .f32))) ?_ ?_
    · repeat' (first | ((with_reducible refine xk_any ?_); ((with_reducible refine xk_as0 ?_); first | ((with_reducible refine xk_move ?_); refine wx_q (wt_none rfl) rfl rfl (op_q rfl (op_move rfl)) rfl rfl rfl ?_) | ((with_reducible refine xk_assign ?_); refine wx_q (wt_none rfl) rfl rfl (op_q rfl (op_assign rfl)) rfl rfl rfl ?_) | ((with_reducible refine xk_indexAddr ?_); refine wx_q (wt_none rfl) rfl rfl (op_q rfl (op_idxArr' rfl rfl Tryz.underlying24 zs23 (by omega) (by omega))) rfl rfl rfl ?_) | ((with_reducible refine xk_load ?_); refine wx_h0 (wt_none rfl) rfl (op_q rfl (op_ldAt rfl at_A Tryz.underlying23 rfl rfl)) rfl rfl rfl ?_) | ((with_reducible refine xk_extract ?_); refine wx_q (wt_none rfl) rfl rfl (op_q rfl (op_extract rfl rfl)) rfl rfl rfl ?_) | ((with_reducible refine xk_callF (f := 15) ?_); (refine wx_call0 (wt_none rfl) rfl rfl rfl rfl (c15 (ss2.grow gr_A) hk6) rfl rfl ?_; rintro _ _ ⟨si, hq, hwi⟩; all_goals ((try (have hqn := hq.nx)); (try simp only [H.nx_push, H.nx_set, H.nx_bump] at hqn)))) | ((with_reducible refine xk_callF (f := 16) ?_); (refine wx_call0 (wt_none rfl) rfl rfl rfl rfl (c16 (s02.grow gr_A) hn6) rfl rfl ?_; rintro _ _ ⟨sf, hq, hwf⟩; all_goals ((try (have hqn := hq.nx)); (try simp only [H.nx_push, H.nx_set, H.nx_bump] at hqn)))) | ((with_reducible refine xk_callv ?_); (refine wx_call0 (wt_none rfl) rfl rfl rfl rfl (q14 _ _ _ (si.grow gr_A) (sf.grow gr_A) wf_A) rfl rfl ?_; rintro _ _ ⟨⟨aa2, cc2, rfl, sD⟩, hq⟩; all_goals ((try (have hqn := hq.nx)); (try simp only [H.nx_push, H.nx_set, H.nx_bump] at hqn)))) | with_reducible refine wx_nil0 ?_ ?_)) | with_reducible exact obl_nil | with_reducible refine obl_cons ?_ ?_ | ((with_reducible refine ik_obs ?_); first | exact obs_nil | refine obs_skip rfl ?_ | refine obs_chkn rfl rfl (op_q rfl (op_ldAt rfl at_A Tryz.underlying23 rfl (by rfl))) ?_) | refine wc_drawB (id := 30) 11 [0, 1, 0, 4, 15, 31, 63, 127, 127, 255, 1023] [0, 1, 2, 3, 4, 5, 6, 7, 8, 9, 10] (by kernel_rfl) (by kernel_rfl) rfl rfl ?_)
      exact ⟨rfl, (aa2, cc2), within_lk ⟨rfl, rfl, rfl, rfl, rfl, rfl, rfl, rfl, rfl, trivial⟩, ⟨wf_A, gr_A⟩, s1F.grow gr_A, sD.grow gr_A⟩
    clear w3g g3g g3 l3 s1F
    rintro ⟨aa2, cc2⟩ g3 ⟨⟨w3g, g3g⟩, s1F, sD⟩
    simp only at sD ⊢
    refine wc_mid (ι := Unit) (fun i => [(0, .slice a m c), (1, .slice b k d), (5, .pointer (some ⟨h.nx, 0, some 0⟩)), (7, .slice a7 n c7), (9, .slice a9 n c9), (25, .slice aa1 n cc1), (27, .slice aa2 n cc2)]) (fun i h' => (Wf h' ∧ Grow g2 h') ∧ Sl G h' 1 (.slice aa1 n cc1) n ((aF.map smpW).map (.float .f32)) ∧ Sl G h' 1 (.slice aa2 n cc2) n ((aD.map smpW).map (.float .f32))) ?_ ?_
    · repeat' (first | with_reducible refine wo_nil ?_ | ((with_reducible refine wo_any ?_); first | ((with_reducible refine ik_move ?_); refine wo_op rfl (op_move rfl) rfl rfl ?_) | ((with_reducible refine ik_pick ?_); refine wo_op rfl (op_pickf rfl rfl) rfl rfl ?_) | ((with_reducible refine ik_bin ?_); refine wo_op rfl (op_neq rfl rfl) rfl rfl ?_) | ((with_reducible refine ik_g ?_); first | ((with_reducible refine ig_move ?_); refine wo_grun rfl rfl rfl (op_move rfl) rfl rfl ?_) | ((with_reducible refine ig_bin ?_); refine wo_grun rfl rfl rfl (op_neq rfl rfl) rfl rfl ?_))) | with_reducible refine sq_norm ?_ | with_reducible refine wc_seq ?_ | with_reducible refine wc_region ?_ | with_reducible refine wc_skip ?_ | refine wc_iff rfl ?_)
      exact ⟨rfl, (), within_lk ⟨rfl, rfl, rfl, rfl, rfl, rfl, rfl, trivial⟩, ⟨wf_A, gr_A⟩, s1F.grow gr_A, sD.grow gr_A⟩
    clear w3g g3g g3 s1F sD
    rintro _ g3 ⟨⟨w3g, g3g⟩, s1F, sD⟩
    have l3 := g3g.nx
    refine wc_mid (ι := Option Addr × Nat) (fun i => [(0, .slice a m c), (1, .slice b k d), (5, .pointer (some ⟨h.nx, 0, some 0⟩)), (7, .slice a7 n c7), (9, .slice a9 n c9), (25, .slice aa1 n cc1), (29, .slice i.1 n i.2), (30, .int .i64 0)]) (fun i h' => (Wf h' ∧ Grow g2 h') ∧ Sl G h' 1 (.slice aa1 n cc1) n ((aF.map smpW).map (.float .f32)) ∧ Sl G h' 1 (.slice i.1 n i.2) n ((aF.map smpW).map (.float .f32))) ?_ ?_
    · repeat' (first | with_reducible refine wo_nil ?_ | ((with_reducible refine wo_any ?_); first | ((with_reducible refine ik_move ?_); refine wo_op rfl (op_move rfl) rfl rfl ?_) | ((with_reducible refine ik_assign ?_); refine wo_op rfl (op_assign rfl) rfl rfl ?_) | ((with_reducible refine ik_extract ?_); refine wo_op rfl (op_extract rfl rfl) rfl rfl ?_) | ((with_reducible refine ik_callF (f := 15) ?_); (refine wo_call rfl rfl rfl rfl (c15 (st2.grow gr_A) hm6) rfl rfl ?_; rintro _ _ ⟨si, hq, hwi⟩; all_goals ((try (have hqn := hq.nx)); (try simp only [H.nx_push, H.nx_set, H.nx_bump] at hqn)))) | ((with_reducible refine ik_callF (f := 16) ?_); (refine wo_call rfl rfl rfl rfl (c16 (sD.grow gr_A) hn6) rfl rfl ?_; rintro _ _ ⟨sf, hq, hwf⟩; all_goals ((try (have hqn := hq.nx)); (try simp only [H.nx_push, H.nx_set, H.nx_bump] at hqn)))) | ((with_reducible refine ik_callv ?_); (refine wo_call rfl rfl rfl rfl (s14 _ _ _ (si.grow gr_A) (sf.grow gr_A) wf_A) rfl rfl ?_; rintro _ _ ⟨⟨aa3, cc3, rfl, sT⟩, hq⟩; all_goals ((try (have hqn := hq.nx)); (try simp only [H.nx_push, H.nx_set, H.nx_bump] at hqn))))) | with_reducible refine wc_region ?_)
      exact ⟨rfl, (aa3, cc3), within_lk ⟨rfl, rfl, rfl, rfl, rfl, rfl, rfl, rfl, trivial⟩, ⟨wf_A, gr_A⟩, s1F.grow gr_A, sT.grow gr_A⟩
    clear w3g g3g g3 l3 s1F sD
    rintro ⟨aa3, cc3⟩ g3 ⟨⟨w3g, g3g⟩, s1F, sT⟩
    simp only at sT ⊢
    repeat' (first | with_reducible refine wo_nil ?_ | ((with_reducible refine wo_any ?_); first | ((with_reducible refine ik_move ?_); refine wo_op rfl (op_move rfl) rfl rfl ?_) | ((with_reducible refine ik_assign ?_); refine wo_op rfl (op_assign rfl) rfl rfl ?_) | ((with_reducible refine ik_pick ?_); refine wo_op rfl (op_pickt rfl rfl) rfl rfl ?_) | ((with_reducible refine ik_bin ?_); refine wo_op rfl (op_eql rfl rfl) rfl rfl ?_) | ((with_reducible refine ik_g ?_); first | ((with_reducible refine ig_move ?_); refine wo_grun rfl rfl rfl (op_move rfl) rfl rfl ?_) | ((with_reducible refine ig_callF (f := 19) ?_); (refine wo_gcall rfl rfl rfl rfl rfl rfl (c19g (s1F.grow gr_A) (sT.grow gr_A) hn6 ⟨rfl, fun i q _ => sF _ (List.getElem_mem q)⟩) rfl rfl ?_; rintro _ _ ⟨rfl, hq⟩; all_goals ((try (have hqn := hq.nx)); (try simp only [H.nx_push, H.nx_set, H.nx_bump] at hqn)))))) | with_reducible refine sq_norm ?_ | with_reducible refine wc_seq ?_ | with_reducible refine wc_region ?_ | with_reducible refine wc_ret ?_)
    exact rq1 rfl ⟨rfl, gr_A⟩


theorem c3 {x0 x1 a b : Option Addr} {n p c0 c1 m c k d : Nat} {l0 l1 : List Nat} {t s : List Int} (st : Sl G h 1 (.slice a m c) m (t.map (.int .i64))) (ss : Sl G h 1 (.slice b k d) k (s.map (.int .i64))) (s0 : Sl G h 1 (.slice x0 n c0) n (l0.map (.float .f32))) (s1 : Sl G h 1 (.slice x1 p c1) p (l1.map (.float .f32))) (hw : Wf h) (hG : ∀ a v, laidBase a = some v → G a = some v) : Cf (mz G) (.func (.func 3) #[] #[]) [.slice a m c, .slice b k d, .agg ⟨[.slice x0 n c0, .slice x1 p c1]⟩] h fun r h' => r = .bool true ∧ Grow h h' := by
  by_cases hS : m ≤ 9 ∧ k ≤ 9 ∧ tchk t = 0 ∧ tchk s = 0 ∧ quietB l0 60 = true ∧ quietB l1 60 = true ∧ n = p
  · obtain ⟨z1, z2, z3, z4, z5, z6, rfl⟩ := hS
    exact c3m st ss s0 s1 z1 z2 z3 z4 z5 z6 hw hG
  · exact c3n st ss s0 s1 hS hw

end Go.Proofs.YtdfpadokepmknaaGreatDoor
