/- Cover: lines copied and held against one another; lists changed. -/
import Derived.Test.YtnkmencbnoipmaaGreatDoorC5
set_option linter.all false
/- Lines copied and held against one another. -/
namespace Go.Proofs.YtnkmencbnoipmaaGreatDoor
open Go Go.Ab Go.Fl
attribute [local irreducible] SeqQ BlkQ LpQ RetQ Wc Wo WD WX Op1 Op1q Op1a Cf Cl From
attribute [local irreducible] Ieee.Format.order Ieee.Format.read Ieee.Format.nearest Ieee.Format.write Ieee.Format.mul Ieee.Format.div Ieee.Format.sqrt Ieee.Datum.order Ieee.Datum.integral K U rngE errN cntE cmpI indE ptE plaE firstNZ numsE lnE BigP isNameB nmE ascA
set_option maxRecDepth 10000
variable {G : Base} {h : H}

theorem c37 {v : Value} {n : Nat} {l : List Int} (s : Sl G h 1 v n (l.map (.int .i64))) (hn : n < 1000000) : Cf (mz G) (.func (.func 37) #[] #[]) [v] h fun r h' => (∃ a c, r = .slice a n c ∧ Sl G h' 1 (.slice a n c) n (l.map (.int .i64))) ∧ Grow h h' := by
  obtain ⟨a, c, rfl⟩ := s.form
  obtain ⟨r, h2, hap, s2, hg, hw⟩ := append_copy (M := mz G) (st := 41) (xt := 41) (h := h.push (.cells [] 3 1 false)) Tryz.underlying41 Tryz.underlying41 rfl zs3 zb3 zz3 rfl (At.new _ _) (s.grow ((Grow.refl _).push _)) (all_one_map (fun _ => rfl) l) (by omega)
  refine cf_enter0 6 [.tmp 2] Tryz.func37 rfl rfl rfl rfl ?_
  repeat' (first | with_reducible refine wo_nil ?_ | ((with_reducible refine wo_any ?_); first | ((with_reducible refine ik_move ?_); refine wo_op rfl (op_move rfl) rfl rfl ?_) | ((with_reducible refine ik_assign ?_); refine wo_op rfl (op_assign rfl) rfl rfl ?_) | ((with_reducible refine ik_callb ?_); refine wo_op rfl (op_append rfl rfl hap) rfl rfl ?_) | ((with_reducible refine ik_buildSlice ?_); refine wo_op rfl (op_buildSl rfl Tryz.underlying41 zs3 zz3 rfl rfl) rfl rfl ?_)) | with_reducible refine sq_norm ?_ | with_reducible refine wc_seq ?_ | with_reducible refine wc_region ?_ | with_reducible refine wc_ret ?_)
  obtain ⟨a', c', rfl⟩ := s2.form
  exact rq1 rfl ⟨⟨_, _, rfl, s2⟩, Grow.trans ((Grow.refl _).push _) hg⟩
set_option maxHeartbeats 2000000 in
theorem c17 {nm : ByteArray} {x y tx ty sh nx ny px py ch : Int} {a : Option Addr} {n c : Nat} {rf : List Int} (s : Sl G h 1 (.slice a n c) n (rf.map (.int .i64))) (hn : n < 1000000) : Cf (mz G) (.func (.func 17) #[] #[]) [.agg ⟨lnC nm x y tx ty sh nx ny px py ch a n c⟩] h fun r h' => (∃ a' c', r = .agg ⟨lnC nm x y tx ty sh nx ny px py ch a' n c'⟩ ∧ Sl G h' 1 (.slice a' n c') n (rf.map (.int .i64))) ∧ Grow h h' := by
  have q37 := fun (h' : H) (g : Grow h h') => c37 (s.grow g) hn
  refine cf_enter0 10 [.cell 2 43] Tryz.func17 rfl rfl rfl rfl ?_
  repeat' (first | with_reducible refine wo_nil ?_ | ((with_reducible refine wo_any ?_); first | ((with_reducible refine ik_box ?_); refine wo_op rfl (op_boxAgg rfl zs45 rfl) rfl rfl ?_) | ((with_reducible refine ik_alloc ?_); refine wo_op rfl (op_alloc zz43 zs43 rfl rfl rfl) rfl rfl ?_) | ((with_reducible refine ik_load ?_); first | refine wo_op rfl (op_ldAgg rfl at_A Tryz.underlying45 rfl zs45 rfl rfl) rfl rfl ?_ | refine wo_op rfl (op_ldAt rfl at_A Tryz.underlying41 rfl rfl) rfl rfl ?_) | ((with_reducible refine ik_store ?_); first | refine wo_op0 rfl (op_stAgg rfl rfl at_A zs43 rfl rfl rfl rfl) rfl ?_ | refine wo_op0 rfl (op_st1 rfl rfl at_A rfl zs41 rfl rfl rfl) rfl ?_) | ((with_reducible refine ik_fieldAddr ?_); refine wo_op rfl (op_fieldAddr (o := 11) rfl Tryz.underlying45 rfl zs41 rfl) rfl rfl ?_) | ((with_reducible refine ik_callv ?_); (refine wo_call rfl rfl rfl rfl (q37 _ gr_A) rfl rfl ?_; rintro _ _ ⟨⟨a', c', rfl, s'⟩, hq⟩; all_goals ((try (have hqn := hq.nx)); (try simp only [H.nx_push, H.nx_set, H.nx_bump] at hqn))))) | with_reducible refine sq_norm ?_ | with_reducible refine wc_seq ?_ | with_reducible refine wc_region ?_ | with_reducible refine wc_ret ?_)
  exact rqc1 rfl (ldAgg at_A Tryz.underlying43 rfl zs43 rfl rfl) ⟨⟨a', c', rfl, Sl.set_ne (Sl.set_ne s' at_A (by decide) _) at_A (by decide) _⟩, gr_A⟩
set_option maxHeartbeats 2000000 in
theorem c34 {nm : ByteArray} {x y tx ty sh nx ny px py ch : Int} {a : Option Addr} {n c : Nat} {rf : List Int} (s : Sl G h 1 (.slice a n c) n (rf.map (.int .i64))) (hn : n < 1000000) : Cf (mz G) (.func (.func 34) #[] #[]) [.agg ⟨lnC nm x y tx ty sh nx ny px py ch a n c⟩] h fun r h' => (∃ a' c', r = .agg ⟨lnC nm x y tx ty sh nx ny px py ch a' n c'⟩ ∧ Sl G h' 1 (.slice a' n c') n (rf.map (.int .i64))) ∧ Grow h h' := by
  have q37 := fun (h' : H) (g : Grow h h') => c37 (s.grow g) hn
  refine cf_enter0 10 [.cell 2 45] Tryz.func34 rfl rfl rfl rfl ?_
  repeat' (first | with_reducible refine wo_nil ?_ | ((with_reducible refine wo_any ?_); first | ((with_reducible refine ik_box ?_); refine wo_op rfl (op_boxAgg rfl zs43 rfl) rfl rfl ?_) | ((with_reducible refine ik_alloc ?_); refine wo_op rfl (op_alloc zz45 zs45 rfl rfl rfl) rfl rfl ?_) | ((with_reducible refine ik_load ?_); first | refine wo_op rfl (op_ldAgg rfl at_A Tryz.underlying43 rfl zs43 rfl rfl) rfl rfl ?_ | refine wo_op rfl (op_ldAt rfl at_A Tryz.underlying41 rfl rfl) rfl rfl ?_) | ((with_reducible refine ik_store ?_); first | refine wo_op0 rfl (op_stAgg rfl rfl at_A zs45 rfl rfl rfl rfl) rfl ?_ | refine wo_op0 rfl (op_st1 rfl rfl at_A rfl zs41 rfl rfl rfl) rfl ?_) | ((with_reducible refine ik_fieldAddr ?_); refine wo_op rfl (op_fieldAddr (o := 11) rfl Tryz.underlying43 rfl zs41 rfl) rfl rfl ?_) | ((with_reducible refine ik_callv ?_); (refine wo_call rfl rfl rfl rfl (q37 _ gr_A) rfl rfl ?_; rintro _ _ ⟨⟨a', c', rfl, s'⟩, hq⟩; all_goals ((try (have hqn := hq.nx)); (try simp only [H.nx_push, H.nx_set, H.nx_bump] at hqn))))) | with_reducible refine sq_norm ?_ | with_reducible refine wc_seq ?_ | with_reducible refine wc_region ?_ | with_reducible refine wc_ret ?_)
  exact rqc1 rfl (ldAgg at_A Tryz.underlying45 rfl zs45 rfl rfl) ⟨⟨a', c', rfl, Sl.set_ne (Sl.set_ne s' at_A (by decide) _) at_A (by decide) _⟩, gr_A⟩

theorem c45 {v w : Value} {n m : Nat} {l k : List Int} (s : Sl G h 1 v n (l.map (.int .i64))) (u : Sl G h 1 w m (k.map (.int .i64))) (hn : n < 1000000) (hm : m < 1000000) (hw : Wf h) : Cf (mz G) (.func (.func 45) #[] #[]) [v, w] h fun r h' => r = .bool (decide (l = k)) ∧ Grow h h' := by
  obtain ⟨a, c, rfl⟩ := s.form
  obtain ⟨b, d, rfl⟩ := u.form
  have hl := s.length
  have hk := u.length
  simp at hl hk
  by_cases hnm : n = m
  · subst hnm
    refine cf_enter0 26 [.tmp 4] Tryz.func45 rfl rfl rfl rfl ?_
    repeat' (first | with_reducible refine wo_nil ?_ | ((with_reducible refine wo_any ?_); first | ((with_reducible refine ik_move ?_); refine wo_op rfl (op_move rfl) rfl rfl ?_) | ((with_reducible refine ik_assign ?_); refine wo_op rfl (op_assign rfl) rfl rfl ?_) | ((with_reducible refine ik_callb ?_); refine wo_op rfl (op_lenSl rfl Tryz.underlying41) rfl rfl ?_) | ((with_reducible refine ik_bin ?_); refine wo_op rfl (op_neq rfl rfl) rfl rfl ?_)) | with_reducible refine sq_norm ?_ | with_reducible refine wc_seq ?_ | with_reducible refine wc_region ?_ | with_reducible refine wc_skip ?_ | with_reducible refine wc_block ?_ | (refine wc_if rfl (fun hb => ?_) (fun hb => ?_) <;> (try simp only [decide_eq_true_eq, decide_eq_false_iff_not, Bool.not_eq_true', Bool.not_eq_false', Int.not_lt, Int.not_le, Decidable.not_not, not_true_eq_false, not_false_eq_true, beq_self_eq_true, reduceCtorEq] at hb) <;> (try (exfalso; omega))))
    refine wc_loop (fun i => n - i) (fun i : Nat => [(0, .slice a n c), (1, .slice b n d), (5, .int .i64 i)]) (fun i h' => (Wf h' ∧ Grow h h') ∧ i ≤ n ∧ ∀ j, j < i → l.getD j 0 = k.getD j 0) 0 (within_lk ⟨rfl, rfl, rfl, trivial⟩) ⟨⟨wf_A, gr_A⟩, Nat.zero_le _, fun j hj => by omega⟩ ?_
    rintro i h1 ⟨⟨w1, g1⟩, hi, hp⟩
    have n1 := g1.nx
    by_cases hlt : i < n
    · obtain ⟨ad, i1, i3⟩ := in_atG (s.grow g1) (i := (i : Int)) hlt rfl
      obtain ⟨bd, j1, j3⟩ := in_atG (u.grow g1) (i := (i : Int)) hlt rfl
      by_cases he : l.getD i 0 = k.getD i 0
      · have hp' : ∀ j, j < i + 1 → l.getD j 0 = k.getD j 0 := fun j hj => by
          by_cases q : j = i
          · rw [q]; exact he
          · exact hp j (by omega)
        rw [← he] at j3
        clear hp he
        generalize l.getD i 0 = z at i3 j3
        repeat' (first | with_reducible refine wo_nil ?_ | ((with_reducible refine wo_any ?_); first | ((with_reducible refine ik_move ?_); refine wo_op rfl (op_move rfl) rfl rfl ?_) | ((with_reducible refine ik_assign ?_); refine wo_op rfl (op_assign rfl) rfl rfl ?_) | ((with_reducible refine ik_callb ?_); refine wo_op rfl (op_lenSl rfl Tryz.underlying41) rfl rfl ?_) | ((with_reducible refine ik_bin ?_); first | refine wo_op rfl (op_lss rfl rfl) rfl rfl ?_ | refine wo_op rfl (op_add' rfl rfl (w64 (by omega) (by omega))) rfl rfl ?_)) | ((with_reducible refine xk_any ?_); ((with_reducible refine xk_as0 ?_); first | ((with_reducible refine xk_move ?_); refine wx_q (wt_none rfl) rfl rfl (op_q rfl (op_move rfl)) rfl rfl rfl ?_) | ((with_reducible refine xk_indexAddr ?_); first | refine wx_q (wt_none rfl) rfl rfl (op_q rfl (op_indexAddr rfl rfl i1)) rfl rfl rfl ?_ | refine wx_q (wt_none rfl) rfl rfl (op_q rfl (op_indexAddr rfl rfl j1)) rfl rfl rfl ?_) | ((with_reducible refine xk_load ?_); first | refine wx_h0 (wt_none rfl) rfl (op_q rfl (op_ldCell rfl Tryz.underlying3 rfl (i3 _ gr_A))) rfl rfl rfl ?_ | refine wx_h0 (wt_none rfl) rfl (op_q rfl (op_ldCell rfl Tryz.underlying3 rfl (j3 _ gr_A))) rfl rfl rfl ?_) | ((with_reducible refine xk_bin ?_); refine wx_q (wt_none rfl) rfl rfl (op_q rfl (op_neq rfl rfl)) rfl rfl rfl ?_) | with_reducible refine wx_nil0 ?_ ?_)) | with_reducible exact obl_nil | with_reducible refine obl_cons ?_ ?_ | ((with_reducible refine ik_obs ?_); first | exact obs_nil | refine obs_chkn rfl rfl (op_q rfl (op_ldCell rfl Tryz.underlying3 rfl (i3 _ gr_A))) ?_ | refine obs_chkn rfl rfl (op_q rfl (op_ldCell rfl Tryz.underlying3 rfl (j3 _ gr_A))) ?_) | with_reducible refine sq_norm ?_ | with_reducible refine wc_seq ?_ | with_reducible refine wc_region ?_ | with_reducible refine wc_skip ?_ | with_reducible refine wc_block ?_ | with_reducible refine bq_norm ?_ | (refine wc_if rfl (fun hb => ?_) (fun hb => ?_) <;> (try simp only [decide_eq_true_eq, decide_eq_false_iff_not, Bool.not_eq_true', Bool.not_eq_false', Int.not_lt, Int.not_le, Decidable.not_not, not_true_eq_false, not_false_eq_true, beq_self_eq_true, reduceCtorEq] at hb) <;> (try (exfalso; omega))) | refine wc_drawB (id := 6) 9 [0, 0, 3, 7, 0, 0, 48, 112, 255] [0, 1, 2, 3, 4, 5, 6, 7, 8] (by kernel_rfl) (by kernel_rfl) rfl rfl ?_)
        all_goals exact lq_norm (i + 1) (by omega) (within_lk ⟨rfl, rfl, rfl, trivial⟩) ⟨⟨wf_A, gr_A⟩, by omega, hp'⟩
      · rw [decide_eq_false (show ¬l = k from fun q => he (by rw [q]))]
        clear hp
        generalize l.getD i 0 = z at i3 he
        generalize k.getD i 0 = y at j3 he
        repeat' (first | with_reducible refine wo_nil ?_ | ((with_reducible refine wo_any ?_); first | ((with_reducible refine ik_move ?_); refine wo_op rfl (op_move rfl) rfl rfl ?_) | ((with_reducible refine ik_assign ?_); refine wo_op rfl (op_assign rfl) rfl rfl ?_) | ((with_reducible refine ik_callb ?_); refine wo_op rfl (op_lenSl rfl Tryz.underlying41) rfl rfl ?_) | ((with_reducible refine ik_bin ?_); refine wo_op rfl (op_lss rfl rfl) rfl rfl ?_)) | ((with_reducible refine xk_any ?_); ((with_reducible refine xk_as0 ?_); first | ((with_reducible refine xk_move ?_); refine wx_q (wt_none rfl) rfl rfl (op_q rfl (op_move rfl)) rfl rfl rfl ?_) | ((with_reducible refine xk_indexAddr ?_); first | refine wx_q (wt_none rfl) rfl rfl (op_q rfl (op_indexAddr rfl rfl i1)) rfl rfl rfl ?_ | refine wx_q (wt_none rfl) rfl rfl (op_q rfl (op_indexAddr rfl rfl j1)) rfl rfl rfl ?_) | ((with_reducible refine xk_load ?_); first | refine wx_h0 (wt_none rfl) rfl (op_q rfl (op_ldCell rfl Tryz.underlying3 rfl (i3 _ gr_A))) rfl rfl rfl ?_ | refine wx_h0 (wt_none rfl) rfl (op_q rfl (op_ldCell rfl Tryz.underlying3 rfl (j3 _ gr_A))) rfl rfl rfl ?_) | ((with_reducible refine xk_bin ?_); refine wx_q (wt_none rfl) rfl rfl (op_q rfl (op_neq rfl rfl)) rfl rfl rfl ?_) | with_reducible refine wx_nil0 ?_ ?_)) | with_reducible exact obl_nil | with_reducible refine obl_cons ?_ ?_ | ((with_reducible refine ik_obs ?_); first | exact obs_nil | refine obs_chkn rfl rfl (op_q rfl (op_ldCell rfl Tryz.underlying3 rfl (i3 _ gr_A))) ?_ | refine obs_chkn rfl rfl (op_q rfl (op_ldCell rfl Tryz.underlying3 rfl (j3 _ gr_A))) ?_) | with_reducible refine sq_norm ?_ | with_reducible refine wc_seq ?_ | with_reducible refine wc_region ?_ | with_reducible refine wc_skip ?_ | with_reducible refine wc_ret ?_ | with_reducible refine wc_block ?_ | with_reducible refine bq_ret ?_ | with_reducible refine sq_ret ?_ | with_reducible refine lq_ret ?_ | (refine wc_if rfl (fun hb => ?_) (fun hb => ?_) <;> (try simp only [decide_eq_true_eq, decide_eq_false_iff_not, Bool.not_eq_true', Bool.not_eq_false', Int.not_lt, Int.not_le, Decidable.not_not, not_true_eq_false, not_false_eq_true, beq_self_eq_true, reduceCtorEq] at hb) <;> (try (exfalso; omega))) | refine wc_drawB (id := 6) 9 [0, 0, 3, 7, 0, 0, 48, 112, 255] [0, 1, 2, 3, 4, 5, 6, 7, 8] (by kernel_rfl) (by kernel_rfl) rfl rfl ?_)
        all_goals exact rq1 rfl ⟨rfl, gr_A⟩
    · have hlk : l = k := by
        apply List.ext_getElem (by omega)
        intro j h1 h2
        rw [getElem_getD h1, getElem_getD h2]
        exact hp j (by omega)
      rw [decide_eq_true hlk]
      repeat' (first | with_reducible refine wo_nil ?_ | ((with_reducible refine wo_any ?_); first | ((with_reducible refine ik_move ?_); refine wo_op rfl (op_move rfl) rfl rfl ?_) | ((with_reducible refine ik_assign ?_); refine wo_op rfl (op_assign rfl) rfl rfl ?_) | ((with_reducible refine ik_callb ?_); refine wo_op rfl (op_lenSl rfl Tryz.underlying41) rfl rfl ?_) | ((with_reducible refine ik_bin ?_); refine wo_op rfl (op_lss rfl rfl) rfl rfl ?_)) | with_reducible refine sq_norm ?_ | with_reducible refine wc_seq ?_ | with_reducible refine wc_region ?_ | with_reducible refine wc_ret ?_ | with_reducible refine wc_exit ?_ | with_reducible refine sq_exit ?_ | with_reducible refine lq_exit ?_ | refine bq_eq rfl ?_ | (refine wc_if rfl (fun hb => ?_) (fun hb => ?_) <;> (try simp only [decide_eq_true_eq, decide_eq_false_iff_not, Bool.not_eq_true', Bool.not_eq_false', Int.not_lt, Int.not_le, Decidable.not_not, not_true_eq_false, not_false_eq_true, beq_self_eq_true, reduceCtorEq] at hb) <;> (try (exfalso; omega))))
      exact rq1 rfl ⟨rfl, gr_A⟩
  · rw [decide_eq_false (show ¬l = k from fun q => hnm (by rw [← hl, ← hk, q]))]
    refine cf_enter0 26 [.tmp 4] Tryz.func45 rfl rfl rfl rfl ?_
    repeat' (first | with_reducible refine wo_nil ?_ | ((with_reducible refine wo_any ?_); first | ((with_reducible refine ik_move ?_); refine wo_op rfl (op_move rfl) rfl rfl ?_) | ((with_reducible refine ik_assign ?_); refine wo_op rfl (op_assign rfl) rfl rfl ?_) | ((with_reducible refine ik_callb ?_); refine wo_op rfl (op_lenSl rfl Tryz.underlying41) rfl rfl ?_) | ((with_reducible refine ik_bin ?_); refine wo_op rfl (op_neq rfl rfl) rfl rfl ?_)) | with_reducible refine sq_norm ?_ | with_reducible refine wc_seq ?_ | with_reducible refine wc_region ?_ | with_reducible refine wc_ret ?_ | with_reducible refine sq_ret ?_ | (refine wc_if rfl (fun hb => ?_) (fun hb => ?_) <;> (try simp only [decide_eq_true_eq, decide_eq_false_iff_not, Bool.not_eq_true', Bool.not_eq_false', Int.not_lt, Int.not_le, Decidable.not_not, not_true_eq_false, not_false_eq_true, beq_self_eq_true, reduceCtorEq] at hb) <;> (try (exfalso; omega))))
    all_goals exact rq1 rfl ⟨rfl, gr_A⟩
theorem eqv_same (p q : Int) : eqV Tryz.prog 3 23 [.int .i64 p, .int .i64 q] [.int .i64 p, .int .i64 q] = some true := by rw [eqv23]; simp
set_option maxHeartbeats 4000000 in
theorem c33 {nm : ByteArray} {x y tx ty sh nx ny px py ch : Int} {a : Option Addr} {n c : Nat} {rf : List Int} {b : Option Addr} {d : Nat} (s : Sl G h 1 (.slice a n c) n (rf.map (.int .i64))) (u : Sl G h 1 (.slice b n d) n (rf.map (.int .i64))) (hn : n < 1000000) (hw : Wf h) : Cf (mz G) (.func (.func 33) #[] #[]) [.agg ⟨lnC nm x y tx ty sh nx ny px py ch a n c⟩, .agg ⟨lnC nm x y tx ty sh nx ny px py ch b n d⟩] h fun r h' => r = .bool true ∧ Grow h h' := by
  have q45 := fun (h' : H) (g : Grow h h') (w' : Wf h') => c45 (s.grow g) (u.grow g) hn hn w'
  have hd : decide (rf = rf) = true := by simp
  rw [hd] at q45
  refine cf_enter0 59 [.tmp 4] Tryz.func33 rfl rfl rfl rfl ?_
  repeat' (first | with_reducible refine wo_nil ?_ | ((with_reducible refine wo_any ?_); first | ((with_reducible refine ik_move ?_); refine wo_op rfl (op_move rfl) rfl rfl ?_) | ((with_reducible refine ik_assign ?_); refine wo_op rfl (op_assign rfl) rfl rfl ?_) | ((with_reducible refine ik_bin ?_); refine wo_op rfl (op_seq rfl rfl) rfl rfl ?_) | ((with_reducible refine ik_box ?_); refine wo_op rfl (op_boxAgg rfl zs45 rfl) rfl rfl ?_) | ((with_reducible refine ik_fieldAddr ?_); refine wo_op rfl (op_fieldAddr (o := 0) rfl Tryz.underlying45 rfl zs9 rfl) rfl rfl ?_) | ((with_reducible refine ik_load ?_); refine wo_op rfl (op_ldAt rfl at_A Tryz.underlying9 rfl rfl) rfl rfl ?_) | ((with_reducible refine ik_pick ?_); refine wo_op rfl (op_pickt rfl rfl) rfl rfl ?_) | ((with_reducible refine ik_g ?_); first | ((with_reducible refine ig_bin ?_); first | refine wo_grun rfl rfl rfl (op_eqT 3 rfl rfl rfl Tryz.underlying23 rfl eg23 (eqv_same _ _)) rfl rfl ?_ | refine wo_grun rfl rfl rfl (op_eql rfl rfl) rfl rfl ?_) | ((with_reducible refine ig_fieldAddr ?_); first | refine wo_grun rfl rfl rfl (op_fieldAddr (o := 1) rfl Tryz.underlying45 rfl zs23 rfl) rfl rfl ?_ | refine wo_grun rfl rfl rfl (op_fieldAddr (o := 3) rfl Tryz.underlying45 rfl zs23 rfl) rfl rfl ?_ | refine wo_grun rfl rfl rfl (op_fieldAddr (o := 5) rfl Tryz.underlying45 rfl zs3 rfl) rfl rfl ?_ | refine wo_grun rfl rfl rfl (op_fieldAddr (o := 6) rfl Tryz.underlying45 rfl zs23 rfl) rfl rfl ?_ | refine wo_grun rfl rfl rfl (op_fieldAddr (o := 8) rfl Tryz.underlying45 rfl zs23 rfl) rfl rfl ?_ | refine wo_grun rfl rfl rfl (op_fieldAddr (o := 10) rfl Tryz.underlying45 rfl zs3 rfl) rfl rfl ?_ | refine wo_grun rfl rfl rfl (op_fieldAddr (o := 11) rfl Tryz.underlying45 rfl zs41 rfl) rfl rfl ?_) | ((with_reducible refine ig_load ?_); first | refine wo_grun rfl rfl rfl (op_ldAgg rfl at_A Tryz.underlying23 rfl zs23 rfl rfl) rfl rfl ?_ | refine wo_grun rfl rfl rfl (op_ldAt rfl at_A Tryz.underlying3 rfl rfl) rfl rfl ?_ | refine wo_grun rfl rfl rfl (op_ldAt rfl at_A Tryz.underlying41 rfl rfl) rfl rfl ?_) | ((with_reducible refine ig_callv ?_); (refine wo_gcall rfl rfl rfl rfl rfl rfl (q45 _ gr_A wf_A) rfl rfl ?_; rintro _ _ ⟨rfl, hq⟩; all_goals ((try (have hqn := hq.nx)); (try simp only [H.nx_push, H.nx_set, H.nx_bump] at hqn)))) | (refine wo_gsplit rfl rfl rfl (fun hb => ?_) (fun hb => (of_decide_eq_false hb rfl).elim); (try simp only [decide_eq_true_eq, decide_eq_false_iff_not, Bool.not_eq_true', Bool.not_eq_false', Int.not_lt, Int.not_le, Decidable.not_not, not_true_eq_false, not_false_eq_true, beq_self_eq_true, reduceCtorEq] at hb)))) | with_reducible refine sq_norm ?_ | with_reducible refine wc_seq ?_ | with_reducible refine wc_region ?_ | with_reducible refine wc_ret ?_)
  all_goals exact rq1 rfl ⟨rfl, gr_A⟩
set_option maxHeartbeats 4000000 in
theorem c23 {nm : ByteArray} {x y tx ty sh nx ny px py ch : Int} {a : Option Addr} {n c : Nat} {rf : List Int} : Cf (mz G) (.func (.func 23) #[] #[]) [.agg ⟨lnC nm x y tx ty sh nx ny px py ch a n c⟩] h fun r h' => ((r = .bool true ∧ n ≤ 10 ∧ nm.size ≤ 40) ∨ r = .bool false) ∧ Grow h h' := by
  refine cf_enter0 31 [.tmp 2] Tryz.func23 rfl rfl rfl rfl ?_
  repeat' (first | with_reducible refine wo_nil ?_ | ((with_reducible refine wo_any ?_); first | ((with_reducible refine ik_move ?_); refine wo_op rfl (op_move rfl) rfl rfl ?_) | ((with_reducible refine ik_assign ?_); refine wo_op rfl (op_assign rfl) rfl rfl ?_) | ((with_reducible refine ik_box ?_); refine wo_op rfl (op_boxAgg rfl zs45 rfl) rfl rfl ?_) | ((with_reducible refine ik_fieldAddr ?_); first | refine wo_op rfl (op_fieldAddr (o := 5) rfl Tryz.underlying45 rfl zs3 rfl) rfl rfl ?_ | refine wo_op rfl (op_fieldAddr (o := 0) rfl Tryz.underlying45 rfl zs9 rfl) rfl rfl ?_) | ((with_reducible refine ik_load ?_); first | refine wo_op rfl (op_ldAt rfl at_A Tryz.underlying3 rfl rfl) rfl rfl ?_ | refine wo_op rfl (op_ldAt rfl at_A Tryz.underlying9 rfl rfl) rfl rfl ?_) | ((with_reducible refine ik_bin ?_); first | refine wo_op rfl (op_gtr rfl rfl) rfl rfl ?_ | refine wo_op rfl (op_leq rfl rfl) rfl rfl ?_) | ((with_reducible refine ik_pick ?_); first | refine wo_op rfl (op_pickt rfl rfl) rfl rfl ?_ | refine wo_op rfl (op_pickf rfl rfl) rfl rfl ?_) | ((with_reducible refine ik_callb ?_); refine wo_op rfl (op_lenStr rfl Tryz.underlying9) rfl rfl ?_) | ((with_reducible refine ik_g ?_); first | refine wo_gskip rfl rfl rfl rfl rfl rfl ?_ | refine wo_gskip' rfl rfl rfl rfl rfl ?_ | ((with_reducible refine ig_move ?_); refine wo_grun rfl rfl rfl (op_move rfl) rfl rfl ?_) | ((with_reducible refine ig_fieldAddr ?_); first | refine wo_grun rfl rfl rfl (op_fieldAddr (o := 5) rfl Tryz.underlying45 rfl zs3 rfl) rfl rfl ?_ | refine wo_grun rfl rfl rfl (op_fieldAddr (o := 10) rfl Tryz.underlying45 rfl zs3 rfl) rfl rfl ?_ | refine wo_grun rfl rfl rfl (op_fieldAddr (o := 11) rfl Tryz.underlying45 rfl zs41 rfl) rfl rfl ?_) | ((with_reducible refine ig_load ?_); first | refine wo_grun rfl rfl rfl (op_ldAt rfl at_A Tryz.underlying3 rfl rfl) rfl rfl ?_ | refine wo_grun rfl rfl rfl (op_ldAt rfl at_A Tryz.underlying41 rfl rfl) rfl rfl ?_) | ((with_reducible refine ig_bin ?_); first | refine wo_grun rfl rfl rfl (op_gtr rfl rfl) rfl rfl ?_ | refine wo_grun rfl rfl rfl (op_leq rfl rfl) rfl rfl ?_) | ((with_reducible refine ig_pick ?_); first | refine wo_grun rfl rfl rfl (op_pickt rfl rfl) rfl rfl ?_ | refine wo_grun rfl rfl rfl (op_pickf rfl rfl) rfl rfl ?_) | ((with_reducible refine ig_callb ?_); refine wo_grun rfl rfl rfl (op_lenSl rfl Tryz.underlying41) rfl rfl ?_) | (refine wo_gsplit rfl rfl rfl (fun hb => ?_) (fun hb => ?_) <;> (try simp only [decide_eq_true_eq, decide_eq_false_iff_not, Bool.not_eq_true', Bool.not_eq_false', Int.not_lt, Int.not_le, Decidable.not_not, not_true_eq_false, not_false_eq_true, beq_self_eq_true, reduceCtorEq] at hb) <;> (try (exfalso; omega))))) | with_reducible refine sq_norm ?_ | with_reducible refine wc_seq ?_ | with_reducible refine wc_region ?_ | with_reducible refine wc_skip ?_ | with_reducible refine wc_ret ?_ | with_reducible refine sq_ret ?_ | refine wc_ift rfl ?_ | refine wc_iff rfl ?_ | (refine wc_if rfl (fun hb => ?_) (fun hb => ?_) <;> (try simp only [decide_eq_true_eq, decide_eq_false_iff_not, Bool.not_eq_true', Bool.not_eq_false', Int.not_lt, Int.not_le, Decidable.not_not, not_true_eq_false, not_false_eq_true, beq_self_eq_true, reduceCtorEq] at hb) <;> (try (exfalso; omega))))
  all_goals first
    | exact rq1 rfl ⟨.inr rfl, gr_A⟩
    | (refine rq1 rfl ⟨?_, gr_A⟩
       by_cases q : (n : Int) ≤ 10
       · rw [decide_eq_true q]; exact .inl ⟨rfl, by omega, by omega⟩
       · rw [decide_eq_false q]; exact .inr rfl)
end Go.Proofs.YtnkmencbnoipmaaGreatDoor

/- Lists changed: elements deleted, turned round, mapped. -/
namespace Go.Proofs.YtnkmencbnoipmaaGreatDoor
open Go Go.Ab Go.Fl
attribute [local irreducible] SeqQ BlkQ LpQ RetQ Wc Wo WD WX Op1 Op1q Op1a Cf Cl From
attribute [local irreducible] Ieee.Format.order Ieee.Format.read Ieee.Format.nearest Ieee.Format.write Ieee.Format.mul Ieee.Format.div Ieee.Format.sqrt Ieee.Datum.order Ieee.Datum.integral K U rngE errN cntE cmpI indE ptE plaE firstNZ numsE lnE BigP isNameB nmE ascA
set_option maxRecDepth 10000
variable {G : Base} {h : H}

theorem op_clear {M : Mc} {l : KL} {h h' : H} {t : TypeId} {x : Operand} {v : Value} (hx : val l x = some v) (hv : aclear M.P h t v = some h') : Op1 M (.call ⟨.builtin .clear, #[x], #[t]⟩) l h undef h' :=
  op_blt fun e he => by simp [aop, he.val (x := x) (by simp [Op.operands, Call.operands]) hx, hv]
theorem op_slcLo {l : KL} {h : H} {x y : Operand} {b n i : Nat} {A : Int} {c : List Value} {sf : Bool} (hx : val l x = some (.slice (some ⟨b, 0, some 0⟩) n n)) (hy : val l y = some (.int .i64 A)) (hA : A = (i : Int)) (hi : i < n) (hat : At h b (.cells c 3 1 sf)) :
    Op1 (mz G) (.slice 41 x (some y) none none) l h (.slice (some ⟨b, i, some 0⟩) (n - i) (n - i)) h := by
  subst hA
  refine op_slice (a := some (.int .i64 i)) (b := none) (c := none) hx (by simp only [optV, hy]) rfl rfl ?_
  have hb0 : Nat.beq n i = false := by rw [beq_dec]; simp; omega
  have hd : (decide ((0 : Int) ≤ (n : Int) ∧ (n : Int) ≤ n) && decide ((0 : Int) ≤ (n : Int) ∧ (n : Int) ≤ (n : Int)) && decide ((0 : Int) ≤ (i : Int) ∧ (i : Int) ≤ (n : Int))) = true := by
    simp only [Bool.and_eq_true, decide_eq_true_eq]; omega
  have zz : tsz Tryz.prog 3 = some 1 := zs3
  show aslice Tryz.prog h 41 _ _ _ _ = _
  simp only [aslice, Tryz.underlying41, zz, optInt, asInt?, Option.isNone_none, Bool.true_or, hd, Int.toNat_natCast, hb0, hat.get, nbeq_self]
  simp [aadd]
theorem op_slcHi {l : KL} {h : H} {x y : Operand} {b n i : Nat} {A : Int} {c : List Value} {sf : Bool} (hx : val l x = some (.slice (some ⟨b, 0, some 0⟩) n n)) (hy : val l y = some (.int .i64 A)) (hA : A = (i : Int)) (hi : i ≤ n) (hn : 0 < n) (hat : At h b (.cells c 3 1 sf)) :
    Op1 (mz G) (.slice 41 x none (some y) none) l h (.slice (some ⟨b, 0, some 0⟩) i n) h := by
  subst hA
  refine op_slice (a := none) (b := some (.int .i64 i)) (c := none) hx rfl (by simp only [optV, hy]) rfl ?_
  have hb0 : Nat.beq n 0 = false := by rw [beq_dec]; simp; omega
  have hd : (decide ((0 : Int) ≤ (n : Int) ∧ (n : Int) ≤ n) && decide ((0 : Int) ≤ (i : Int) ∧ (i : Int) ≤ (n : Int)) && decide ((0 : Int) ≤ (0 : Int) ∧ (0 : Int) ≤ (i : Int))) = true := by
    simp only [Bool.and_eq_true, decide_eq_true_eq]; omega
  have zz : tsz Tryz.prog 3 = some 1 := zs3
  show aslice Tryz.prog h 41 _ _ _ _ = _
  simp only [aslice, Tryz.underlying41, zz, optInt, asInt?, Option.isNone_none, Bool.true_or, hd, Int.toNat_natCast, Int.toNat_zero, hb0, hat.get, nbeq_self]
  simp [aadd]
theorem clear_own {h : H} {b n i : Nat} {c : List Value} (hat : At h b (.cells c 3 1 false)) (hc : c.length = n) (hi : i < n) : aclear (mz G).P h 41 (.slice (some ⟨b, i, some 0⟩) (n - i) (n - i)) = some (h.set b (.cells (c.take i ++ List.replicate (n - i) (.int .i64 0)) 3 1 false)) := by
  obtain ⟨m, hm⟩ : ∃ m, n - i = m + 1 := ⟨n - i - 1, by omega⟩
  have zz : tzero Tryz.prog 3 = some (.int .i64 0) := zz3
  have hl : (repeatCells (m + 1) (Value.int .i64 0).cells.toList) = List.replicate (m + 1) (.int .i64 0) := repeatCells_one _ _
  rw [hm]
  show aclear Tryz.prog h 41 _ = _
  unfold aclear
  simp only [Tryz.underlying41, zz]
  show (match gd (Value.int .i64 0) with | true => asto h ⟨b, i, some 0⟩ (repeatCells (m + 1) (Value.int .i64 0).cells.toList) | false => none) = _
  rw [hl]
  simp only [show gd (Value.int .i64 0) = true from rfl]
  unfold asto
  simp only [hat.get]
  have h1 : Nat.ble (i + (List.replicate (m + 1) (Value.int .i64 0)).length) c.length = true := by rw [ble_dec]; simp; omega
  have h2 : (List.replicate (m + 1) (Value.int .i64 0)).all one = true := by rw [List.all_eq_true]; intro v hv; rw [List.eq_of_mem_replicate hv]; rfl
  simp only [h1, h2]
  rw [List.drop_eq_nil_of_le (by simp; omega), List.append_nil]
  simp
/-! the index of an element -/
def idxI (p : Int → Bool) : List Int → Nat → Int
  | [], _ => -1
  | x :: l, k => if p x then (k : Int) else idxI p l (k + 1)
theorem c139i {f v : Value} {n : Nat} {l : List Int} (p : Int → Bool) (s : Sl G h 1 v n (l.map (.int .i64))) (hn : n < 1000000) (hq : ∀ x, Cl (mz G) f [.int .i64 x] h (.bool (p x)) h) : Cl (mz G) (.func (.func 139) #[] #[]) [v, f] h (.int .i64 (idxI p l 0)) h := by
  obtain ⟨a, c, rfl⟩ := s.form
  have hl := s.length
  simp at hl
  refine cl_of_cf (cf_enter0 19 [.tmp 4] Tryz.func139 rfl rfl rfl rfl ?_)
  repeat' (first | with_reducible refine wo_nil ?_ | ((with_reducible refine wo_any ?_); first | ((with_reducible refine ik_move ?_); refine wo_op rfl (op_move rfl) rfl rfl ?_) | ((with_reducible refine ik_assign ?_); refine wo_op rfl (op_assign rfl) rfl rfl ?_) | ((with_reducible refine ik_callb ?_); refine wo_op rfl (op_lenSl rfl Tryz.underlying41) rfl rfl ?_)) | with_reducible refine sq_norm ?_ | with_reducible refine wc_seq ?_ | with_reducible refine wc_region ?_ | with_reducible refine wc_block ?_)
  refine wc_loop (fun k => n - k) (fun k : Nat => [(0, .slice a n c), (1, f), (7, .int .i64 n), (8, .int .i64 k)]) (fun k h' => h' = h ∧ k ≤ n ∧ idxI p (l.drop k) k = idxI p l 0) 0 (within_lk ⟨rfl, rfl, rfl, rfl, trivial⟩) ⟨rfl, Nat.zero_le _, rfl⟩ ?_
  rintro k h' ⟨rfl, hk, hi⟩
  by_cases hlt : k < n
  · obtain ⟨ad, i1, i3⟩ := in_at s (i := (k : Int)) hlt rfl
    obtain ⟨x, hx⟩ : ∃ x, l.getD k 0 = x := ⟨_, rfl⟩
    rw [List.drop_eq_getElem_cons (by omega), getElem_getD (by omega), hx, idxI] at hi
    rw [hx] at i3
    have qx := hq x
    cases hp : p x with
    | true =>
      rw [hp] at qx
      rw [if_pos hp] at hi
      repeat' (first | with_reducible refine wo_nil ?_ | ((with_reducible refine wo_any ?_); first | ((with_reducible refine ik_move ?_); refine wo_op rfl (op_move rfl) rfl rfl ?_) | ((with_reducible refine ik_assign ?_); refine wo_op rfl (op_assign rfl) rfl rfl ?_) | ((with_reducible refine ik_indexAddr ?_); refine wo_op rfl (op_indexAddr rfl rfl i1) rfl rfl ?_) | ((with_reducible refine ik_load ?_); refine wo_op rfl (op_ldCell rfl Tryz.underlying3 rfl i3) rfl rfl ?_) | ((with_reducible refine ik_bin ?_); refine wo_op rfl (op_lss rfl rfl) rfl rfl ?_) | ((with_reducible refine ik_callv ?_); refine wo_op rfl (op_call rfl rfl (qx)) rfl rfl ?_)) | with_reducible refine sq_norm ?_ | with_reducible refine wc_seq ?_ | with_reducible refine wc_region ?_ | with_reducible refine wc_skip ?_ | with_reducible refine wc_ret ?_ | with_reducible refine wc_block ?_ | with_reducible refine bq_ret ?_ | with_reducible refine sq_ret ?_ | with_reducible refine lq_ret ?_ | refine wc_ift rfl ?_ | (refine wc_if rfl (fun hb => ?_) (fun hb => ?_) <;> (try simp only [decide_eq_true_eq, decide_eq_false_iff_not, Bool.not_eq_true', Bool.not_eq_false', Int.not_lt, Int.not_le, Decidable.not_not, not_true_eq_false, not_false_eq_true, beq_self_eq_true, reduceCtorEq] at hb) <;> (try (exfalso; omega))))
      exact rq1 rfl ⟨by rw [hi], rfl⟩
    | false =>
      rw [hp] at qx
      rw [if_neg (by rw [hp]; decide)] at hi
      repeat' (first | with_reducible refine wo_nil ?_ | ((with_reducible refine wo_any ?_); first | ((with_reducible refine ik_move ?_); refine wo_op rfl (op_move rfl) rfl rfl ?_) | ((with_reducible refine ik_assign ?_); refine wo_op rfl (op_assign rfl) rfl rfl ?_) | ((with_reducible refine ik_indexAddr ?_); refine wo_op rfl (op_indexAddr rfl rfl i1) rfl rfl ?_) | ((with_reducible refine ik_load ?_); refine wo_op rfl (op_ldCell rfl Tryz.underlying3 rfl i3) rfl rfl ?_) | ((with_reducible refine ik_bin ?_); first | refine wo_op rfl (op_lss rfl rfl) rfl rfl ?_ | refine wo_op rfl (op_add' rfl rfl (w64 (by omega) (by omega))) rfl rfl ?_) | ((with_reducible refine ik_callv ?_); refine wo_op rfl (op_call rfl rfl (qx)) rfl rfl ?_)) | with_reducible refine sq_norm ?_ | with_reducible refine wc_seq ?_ | with_reducible refine wc_region ?_ | with_reducible refine wc_skip ?_ | with_reducible refine wc_block ?_ | with_reducible refine bq_norm ?_ | refine wc_iff rfl ?_ | (refine wc_if rfl (fun hb => ?_) (fun hb => ?_) <;> (try simp only [decide_eq_true_eq, decide_eq_false_iff_not, Bool.not_eq_true', Bool.not_eq_false', Int.not_lt, Int.not_le, Decidable.not_not, not_true_eq_false, not_false_eq_true, beq_self_eq_true, reduceCtorEq] at hb) <;> (try (exfalso; omega))))
      exact lq_norm (k + 1) (by omega) (within_lk ⟨rfl, rfl, rfl, rfl, trivial⟩) ⟨rfl, by omega, hi⟩
  · repeat' (first | with_reducible refine wo_nil ?_ | ((with_reducible refine wo_any ?_); first | ((with_reducible refine ik_assign ?_); refine wo_op rfl (op_assign rfl) rfl rfl ?_) | ((with_reducible refine ik_bin ?_); refine wo_op rfl (op_lss rfl rfl) rfl rfl ?_)) | with_reducible refine sq_norm ?_ | with_reducible refine wc_seq ?_ | with_reducible refine wc_region ?_ | with_reducible refine wc_ret ?_ | with_reducible refine wc_exit ?_ | with_reducible refine sq_exit ?_ | with_reducible refine lq_exit ?_ | refine bq_eq rfl ?_ | (refine wc_if rfl (fun hb => ?_) (fun hb => ?_) <;> (try simp only [decide_eq_true_eq, decide_eq_false_iff_not, Bool.not_eq_true', Bool.not_eq_false', Int.not_lt, Int.not_le, Decidable.not_not, not_true_eq_false, not_false_eq_true, beq_self_eq_true, reduceCtorEq] at hb) <;> (try (exfalso; omega))))
    refine rq1 rfl ⟨?_, rfl⟩
    rw [List.drop_eq_nil_of_le (by omega)] at hi
    rw [← hi]; rfl
theorem fill_step {α : Type} {f : α → Value} {z u : Value} {l : List α} {k n : Nat} (hn : l.length = n) (hk : k < n) (hu : u = f (l[k]'(by omega))) : ((l.take k).map f ++ List.replicate (n - k) z).set k u = (l.take (k + 1)).map f ++ List.replicate (n - (k + 1)) z := by
  subst hu
  have e : ((l.take k).map f).length = k := by simp; omega
  rw [List.set_append_right _ _ (by omega), e, Nat.sub_self]
  obtain ⟨m, hm⟩ : ∃ m, n - k = m + 1 := ⟨n - k - 1, by omega⟩
  rw [hm, show n - (k + 1) = m by omega, List.replicate_succ, List.take_succ_eq_append_getElem (by omega), List.map_append, List.append_assoc]
  rfl
theorem fill_end {α : Type} {f : α → Value} {z : Value} {l : List α} {n : Nat} (hn : l.length = n) : (l.take n).map f ++ List.replicate (n - n) z = l.map f := by
  rw [List.take_of_length_le (by omega), Nat.sub_self]; simp
theorem c89 {f v : Value} {n : Nat} {l : List Int} (w : Int → Int) (s : Sl G h 1 v n (l.map (.int .i64))) (hn : n < 1000000) (hw : Wf h) (hq : ∀ h' x, Grow h h' → x ∈ l → Cl (mz G) f [.int .i64 x] h' (.int .i64 (w x)) h') : Cf (mz G) (.func (.func 89) #[] #[]) [v, f] h fun r h' => r = .slice (some ⟨h.nx, 0, some 0⟩) n n ∧ At h' h.nx (.cells ((l.map w).map (.int .i64)) 3 1 false) ∧ Grow h h' ∧ h'.nx = h.nx + 1 := by
  obtain ⟨a, c, rfl⟩ := s.form
  have hl := s.length
  simp at hl
  refine cf_enter0 26 [.tmp 4] Tryz.func89 rfl rfl rfl rfl ?_
  repeat' (first | with_reducible refine wo_nil ?_ | ((with_reducible refine wo_any ?_); first | ((with_reducible refine ik_move ?_); refine wo_op rfl (op_move rfl) rfl rfl ?_) | ((with_reducible refine ik_assign ?_); refine wo_op rfl (op_assign rfl) rfl rfl ?_) | ((with_reducible refine ik_makeSlice ?_); refine wo_op rfl (op_mkSl rfl rfl Tryz.underlying41 zs3 zb3 zz3 rfl (by omega) (by omega)) rfl rfl ?_) | ((with_reducible refine ik_callb ?_); refine wo_op rfl (op_lenSl rfl Tryz.underlying41) rfl rfl ?_)) | with_reducible refine sq_norm ?_ | with_reducible refine wc_seq ?_ | with_reducible refine wc_region ?_ | with_reducible refine wc_block ?_)
  refine wc_loop (fun k => n - k) (fun k : Nat => [(1, f), (5, .slice (some ⟨h.nx, 0, some 0⟩) n n), (11, .slice a n c), (12, .int .i64 n), (13, .int .i64 k)]) (fun k h' => (Grow h h' ∧ h'.nx = h.nx + 1) ∧ At h' h.nx (.cells ((l.take k).map (fun x => .int .i64 (w x)) ++ List.replicate (n - k) (.int .i64 0)) 3 1 false) ∧ k ≤ n) 0 (within_lk ⟨rfl, rfl, rfl, rfl, rfl, trivial⟩) ⟨⟨gr_A, rfl⟩, by simpa using At.new h _, Nat.zero_le _⟩ ?_
  rintro k h' ⟨⟨hgr, hnx⟩, hat, hk⟩
  by_cases hlt : k < n
  · obtain ⟨ad, h1, h2⟩ := (s.grow hgr).addr (M := mz G) Tryz.underlying41 (es := 1) zs3 (i := k) (k := .i64) (by omega) (by omega)
    have h3 : acell G h' ad = some (.int .i64 (l[k]'(by omega))) := h2.get 0 _ (by simp)
    have qx := hq h' (l[k]'(by omega)) hgr (List.getElem_mem _)
    repeat' (first | with_reducible refine wo_nil ?_ | ((with_reducible refine wo_any ?_); first | ((with_reducible refine ik_move ?_); refine wo_op rfl (op_move rfl) rfl rfl ?_) | ((with_reducible refine ik_assign ?_); refine wo_op rfl (op_assign rfl) rfl rfl ?_) | ((with_reducible refine ik_indexAddr ?_); first | refine wo_op rfl (op_indexAddr rfl rfl h1) rfl rfl ?_ | refine wo_op rfl (op_idxSl (o := k) rfl rfl Tryz.underlying41 zs3 (by omega) (by omega) (by omega)) rfl rfl ?_) | ((with_reducible refine ik_load ?_); refine wo_op rfl (op_ldCell rfl Tryz.underlying3 rfl h3) rfl rfl ?_) | ((with_reducible refine ik_store ?_); refine wo_op0 rfl (op_stIdx rfl rfl hat rfl zs3 (by simp; omega) rfl (fill_step hl hlt rfl)) rfl ?_) | ((with_reducible refine ik_bin ?_); first | refine wo_op rfl (op_lss rfl rfl) rfl rfl ?_ | refine wo_op rfl (op_add' rfl rfl (w64 (by omega) (by omega))) rfl rfl ?_) | ((with_reducible refine ik_callv ?_); refine wo_op rfl (op_call rfl rfl (qx)) rfl rfl ?_)) | with_reducible refine sq_norm ?_ | with_reducible refine wc_seq ?_ | with_reducible refine wc_region ?_ | with_reducible refine wc_skip ?_ | with_reducible refine wc_block ?_ | with_reducible refine bq_norm ?_ | (refine wc_if rfl (fun hb => ?_) (fun hb => ?_) <;> (try simp only [decide_eq_true_eq, decide_eq_false_iff_not, Bool.not_eq_true', Bool.not_eq_false', Int.not_lt, Int.not_le, Decidable.not_not, not_true_eq_false, not_false_eq_true, beq_self_eq_true, reduceCtorEq] at hb) <;> (try (exfalso; omega))))
    refine lq_norm (k + 1) (by omega) (within_lk ⟨rfl, rfl, rfl, rfl, rfl, trivial⟩) ⟨⟨gr_A, by simp only [H.nx_set]; exact hnx⟩, at_A, by omega⟩
  · have hkn : k = n := by omega
    subst hkn
    repeat' (first | with_reducible refine wo_nil ?_ | ((with_reducible refine wo_any ?_); first | ((with_reducible refine ik_move ?_); refine wo_op rfl (op_move rfl) rfl rfl ?_) | ((with_reducible refine ik_assign ?_); refine wo_op rfl (op_assign rfl) rfl rfl ?_) | ((with_reducible refine ik_bin ?_); refine wo_op rfl (op_lss rfl rfl) rfl rfl ?_)) | with_reducible refine sq_norm ?_ | with_reducible refine wc_seq ?_ | with_reducible refine wc_region ?_ | with_reducible refine wc_ret ?_ | with_reducible refine wc_exit ?_ | with_reducible refine sq_exit ?_ | with_reducible refine lq_exit ?_ | refine bq_eq rfl ?_ | (refine wc_if rfl (fun hb => ?_) (fun hb => ?_) <;> (try simp only [decide_eq_true_eq, decide_eq_false_iff_not, Bool.not_eq_true', Bool.not_eq_false', Int.not_lt, Int.not_le, Decidable.not_not, not_true_eq_false, not_false_eq_true, beq_self_eq_true, reduceCtorEq] at hb) <;> (try (exfalso; omega))))
    rw [fill_end hl] at hat
    exact rq1 rfl ⟨rfl, by rw [List.map_map]; exact hat, hgr, hnx⟩
end Go.Proofs.YtnkmencbnoipmaaGreatDoor

/- Lists turned round, and elements deleted. -/
namespace Go.Proofs.YtnkmencbnoipmaaGreatDoor
open Go Go.Ab Go.Fl
attribute [local irreducible] SeqQ BlkQ LpQ RetQ Wc Wo WD WX Op1 Op1q Op1a Cf Cl From
attribute [local irreducible] Ieee.Format.order Ieee.Format.read Ieee.Format.nearest Ieee.Format.write Ieee.Format.mul Ieee.Format.div Ieee.Format.sqrt Ieee.Datum.order Ieee.Datum.integral K U rngE errN cntE cmpI indE ptE plaE firstNZ numsE lnE BigP isNameB nmE ascA
set_option maxRecDepth 10000
variable {G : Base} {h : H}

/-- All but one block is kept. -/
structure Keep1 (b : Nat) (h h' : H) : Prop where
  nx : h.nx ≤ h'.nx
  get : ∀ n, n < h.nx → n ≠ b → h'.get n = h.get n
  wf : Wf h → Wf h'
theorem Keep1.refl {b : Nat} {h : H} : Keep1 b h h := ⟨Nat.le_refl _, fun _ _ _ => rfl, id⟩
theorem Keep1.grow {b : Nat} {h h' h2 : H} (k : Keep1 b h h') (g : Grow h' h2) : Keep1 b h h2 := ⟨Nat.le_trans k.nx g.nx, fun n h1 q => (g.get n (Nat.lt_of_lt_of_le h1 k.nx)).trans (k.get n h1 q), fun w => g.wf (k.wf w)⟩
theorem Keep1.set {b : Nat} {h h' : H} (k : Keep1 b h h') (hb : b < h'.nx) (o : AObj) : Keep1 b h (h'.set b o) := ⟨by simp only [H.nx_set]; exact k.nx, fun n h1 q => by rw [H.get_set, if_neg q]; exact k.get n h1 q, fun w => Wf.set (k.wf w) hb _⟩
theorem Keep1.at {b b' : Nat} {h h' : H} {o : AObj} (k : Keep1 b h h') (q : b' ≠ b) (a : At h b' o) : At h' b' o := ⟨Nat.lt_of_lt_of_le a.lt k.nx, (k.get b' a.lt q).trans a.get⟩
theorem Keep1.base {b : Nat} {g h h' : H} (k : Keep1 b h h') (x : Grow g h) (q : g.nx ≤ b) : Grow g h' := ⟨Nat.le_trans x.nx k.nx, fun n hn => (k.get n (Nat.lt_of_lt_of_le hn x.nx) (by omega)).trans (x.get n hn), fun w => k.wf (x.wf w)⟩
theorem getD_map {l : List Int} {k : Nat} (hk : k < l.length) : (l.map (Value.int .i64))[k]? = some (.int .i64 (l.getD k 0)) := by
  rw [List.getElem?_map, List.getElem?_eq_getElem hk, Option.map_some, getElem_getD hk]
theorem set_map {l : List Int} {k : Nat} {x : Int} : (l.map (Value.int .i64)).set k (.int .i64 x) = (l.set k x).map (Value.int .i64) := by
  rw [List.map_set]
theorem getD_set {l : List Int} {k j : Nat} {x : Int} (hk : k < l.length) : (l.set k x).getD j 0 = if j = k then x else l.getD j 0 := by
  simp only [List.getD, List.getElem?_set]
  by_cases q : k = j
  · subst q; simp [hk]
  · rw [if_neg q, if_neg (fun r => q r.symm)]
set_option maxHeartbeats 2000000 in
theorem c88 {b n : Nat} {sf : Bool} {l : List Int} (hat : At h b (.cells (l.map (.int .i64)) 3 1 sf)) (hl : l.length = n) (hn : n < 1000000) (hw : Wf h) : Cf (mz G) (.func (.func 88) #[] #[]) [.slice (some ⟨b, 0, some 0⟩) n n] h fun _ h' => At h' b (.cells (l.reverse.map (.int .i64)) 3 1 sf) ∧ Keep1 b h h' ∧ Wf h' := by
  refine cf_enter0 28 [] Tryz.func88 rfl rfl rfl rfl ?_
  repeat' (first | with_reducible refine wo_nil ?_ | ((with_reducible refine wo_any ?_); first | ((with_reducible refine ik_move ?_); refine wo_op rfl (op_move rfl) rfl rfl ?_) | ((with_reducible refine ik_assign ?_); refine wo_op rfl (op_assign rfl) rfl rfl ?_) | ((with_reducible refine ik_callb ?_); refine wo_op rfl (op_lenSl rfl Tryz.underlying41) rfl rfl ?_) | ((with_reducible refine ik_bin ?_); refine wo_op rfl (op_sub' rfl rfl (w64 (by omega) (by omega))) rfl rfl ?_)) | with_reducible refine sq_norm ?_ | with_reducible refine wc_seq ?_ | with_reducible refine wc_region ?_ | with_reducible refine wc_block ?_)
  refine wc_loop (fun i => n - i) (fun i : Nat => [(0, .slice (some ⟨b, 0, some 0⟩) n n), (2, .int .i64 i), (3, .int .i64 ((n : Int) - 1 - i))]) (fun i h' => (Wf h' ∧ Keep1 b h h') ∧ 2 * i ≤ n + 1 ∧ ∃ cur : List Int, cur.length = n ∧ At h' b (.cells (cur.map (.int .i64)) 3 1 sf) ∧ ∀ k, k < n → cur.getD k 0 = if k < i ∨ n - 1 - i < k then l.getD (n - 1 - k) 0 else l.getD k 0) 0 (within_lk ⟨rfl, rfl, by simp [lk], trivial⟩) ⟨⟨hw, .refl⟩, by omega, l, hl, hat, fun k hk => by rw [if_neg (by omega)]⟩ ?_
  clear hat hw
  rintro i h1 ⟨⟨w1, k1⟩, hi, cur, hc, at1, hv⟩
  have l1 := at1.lt
  by_cases hlt : (i : Int) < (n : Int) - 1 - i
  · obtain ⟨j, hj⟩ : ∃ j : Nat, n - 1 - i = j := ⟨_, rfl⟩
    have hj' : (n : Int) - 1 - i = (j : Int) := by omega
    have z1 := getD_map (l := cur) (k := i) (by omega)
    have z2 := getD_map (l := cur) (k := j) (by omega)
    obtain ⟨u, hu⟩ : ∃ u, cur.getD i 0 = u := ⟨_, rfl⟩
    obtain ⟨v, hv2⟩ : ∃ u, cur.getD j 0 = u := ⟨_, rfl⟩
    rw [hu] at z1
    rw [hv2] at z2
    rw [hj'] at hlt ⊢
    have hv3 : ∀ k, k < n → ((cur.set i v).set j u).getD k 0 = if k < i + 1 ∨ n - 1 - (i + 1) < k then l.getD (n - 1 - k) 0 else l.getD k 0 := by
      intro k hk
      rw [getD_set (by simp; omega), getD_set (by omega)]
      by_cases e1 : k = j
      · rw [if_pos e1, ← hu, hv i (by omega), if_neg (by omega), if_pos (by omega), show n - 1 - k = i by omega]
      · rw [if_neg e1]
        by_cases e2 : k = i
        · rw [if_pos e2, ← hv2, hv j (by omega), if_neg (by omega), if_pos (by omega), show n - 1 - k = j by omega]
        · rw [if_neg e2, hv k hk]
          by_cases e3 : k < i ∨ n - 1 - i < k
          · rw [if_pos e3, if_pos (by omega)]
          · rw [if_neg e3, if_neg (by omega)]
    clear hv
    repeat' (first | with_reducible refine wo_nil ?_ | ((with_reducible refine wo_any ?_); first | ((with_reducible refine ik_move ?_); refine wo_op rfl (op_move rfl) rfl rfl ?_) | ((with_reducible refine ik_assign ?_); refine wo_op rfl (op_assign rfl) rfl rfl ?_) | ((with_reducible refine ik_bin ?_); first | refine wo_op rfl (op_sub' rfl rfl (w64 (by omega) (by omega))) rfl rfl ?_ | refine wo_op rfl (op_lss rfl rfl) rfl rfl ?_ | refine wo_op rfl (op_add' rfl rfl (w64 (by omega) (by omega))) rfl rfl ?_)) | ((with_reducible refine xk_any ?_); ((with_reducible refine xk_as0 ?_); first | ((with_reducible refine xk_move ?_); refine wx_q (wt_none rfl) rfl rfl (op_q rfl (op_move rfl)) rfl rfl rfl ?_) | ((with_reducible refine xk_indexAddr ?_); first | refine wx_q (wt_none rfl) rfl rfl (op_q rfl (op_idxSl (o := i) rfl rfl Tryz.underlying41 zs3 (by omega) (by omega) (by omega))) rfl rfl rfl ?_ | refine wx_q (wt_none rfl) rfl rfl (op_q rfl (op_idxSl (o := j) rfl rfl Tryz.underlying41 zs3 (by omega) (by omega) (by omega))) rfl rfl rfl ?_) | ((with_reducible refine xk_load ?_); first | refine wx_h0 (wt_none rfl) rfl (op_q rfl (op_ldIdx rfl at_A Tryz.underlying3 rfl z1)) rfl rfl rfl ?_ | refine wx_h0 (wt_none rfl) rfl (op_q rfl (op_ldIdx rfl at_A Tryz.underlying3 rfl z2)) rfl rfl rfl ?_) | ((with_reducible refine xk_store ?_); first | refine wx_ee0 (wt_none rfl) rfl rfl (op_stIdx (o := i) rfl rfl at_A rfl zs3 (by simp; omega) rfl set_map) rfl ?_ | refine wx_ee0 (wt_none rfl) rfl rfl (op_stIdx (o := j) rfl rfl at_A rfl zs3 (by simp; omega) rfl set_map) rfl ?_) | with_reducible refine wx_nil0 ?_ ?_)) | with_reducible exact obl_nil | with_reducible refine obl_cons ?_ ?_ | ((with_reducible refine ik_obs ?_); first | exact obs_nil | refine obs_skip rfl ?_ | refine obs_chkn rfl rfl (op_q rfl (op_ldIdx rfl at_A Tryz.underlying3 rfl z1)) ?_ | refine obs_chkn rfl rfl (op_q rfl (op_ldIdx rfl at_A Tryz.underlying3 rfl z2)) ?_) | with_reducible refine sq_norm ?_ | with_reducible refine wc_seq ?_ | with_reducible refine wc_region ?_ | with_reducible refine wc_skip ?_ | with_reducible refine wc_block ?_ | with_reducible refine bq_norm ?_ | (refine wc_if rfl (fun hb => ?_) (fun hb => ?_) <;> (try simp only [decide_eq_true_eq, decide_eq_false_iff_not, Bool.not_eq_true', Bool.not_eq_false', Int.not_lt, Int.not_le, Decidable.not_not, not_true_eq_false, not_false_eq_true, beq_self_eq_true, reduceCtorEq] at hb) <;> (try (exfalso; omega))) | refine wc_drawB (id := 3) 16 [0, 0, 0, 0, 0, 0, 48, 112, 0, 0, 768, 1792, 4083, 8179, 16383, 32767] [0, 1, 2, 3, 4, 5, 6, 7, 8, 9, 10, 11, 12, 13, 14, 15] (by kernel_rfl) (by kernel_rfl) rfl rfl ?_)
    refine lq_norm (i + 1) (by omega) (within_lk ⟨rfl, rfl, by simp only [lk]; congr 2; simp; omega, trivial⟩) ⟨⟨wf_A, ?_⟩, by omega, _, ?_, at_A, hv3⟩
    · exact ((k1.grow (show Grow h1 (h1.bump _) from gr_A)).set (by simp only [H.nx_bump]; omega) _).set (by simp only [H.nx_set, H.nx_bump]; omega) _
    · simp [hc]
  · have he : cur = l.reverse := by
      apply List.ext_getElem (by simp; omega)
      intro k h1 h2
      rw [getElem_getD h1, hv k (by omega), List.getElem_reverse, getElem_getD (by omega)]
      by_cases q : k < i ∨ n - 1 - i < k
      · rw [if_pos q]; congr 1; omega
      · rw [if_neg q]; congr 1; omega
    subst he
    repeat' (first | with_reducible refine wo_nil ?_ | ((with_reducible refine wo_any ?_); first | ((with_reducible refine ik_move ?_); refine wo_op rfl (op_move rfl) rfl rfl ?_) | ((with_reducible refine ik_bin ?_); refine wo_op rfl (op_lss rfl rfl) rfl rfl ?_)) | with_reducible refine sq_norm ?_ | with_reducible refine wc_seq ?_ | with_reducible refine wc_region ?_ | with_reducible refine wc_exit ?_ | with_reducible refine sq_exit ?_ | with_reducible refine lq_exit ?_ | refine bq_eq rfl ?_ | (refine wc_if rfl (fun hb => ?_) (fun hb => ?_) <;> (try simp only [decide_eq_true_eq, decide_eq_false_iff_not, Bool.not_eq_true', Bool.not_eq_false', Int.not_lt, Int.not_le, Decidable.not_not, not_true_eq_false, not_false_eq_true, beq_self_eq_true, reduceCtorEq] at hb) <;> (try (exfalso; omega))))
    exact rq0n ⟨at1, k1, w1⟩
theorem idx_spec (p : Int → Bool) : ∀ (l : List Int) (k : Nat), (idxI p l k = -1 ∧ ∀ x ∈ l, p x = false) ∨ ∃ i, i < l.length ∧ idxI p l k = ((k + i : Nat) : Int) ∧ (∀ x ∈ l.take i, p x = false) ∧ p (l.getD i 0) = true
  | [], k => .inl ⟨rfl, by simp⟩
  | x :: l, k => by
    rw [idxI]
    by_cases h : p x = true
    · rw [if_pos h]; exact .inr ⟨0, by simp, rfl, by simp, by simpa using h⟩
    · rw [if_neg h]
      rcases idx_spec p l (k + 1) with ⟨h1, h2⟩ | ⟨i, h1, h2, h3, h4⟩
      · refine .inl ⟨h1, ?_⟩
        intro y hy
        rcases List.mem_cons.1 hy with rfl | hy
        · simpa using h
        · exact h2 y hy
      · refine .inr ⟨i + 1, by simp; omega, by rw [h2]; congr 1; omega, ?_, by simpa using h4⟩
        intro y hy
        rw [List.take_succ_cons] at hy
        rcases List.mem_cons.1 hy with rfl | hy
        · simpa using h
        · exact h3 y hy
def keepL (p : Int → Bool) (l : List Int) : List Int := l.filter fun x => !p x
theorem keep_all {p : Int → Bool} {l : List Int} (h : ∀ x ∈ l, p x = false) : keepL p l = l := by
  unfold keepL; rw [List.filter_eq_self]; intro x hx; rw [h x hx]; rfl
theorem keep_next {p : Int → Bool} {l : List Int} {j : Nat} (hj : j < l.length) : keepL p (l.take (j + 1)) = keepL p (l.take j) ++ (if p (l.getD j 0) then [] else [l.getD j 0]) := by
  unfold keepL
  rw [List.take_succ_eq_append_getElem hj, List.filter_append, getElem_getD hj]
  congr 1
  generalize l.getD j 0 = x
  by_cases h : p x = true
  · rw [if_pos h]; simp [h]
  · rw [if_neg h]; simp [h]
theorem keep_len {p : Int → Bool} {l : List Int} : (keepL p l).length ≤ l.length := List.length_filter_le _ _
set_option maxHeartbeats 4000000 in
theorem c93 {f : Value} {b n : Nat} {l : List Int} (p : Int → Bool) (K : H → Prop) (hat : At h b (.cells (l.map (.int .i64)) 3 1 false)) (hl : l.length = n) (hn : n < 1000000) (hw : Wf h) (hK : K h) (hKs : ∀ h' c', K h' → K (h'.set b (.cells c' 3 1 false))) (hq : ∀ h' x, K h' → Cl (mz G) f [.int .i64 x] h' (.bool (p x)) h') :
    Cf (mz G) (.func (.func 93) #[] #[]) [.slice (some ⟨b, 0, some 0⟩) n n, f] h fun r h' => (∃ a c, r = .slice a (keepL p l).length c ∧ Sl G h' 1 (.slice a (keepL p l).length c) (keepL p l).length ((keepL p l).map (.int .i64))) ∧ Keep1 b h h' ∧ Wf h' := by
  have s0 : Sl G h 1 (.slice (some ⟨b, 0, some 0⟩) n n) n (l.map (.int .i64)) := Sl.ofAt hat (by simp [hl]) (Nat.le_refl _)
  have qi := c139i p s0 hn (fun x => hq h x hK)
  rcases idx_spec p l 0 with ⟨h1, h2⟩ | ⟨i0, h1, h2, h3, h4⟩
  · rw [h1] at qi
    rw [keep_all h2, hl]
    refine cf_enter0 42 [.tmp 4] Tryz.func93 rfl rfl rfl rfl ?_
    repeat' (first | with_reducible refine wo_nil ?_ | ((with_reducible refine wo_any ?_); first | ((with_reducible refine ik_move ?_); refine wo_op rfl (op_move rfl) rfl rfl ?_) | ((with_reducible refine ik_assign ?_); refine wo_op rfl (op_assign rfl) rfl rfl ?_) | ((with_reducible refine ik_bin ?_); refine wo_op rfl (op_eql rfl rfl) rfl rfl ?_) | ((with_reducible refine ik_callv ?_); refine wo_op rfl (op_call rfl rfl (qi)) rfl rfl ?_)) | with_reducible refine sq_norm ?_ | with_reducible refine wc_seq ?_ | with_reducible refine wc_region ?_ | with_reducible refine wc_ret ?_ | with_reducible refine sq_ret ?_ | refine wc_ift rfl ?_)
    exact rq1 rfl ⟨⟨_, _, rfl, s0⟩, .refl, hw⟩
  · rw [h2, Nat.zero_add] at qi
    have b0 : keepL p (l.take i0) = l.take i0 := keep_all h3
    have b1 : keepL p (l.take (i0 + 1)) = l.take i0 := by rw [keep_next h1, if_pos h4, b0, List.append_nil]
    have b2 : (l.take i0).length = i0 := by simp; omega
    refine cf_enter0 42 [.tmp 4] Tryz.func93 rfl rfl rfl rfl ?_
    repeat' (first | with_reducible refine wo_nil ?_ | ((with_reducible refine wo_any ?_); first | ((with_reducible refine ik_move ?_); refine wo_op rfl (op_move rfl) rfl rfl ?_) | ((with_reducible refine ik_assign ?_); refine wo_op rfl (op_assign rfl) rfl rfl ?_) | ((with_reducible refine ik_bin ?_); first | refine wo_op rfl (op_eql rfl rfl) rfl rfl ?_ | refine wo_op rfl (op_add' rfl rfl (w64 (by omega) (by omega))) rfl rfl ?_) | ((with_reducible refine ik_callv ?_); refine wo_op rfl (op_call rfl rfl (qi)) rfl rfl ?_)) | with_reducible refine sq_norm ?_ | with_reducible refine wc_seq ?_ | with_reducible refine wc_region ?_ | with_reducible refine wc_skip ?_ | with_reducible refine wc_block ?_ | refine wc_iff rfl ?_)
    refine wc_loop (fun j => n - j) (fun j : Nat => [(0, .slice (some ⟨b, 0, some 0⟩) n n), (1, f), (5, .int .i64 ((keepL p (l.take j)).length : Nat)), (6, .int .i64 j)]) (fun j h' => (Wf h' ∧ Keep1 b h h' ∧ K h') ∧ ((keepL p (l.take j)).length < j ∧ j ≤ n) ∧ ∃ cur : List Int, cur.length = n ∧ At h' b (.cells (cur.map (.int .i64)) 3 1 false) ∧ cur.take (keepL p (l.take j)).length = keepL p (l.take j) ∧ cur.drop j = l.drop j) (i0 + 1) (within_lk ⟨rfl, rfl, by rw [b1, b2]; rfl, by simp [lk], trivial⟩) ⟨⟨hw, .refl, hK⟩, ⟨by rw [b1, b2]; omega, by omega⟩, l, hl, hat, by rw [b1, b2], rfl⟩ ?_
    clear qi s0 hat hK b0 b1 b2 h2 h3 h4
    rintro j h' ⟨⟨w1, k1, hK⟩, ⟨hij, hj⟩, cur, hc, at1, ht, hd⟩
    have l1 := at1.lt
    by_cases hlt : j < n
    · have nx := keep_next (p := p) (l := l) (j := j) (by omega)
      have hcj : cur.getD j 0 = l.getD j 0 := by
        have e1 : (cur.drop j).getD 0 0 = (l.drop j).getD 0 0 := by rw [hd]
        simpa [List.getD] using e1
      have z1 := getD_map (l := cur) (k := j) (by omega)
      obtain ⟨x, hx⟩ : ∃ x, l.getD j 0 = x := ⟨_, rfl⟩
      rw [hcj, hx] at z1
      rw [hx] at nx
      have qx := hq h' x hK
      have hd1 : cur.drop (j + 1) = l.drop (j + 1) := by rw [← List.drop_drop, ← List.drop_drop, hd]
      obtain ⟨i, hi⟩ : ∃ i, (keepL p (l.take j)).length = i := ⟨_, rfl⟩
      rw [hi] at hij ht ⊢
      cases hp : p x with
      | true =>
        rw [hp, if_pos rfl, List.append_nil] at nx
        rw [hp] at qx
        repeat' (first | with_reducible refine wo_nil ?_ | ((with_reducible refine wo_any ?_); first | ((with_reducible refine ik_move ?_); refine wo_op rfl (op_move rfl) rfl rfl ?_) | ((with_reducible refine ik_assign ?_); refine wo_op rfl (op_assign rfl) rfl rfl ?_) | ((with_reducible refine ik_indexAddr ?_); refine wo_op rfl (op_idxSl (o := j) rfl rfl Tryz.underlying41 zs3 (by omega) (by omega) (by omega)) rfl rfl ?_) | ((with_reducible refine ik_load ?_); refine wo_op rfl (op_ldIdx rfl at_A Tryz.underlying3 rfl z1) rfl rfl ?_) | ((with_reducible refine ik_bin ?_); first | refine wo_op rfl (op_add' rfl rfl (w64 (by omega) (by omega))) rfl rfl ?_ | refine wo_op rfl (op_lss rfl rfl) rfl rfl ?_) | ((with_reducible refine ik_callb ?_); refine wo_op rfl (op_lenSl rfl Tryz.underlying41) rfl rfl ?_) | ((with_reducible refine ik_un ?_); refine wo_op rfl (op_not rfl) rfl rfl ?_) | ((with_reducible refine ik_callv ?_); refine wo_op rfl (op_call rfl rfl (qx)) rfl rfl ?_)) | with_reducible refine sq_norm ?_ | with_reducible refine wc_seq ?_ | with_reducible refine wc_region ?_ | with_reducible refine wc_skip ?_ | with_reducible refine wc_block ?_ | with_reducible refine bq_norm ?_ | refine wc_iff rfl ?_ | (refine wc_if rfl (fun hb => ?_) (fun hb => dead_A hb); (try simp only [decide_eq_true_eq, decide_eq_false_iff_not, Bool.not_eq_true', Bool.not_eq_false', Int.not_lt, Int.not_le, Decidable.not_not, not_true_eq_false, not_false_eq_true, beq_self_eq_true, reduceCtorEq] at hb)))
        all_goals exact lq_norm (j + 1) (by omega) (within_lk ⟨rfl, rfl, by rw [nx, hi]; rfl, by simp [lk], trivial⟩) ⟨⟨wf_A, k1, hK⟩, ⟨by rw [nx, hi]; omega, by omega⟩, cur, hc, at_A, by rw [nx, hi]; exact ht, hd1⟩
      | false =>
        rw [hp, if_neg (by decide)] at nx
        rw [hp] at qx
        have e1 : (keepL p (l.take (j + 1))).length = i + 1 := by rw [nx, List.length_append, hi]; rfl
        have e2 : (cur.set i x).take (i + 1) = keepL p (l.take (j + 1)) := by
          rw [nx, ← ht, List.take_succ_eq_append_getElem (by simp; omega), List.take_set_of_le (by omega)]
          simp
        have e3 : (cur.set i x).drop (j + 1) = l.drop (j + 1) := by rw [List.drop_set_of_lt (by omega)]; exact hd1
        have e4 : (cur.set i x).length = n := by simp [hc]
        repeat' (first | with_reducible refine wo_nil ?_ | ((with_reducible refine wo_any ?_); first | ((with_reducible refine ik_move ?_); refine wo_op rfl (op_move rfl) rfl rfl ?_) | ((with_reducible refine ik_assign ?_); refine wo_op rfl (op_assign rfl) rfl rfl ?_) | ((with_reducible refine ik_indexAddr ?_); first | refine wo_op rfl (op_idxSl (o := j) rfl rfl Tryz.underlying41 zs3 (by omega) (by omega) (by omega)) rfl rfl ?_ | refine wo_op rfl (op_idxSl (o := i) rfl rfl Tryz.underlying41 zs3 (by omega) (by omega) (by omega)) rfl rfl ?_) | ((with_reducible refine ik_load ?_); refine wo_op rfl (op_ldIdx rfl at_A Tryz.underlying3 rfl z1) rfl rfl ?_) | ((with_reducible refine ik_store ?_); refine wo_op0 rfl (op_stIdx (o := i) rfl rfl at_A rfl zs3 (by simp; omega) rfl set_map) rfl ?_) | ((with_reducible refine ik_bin ?_); first | refine wo_op rfl (op_add' rfl rfl (w64 (by omega) (by omega))) rfl rfl ?_ | refine wo_op rfl (op_lss rfl rfl) rfl rfl ?_) | ((with_reducible refine ik_callb ?_); refine wo_op rfl (op_lenSl rfl Tryz.underlying41) rfl rfl ?_) | ((with_reducible refine ik_un ?_); refine wo_op rfl (op_not rfl) rfl rfl ?_) | ((with_reducible refine ik_callv ?_); refine wo_op rfl (op_call rfl rfl (qx)) rfl rfl ?_)) | with_reducible refine sq_norm ?_ | with_reducible refine wc_seq ?_ | with_reducible refine wc_region ?_ | with_reducible refine wc_skip ?_ | with_reducible refine wc_block ?_ | with_reducible refine bq_norm ?_ | refine wc_ift rfl ?_ | (refine wc_if rfl (fun hb => ?_) (fun hb => dead_A hb); (try simp only [decide_eq_true_eq, decide_eq_false_iff_not, Bool.not_eq_true', Bool.not_eq_false', Int.not_lt, Int.not_le, Decidable.not_not, not_true_eq_false, not_false_eq_true, beq_self_eq_true, reduceCtorEq] at hb)))
        all_goals exact lq_norm (j + 1) (by omega) (within_lk ⟨rfl, rfl, by rw [e1]; simp [lk], by simp [lk], trivial⟩) ⟨⟨wf_A, k1.set l1 _, hKs _ _ hK⟩, ⟨by rw [e1]; omega, by omega⟩, _, e4, at_A, by rw [e1]; exact e2, e3⟩
    · have hjn : l.take j = l := List.take_of_length_le (by omega)
      rw [hjn] at hij ht ⊢
      obtain ⟨L, hL⟩ : ∃ L, keepL p l = L := ⟨_, rfl⟩
      rw [hL] at hij ht ⊢
      obtain ⟨i, hi⟩ : ∃ i, L.length = i := ⟨_, rfl⟩
      rw [hi] at hij ht ⊢
      have hcl := clear_own (G := G) (n := n) (i := i) at1 (by simp [hc]) (by omega)
      have hfin : ∀ h2 : H, At h2 b (.cells ((cur.map (Value.int .i64)).take i ++ List.replicate (n - i) (.int .i64 0)) 3 1 false) → ∃ a c, Value.slice (some ⟨b, 0, some 0⟩) i n = .slice a i c ∧ Sl G h2 1 (.slice a i c) i (L.map (.int .i64)) := by
        intro h2 a2
        have s1 : Sl G h2 1 (.slice (some ⟨b, 0, some 0⟩) n n) n ((cur.map (Value.int .i64)).take i ++ List.replicate (n - i) (.int .i64 0)) := Sl.ofAt a2 (by simp; omega) (Nat.le_refl _)
        have s2 := s1.part (lo := 0) (hi := i) (Nat.zero_le _) (by omega)
        have hb0 : Nat.beq n 0 = false := by rw [beq_dec]; simp; omega
        have ca : cutA 1 (some ⟨b, 0, some 0⟩) n 0 = some ⟨b, 0, some 0⟩ := by simp [cutA, hb0, aadd]
        rw [ca] at s2
        refine ⟨_, _, rfl, ?_⟩
        have e : (((cur.map (Value.int .i64)).take i ++ List.replicate (n - i) (Value.int .i64 0)).drop (0 * 1)).take ((i - 0) * 1) = L.map (.int .i64) := by
          rw [Nat.zero_mul, List.drop_zero, Nat.sub_zero, Nat.mul_one, ← List.map_take, ht, List.take_append_of_le_length (by simp; omega), List.take_of_length_le (by simp; omega)]
        rw [e] at s2
        exact s2
      repeat' (first | with_reducible refine wo_nil ?_ | ((with_reducible refine wo_any ?_); first | ((with_reducible refine ik_move ?_); refine wo_op rfl (op_move rfl) rfl rfl ?_) | ((with_reducible refine ik_assign ?_); refine wo_op rfl (op_assign rfl) rfl rfl ?_) | ((with_reducible refine ik_slice ?_); first | refine wo_op rfl (op_slcLo rfl rfl rfl (by omega) at_A) rfl rfl ?_ | refine wo_op rfl (op_slcHi rfl rfl rfl (by omega) (by omega) at_A) rfl rfl ?_) | ((with_reducible refine ik_bin ?_); refine wo_op rfl (op_lss rfl rfl) rfl rfl ?_) | ((with_reducible refine ik_callb ?_); refine wo_op rfl (op_lenSl rfl Tryz.underlying41) rfl rfl ?_)) | with_reducible refine sq_norm ?_ | with_reducible refine wc_seq ?_ | with_reducible refine wc_region ?_ | with_reducible refine wc_ret ?_ | with_reducible refine wc_exit ?_ | with_reducible refine sq_exit ?_ | with_reducible refine lq_exit ?_ | refine bq_eq rfl ?_ | (refine wc_if rfl (fun hb => dead_A hb) (fun hb => ?_); (try simp only [decide_eq_true_eq, decide_eq_false_iff_not, Bool.not_eq_true', Bool.not_eq_false', Int.not_lt, Int.not_le, Decidable.not_not, not_true_eq_false, not_false_eq_true, beq_self_eq_true, reduceCtorEq] at hb)) | ((with_reducible refine wo_any ?_); (with_reducible refine ik_callb ?_); refine wo_op0 rfl (op_clear rfl hcl) rfl ?_))
      exact rq1 rfl ⟨hfin _ at_A, k1.set l1 _, wf_A⟩
end Go.Proofs.YtnkmencbnoipmaaGreatDoor
