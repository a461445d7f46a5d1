/- Cover: numbers in lists, short lists, places by the reference. -/
import Derived.Test.YtnkmencbnoipmaaGreatDoorM1
import Derived.Test.YtnkmencbnoipmaaGreatDoorC5
set_option linter.all false
/- Numbers in lists; what is short. -/
namespace Go.Proofs.YtnkmencbnoipmaaGreatDoor
open Go Go.Ab Go.Fl
attribute [local irreducible] SeqQ BlkQ LpQ RetQ Wc Wo WD WX Op1 Op1q Op1a Cf Cl From
attribute [local irreducible] Ieee.Format.order Ieee.Format.read Ieee.Format.nearest Ieee.Format.write Ieee.Format.mul Ieee.Format.div Ieee.Format.sqrt Ieee.Datum.order Ieee.Datum.integral K U rngE errN cntE cmpI indE ptE plaE firstNZ numsE lnE BigP isNameB nmE ascA errL chgV chgE
set_option maxRecDepth 10000
variable {G : Base} {h : H}

theorem bool_or (b : Bool) : Value.bool b = .bool true ∨ Value.bool b = .bool false := by cases b <;> simp
theorem not_in {l : List Int} {z : Int} (h : ∀ j, j < l.length → l.getD j 0 ≠ z) : decide (z ∈ l) = false := decide_eq_false fun q => by
  obtain ⟨j, hj, e⟩ := List.getElem_of_mem q
  exact h j hj (by rw [← getElem_getD hj]; exact e)
theorem is_in {l : List Int} {z : Int} {j : Nat} (hj : j < l.length) (e : l.getD j 0 = z) : decide (z ∈ l) = true := decide_eq_true (by rw [← e, ← getElem_getD hj]; exact List.getElem_mem hj)
theorem c49 {v : Value} {n : Nat} {l : List Int} {z : Int} (s : Sl G h 1 v n (l.map (.int .i64))) (hn : n < 1000000) : Cl (mz G) (.func (.func 49) #[] #[]) [v, .int .i64 z] h (.bool (decide (z ∈ l))) h := by
  obtain ⟨a, c, rfl⟩ := s.form
  have hl := s.length
  simp at hl
  refine cl_of_cf (cf_enter0 18 [.tmp 4] Tryz.func49 rfl rfl rfl rfl ?_)
  repeat' (first | with_reducible refine wo_nil ?_ | ((with_reducible refine wo_any ?_); ((with_reducible refine ik_assign ?_); refine wo_op rfl (op_assign rfl) rfl rfl ?_)) | with_reducible refine sq_norm ?_ | with_reducible refine wc_seq ?_ | with_reducible refine wc_region ?_ | with_reducible refine wc_block ?_)
  refine wc_loop (fun k => n - k) (fun k : Nat => [(0, .slice a n c), (1, .int .i64 z), (5, .int .i64 k)]) (fun k h' => h' = h ∧ k ≤ n ∧ ∀ j, j < k → l.getD j 0 ≠ z) 0 (within_lk ⟨rfl, rfl, rfl, trivial⟩) ⟨rfl, Nat.zero_le _, fun j hj => by omega⟩ ?_
  rintro k h' ⟨rfl, hk, hp⟩
  by_cases hlt : k < n
  · obtain ⟨ad, i1, i3⟩ := in_atG s (i := (k : Int)) hlt rfl
    have i3 := i3 _ (Grow.refl _)
    by_cases he : l.getD k 0 = z
    · rw [is_in (by omega) he]
      rw [he] at i3
      clear hp he
      repeat' (first | with_reducible refine wo_nil ?_ | ((with_reducible refine wo_any ?_); first | ((with_reducible refine ik_move ?_); refine wo_op rfl (op_move rfl) rfl rfl ?_) | ((with_reducible refine ik_assign ?_); refine wo_op rfl (op_assign rfl) rfl rfl ?_) | ((with_reducible refine ik_indexAddr ?_); refine wo_op rfl (op_indexAddr rfl rfl i1) rfl rfl ?_) | ((with_reducible refine ik_load ?_); refine wo_op rfl (op_ldCell rfl Tryz.underlying3 rfl i3) rfl rfl ?_) | ((with_reducible refine ik_callb ?_); refine wo_op rfl (op_lenSl rfl Tryz.underlying41) rfl rfl ?_) | ((with_reducible refine ik_bin ?_); first | refine wo_op rfl (op_lss rfl rfl) rfl rfl ?_ | refine wo_op rfl (op_eql rfl rfl) rfl rfl ?_)) | with_reducible refine sq_norm ?_ | with_reducible refine wc_seq ?_ | with_reducible refine wc_region ?_ | with_reducible refine wc_skip ?_ | with_reducible refine wc_ret ?_ | with_reducible refine wc_block ?_ | with_reducible refine bq_ret ?_ | with_reducible refine sq_ret ?_ | with_reducible refine lq_ret ?_ | (refine wc_if rfl (fun hb => ?_) (fun hb => dead_A hb); (try simp only [decide_eq_true_eq, decide_eq_false_iff_not, Bool.not_eq_true', Bool.not_eq_false', Int.not_lt, Int.not_le, Decidable.not_not, not_true_eq_false, not_false_eq_true, beq_self_eq_true, reduceCtorEq] at hb)) | (refine wc_if rfl (fun hb => ?_) (fun hb => (of_decide_eq_false hb rfl).elim); (try simp only [decide_eq_true_eq, decide_eq_false_iff_not, Bool.not_eq_true', Bool.not_eq_false', Int.not_lt, Int.not_le, Decidable.not_not, not_true_eq_false, not_false_eq_true, beq_self_eq_true, reduceCtorEq] at hb)))
      exact rq1 rfl ⟨rfl, rfl⟩
    · have hp' : ∀ j, j < k + 1 → l.getD j 0 ≠ z := fun j hj => by
        by_cases q : j = k
        · rw [q]; exact he
        · exact hp j (by omega)
      clear hp
      generalize l.getD k 0 = y at i3 he
      repeat' (first | with_reducible refine wo_nil ?_ | ((with_reducible refine wo_any ?_); first | ((with_reducible refine ik_move ?_); refine wo_op rfl (op_move rfl) rfl rfl ?_) | ((with_reducible refine ik_assign ?_); refine wo_op rfl (op_assign rfl) rfl rfl ?_) | ((with_reducible refine ik_indexAddr ?_); refine wo_op rfl (op_indexAddr rfl rfl i1) rfl rfl ?_) | ((with_reducible refine ik_load ?_); refine wo_op rfl (op_ldCell rfl Tryz.underlying3 rfl i3) rfl rfl ?_) | ((with_reducible refine ik_callb ?_); refine wo_op rfl (op_lenSl rfl Tryz.underlying41) rfl rfl ?_) | ((with_reducible refine ik_bin ?_); first | refine wo_op rfl (op_lss rfl rfl) rfl rfl ?_ | refine wo_op rfl (op_eql rfl rfl) rfl rfl ?_ | refine wo_op rfl (op_add' rfl rfl (w64 (by omega) (by omega))) rfl rfl ?_)) | with_reducible refine sq_norm ?_ | with_reducible refine wc_seq ?_ | with_reducible refine wc_region ?_ | with_reducible refine wc_skip ?_ | with_reducible refine wc_block ?_ | with_reducible refine bq_norm ?_ | (refine wc_if rfl (fun hb => ?_) (fun hb => ?_) <;> (try simp only [decide_eq_true_eq, decide_eq_false_iff_not, Bool.not_eq_true', Bool.not_eq_false', Int.not_lt, Int.not_le, Decidable.not_not, not_true_eq_false, not_false_eq_true, beq_self_eq_true, reduceCtorEq] at hb) <;> (try (exfalso; omega))))
      all_goals first
        | exact lq_norm (k + 1) (by omega) (within_lk ⟨rfl, rfl, rfl, trivial⟩) ⟨rfl, by omega, hp'⟩
        | (exfalso; simp_all; done)
  · rw [not_in (fun j hj => hp j (by omega))]
    repeat' (first | with_reducible refine wo_nil ?_ | ((with_reducible refine wo_any ?_); first | ((with_reducible refine ik_move ?_); refine wo_op rfl (op_move rfl) rfl rfl ?_) | ((with_reducible refine ik_assign ?_); refine wo_op rfl (op_assign rfl) rfl rfl ?_) | ((with_reducible refine ik_callb ?_); refine wo_op rfl (op_lenSl rfl Tryz.underlying41) rfl rfl ?_) | ((with_reducible refine ik_bin ?_); refine wo_op rfl (op_lss rfl rfl) rfl rfl ?_)) | with_reducible refine sq_norm ?_ | with_reducible refine wc_seq ?_ | with_reducible refine wc_region ?_ | with_reducible refine wc_ret ?_ | with_reducible refine wc_exit ?_ | with_reducible refine sq_exit ?_ | with_reducible refine lq_exit ?_ | refine bq_eq rfl ?_ | (refine wc_if rfl (fun hb => ?_) (fun hb => ?_) <;> (try simp only [decide_eq_true_eq, decide_eq_false_iff_not, Bool.not_eq_true', Bool.not_eq_false', Int.not_lt, Int.not_le, Decidable.not_not, not_true_eq_false, not_false_eq_true, beq_self_eq_true, reduceCtorEq] at hb) <;> (try (exfalso; omega))))
    exact rq1 rfl ⟨rfl, rfl⟩
theorem c170 {v : Value} {n : Nat} {l : List Int} {z : Int} (s : Sl G h 1 v n (l.map (.int .i64))) (hn : n < 1000000) : Cf (mz G) (.func (.func 170) #[] #[]) [v, .int .i64 z] h fun r h' => (∃ i : Int, r = .int .i64 i ∧ decide (0 ≤ i) = decide (z ∈ l)) ∧ h' = h := by
  obtain ⟨a, c, rfl⟩ := s.form
  have hl := s.length
  simp at hl
  refine cf_enter0 19 [.tmp 4] Tryz.func170 rfl rfl rfl rfl ?_
  repeat' (first | with_reducible refine wo_nil ?_ | ((with_reducible refine wo_any ?_); first | ((with_reducible refine ik_move ?_); refine wo_op rfl (op_move rfl) rfl rfl ?_) | ((with_reducible refine ik_assign ?_); refine wo_op rfl (op_assign rfl) rfl rfl ?_) | ((with_reducible refine ik_callb ?_); refine wo_op rfl (op_lenSl rfl Tryz.underlying41) rfl rfl ?_)) | with_reducible refine sq_norm ?_ | with_reducible refine wc_seq ?_ | with_reducible refine wc_region ?_ | with_reducible refine wc_block ?_)
  refine wc_loop (fun k => n - k) (fun k : Nat => [(0, .slice a n c), (1, .int .i64 z), (7, .int .i64 n), (8, .int .i64 k)]) (fun k h' => h' = h ∧ k ≤ n ∧ ∀ j, j < k → l.getD j 0 ≠ z) 0 (within_lk ⟨rfl, rfl, rfl, rfl, trivial⟩) ⟨rfl, Nat.zero_le _, fun j hj => by omega⟩ ?_
  rintro k h' ⟨rfl, hk, hp⟩
  by_cases hlt : k < n
  · obtain ⟨ad, i1, i3⟩ := in_atG s (i := (k : Int)) hlt rfl
    have i3 := i3 _ (Grow.refl _)
    by_cases he : l.getD k 0 = z
    · rw [is_in (by omega) he]
      rw [he] at i3
      clear hp he
      repeat' (first | with_reducible refine wo_nil ?_ | ((with_reducible refine wo_any ?_); first | ((with_reducible refine ik_move ?_); refine wo_op rfl (op_move rfl) rfl rfl ?_) | ((with_reducible refine ik_assign ?_); refine wo_op rfl (op_assign rfl) rfl rfl ?_) | ((with_reducible refine ik_indexAddr ?_); refine wo_op rfl (op_indexAddr rfl rfl i1) rfl rfl ?_) | ((with_reducible refine ik_load ?_); refine wo_op rfl (op_ldCell rfl Tryz.underlying3 rfl i3) rfl rfl ?_) | ((with_reducible refine ik_bin ?_); first | refine wo_op rfl (op_lss rfl rfl) rfl rfl ?_ | refine wo_op rfl (op_eql rfl rfl) rfl rfl ?_)) | with_reducible refine sq_norm ?_ | with_reducible refine wc_seq ?_ | with_reducible refine wc_region ?_ | with_reducible refine wc_skip ?_ | with_reducible refine wc_ret ?_ | with_reducible refine wc_block ?_ | with_reducible refine bq_ret ?_ | with_reducible refine sq_ret ?_ | with_reducible refine lq_ret ?_ | (refine wc_if rfl (fun hb => ?_) (fun hb => dead_A hb); (try simp only [decide_eq_true_eq, decide_eq_false_iff_not, Bool.not_eq_true', Bool.not_eq_false', Int.not_lt, Int.not_le, Decidable.not_not, not_true_eq_false, not_false_eq_true, beq_self_eq_true, reduceCtorEq] at hb)) | (refine wc_if rfl (fun hb => ?_) (fun hb => (of_decide_eq_false hb rfl).elim); (try simp only [decide_eq_true_eq, decide_eq_false_iff_not, Bool.not_eq_true', Bool.not_eq_false', Int.not_lt, Int.not_le, Decidable.not_not, not_true_eq_false, not_false_eq_true, beq_self_eq_true, reduceCtorEq] at hb)))
      exact rq1 rfl ⟨⟨k, rfl, decide_eq_true (by omega)⟩, rfl⟩
    · have hp' : ∀ j, j < k + 1 → l.getD j 0 ≠ z := fun j hj => by
        by_cases q : j = k
        · rw [q]; exact he
        · exact hp j (by omega)
      clear hp
      generalize l.getD k 0 = y at i3 he
      repeat' (first | with_reducible refine wo_nil ?_ | ((with_reducible refine wo_any ?_); first | ((with_reducible refine ik_move ?_); refine wo_op rfl (op_move rfl) rfl rfl ?_) | ((with_reducible refine ik_assign ?_); refine wo_op rfl (op_assign rfl) rfl rfl ?_) | ((with_reducible refine ik_indexAddr ?_); refine wo_op rfl (op_indexAddr rfl rfl i1) rfl rfl ?_) | ((with_reducible refine ik_load ?_); refine wo_op rfl (op_ldCell rfl Tryz.underlying3 rfl i3) rfl rfl ?_) | ((with_reducible refine ik_bin ?_); first | refine wo_op rfl (op_lss rfl rfl) rfl rfl ?_ | refine wo_op rfl (op_eql rfl rfl) rfl rfl ?_ | refine wo_op rfl (op_add' rfl rfl (w64 (by omega) (by omega))) rfl rfl ?_)) | with_reducible refine sq_norm ?_ | with_reducible refine wc_seq ?_ | with_reducible refine wc_region ?_ | with_reducible refine wc_skip ?_ | with_reducible refine wc_block ?_ | with_reducible refine bq_norm ?_ | (refine wc_if rfl (fun hb => ?_) (fun hb => ?_) <;> (try simp only [decide_eq_true_eq, decide_eq_false_iff_not, Bool.not_eq_true', Bool.not_eq_false', Int.not_lt, Int.not_le, Decidable.not_not, not_true_eq_false, not_false_eq_true, beq_self_eq_true, reduceCtorEq] at hb) <;> (try (exfalso; omega))))
      all_goals first
        | exact lq_norm (k + 1) (by omega) (within_lk ⟨rfl, rfl, rfl, rfl, trivial⟩) ⟨rfl, by omega, hp'⟩
        | (exfalso; simp_all; done)
  · rw [not_in (fun j hj => hp j (by omega))]
    repeat' (first | with_reducible refine wo_nil ?_ | ((with_reducible refine wo_any ?_); first | ((with_reducible refine ik_assign ?_); refine wo_op rfl (op_assign rfl) rfl rfl ?_) | ((with_reducible refine ik_bin ?_); refine wo_op rfl (op_lss rfl rfl) rfl rfl ?_)) | with_reducible refine sq_norm ?_ | with_reducible refine wc_seq ?_ | with_reducible refine wc_region ?_ | with_reducible refine wc_ret ?_ | with_reducible refine wc_exit ?_ | with_reducible refine sq_exit ?_ | with_reducible refine lq_exit ?_ | refine bq_eq rfl ?_ | (refine wc_if rfl (fun hb => ?_) (fun hb => ?_) <;> (try simp only [decide_eq_true_eq, decide_eq_false_iff_not, Bool.not_eq_true', Bool.not_eq_false', Int.not_lt, Int.not_le, Decidable.not_not, not_true_eq_false, not_false_eq_true, beq_self_eq_true, reduceCtorEq] at hb) <;> (try (exfalso; omega))))
    exact rq1 rfl ⟨⟨_, rfl, decide_eq_false (by decide)⟩, rfl⟩
theorem c131 {v : Value} {n : Nat} {l : List Int} {z : Int} (s : Sl G h 1 v n (l.map (.int .i64))) (hn : n < 1000000) : Cf (mz G) (.func (.func 131) #[] #[]) [v, .int .i64 z] h fun r h' => r = .bool (decide (z ∈ l)) ∧ Grow h h' := by
  have q170 := (c170 (z := z) s hn).mono (fun r h2 q => (⟨q.1, q.2 ▸ Grow.refl _⟩ : (∃ i : Int, r = .int .i64 i ∧ decide (0 ≤ i) = decide (z ∈ l)) ∧ Grow h h2))
  refine cf_enter0 9 [.tmp 4] Tryz.func131 rfl rfl rfl rfl ?_
  repeat' (first | with_reducible refine wo_nil ?_ | ((with_reducible refine wo_any ?_); first | ((with_reducible refine ik_move ?_); refine wo_op rfl (op_move rfl) rfl rfl ?_) | ((with_reducible refine ik_assign ?_); refine wo_op rfl (op_assign rfl) rfl rfl ?_) | ((with_reducible refine ik_bin ?_); refine wo_op rfl (op_geq rfl rfl) rfl rfl ?_) | ((with_reducible refine ik_callv ?_); (refine wo_call rfl rfl rfl rfl (q170) rfl rfl ?_; rintro _ _ ⟨⟨i, rfl, hi⟩, hq⟩; all_goals ((try (have hqn := hq.nx)); (try simp only [H.nx_push, H.nx_set, H.nx_bump] at hqn))))) | with_reducible refine sq_norm ?_ | with_reducible refine wc_seq ?_ | with_reducible refine wc_region ?_ | with_reducible refine wc_ret ?_)
  exact rq1 rfl ⟨by rw [← hi], gr_A⟩
theorem c8 {a b w u p q : Int} : Cf (mz G) (.func (.func 8) #[] #[]) [.agg ⟨[.int .i64 a, .int .i64 b, .int .i64 w, .int .i64 u, .int .i64 p, .int .i64 q]⟩] h fun r h' => (r = .bool true ∨ r = .bool false) ∧ Grow h h' := by
  refine cf_enter0 21 [.tmp 2] Tryz.func8 rfl rfl rfl rfl ?_
  repeat' (first | with_reducible refine wo_nil ?_ | ((with_reducible refine wo_any ?_); first | ((with_reducible refine ik_move ?_); refine wo_op rfl (op_move rfl) rfl rfl ?_) | ((with_reducible refine ik_assign ?_); refine wo_op rfl (op_assign rfl) rfl rfl ?_) | ((with_reducible refine ik_box ?_); refine wo_op rfl (op_boxAgg rfl zs25 rfl) rfl rfl ?_) | ((with_reducible refine ik_fieldAddr ?_); refine wo_op rfl (op_fieldAddr (o := 4) rfl Tryz.underlying25 rfl zs3 rfl) rfl rfl ?_) | ((with_reducible refine ik_load ?_); refine wo_op rfl (op_ldAt rfl at_A Tryz.underlying3 rfl rfl) rfl rfl ?_) | ((with_reducible refine ik_bin ?_); refine wo_op rfl (op_leq rfl rfl) rfl rfl ?_) | ((with_reducible refine ik_pick ?_); first | refine wo_op rfl (op_pickt rfl rfl) rfl rfl ?_ | refine wo_op rfl (op_pickf rfl rfl) rfl rfl ?_) | ((with_reducible refine ik_g ?_); first | refine wo_gskip rfl rfl rfl rfl rfl rfl ?_ | refine wo_gskip' rfl rfl rfl rfl rfl ?_ | ((with_reducible refine ig_move ?_); refine wo_grun rfl rfl rfl (op_move rfl) rfl rfl ?_) | ((with_reducible refine ig_fieldAddr ?_); first | refine wo_grun rfl rfl rfl (op_fieldAddr (o := 4) rfl Tryz.underlying25 rfl zs3 rfl) rfl rfl ?_ | refine wo_grun rfl rfl rfl (op_fieldAddr (o := 5) rfl Tryz.underlying25 rfl zs3 rfl) rfl rfl ?_) | ((with_reducible refine ig_load ?_); refine wo_grun rfl rfl rfl (op_ldAt rfl at_A Tryz.underlying3 rfl rfl) rfl rfl ?_) | ((with_reducible refine ig_bin ?_); first | refine wo_grun rfl rfl rfl (op_leq rfl rfl) rfl rfl ?_ | refine wo_grun rfl rfl rfl (op_gtr rfl rfl) rfl rfl ?_) | ((with_reducible refine ig_pick ?_); first | refine wo_grun rfl rfl rfl (op_pickt rfl rfl) rfl rfl ?_ | refine wo_grun rfl rfl rfl (op_pickf rfl rfl) rfl rfl ?_) | (refine wo_gsplit rfl rfl rfl (fun hb => ?_) (fun hb => ?_) <;> (try simp only [decide_eq_true_eq, decide_eq_false_iff_not, Bool.not_eq_true', Bool.not_eq_false', Int.not_lt, Int.not_le, Decidable.not_not, not_true_eq_false, not_false_eq_true, beq_self_eq_true, reduceCtorEq] at hb) <;> (try (exfalso; omega))))) | with_reducible refine sq_norm ?_ | with_reducible refine wc_seq ?_ | with_reducible refine wc_region ?_ | with_reducible refine wc_ret ?_)
  all_goals exact rq1 rfl ⟨bool_or _, gr_A⟩
end Go.Proofs.YtnkmencbnoipmaaGreatDoor

/- Short lines; places. -/
namespace Go.Proofs.YtnkmencbnoipmaaGreatDoor
open Go Go.Ab Go.Fl
attribute [local irreducible] SeqQ BlkQ LpQ RetQ Wc Wo WD WX Op1 Op1q Op1a Cf Cl From
attribute [local irreducible] Ieee.Format.order Ieee.Format.read Ieee.Format.nearest Ieee.Format.write Ieee.Format.mul Ieee.Format.div Ieee.Format.sqrt Ieee.Datum.order Ieee.Datum.integral K U rngE errN cntE cmpI indE ptE plaE firstNZ numsE lnE BigP isNameB nmE ascA errL chgV chgE
set_option maxRecDepth 10000
variable {G : Base} {h : H}

set_option maxHeartbeats 4000000 in
theorem c9 {v : Value} {n : Nat} {ts : List LnM} (s : SlN G h v n ts) (hn : n ≤ maxLen) (hw : Wf h) : Cf (mz G) (.func (.func 9) #[] #[]) [v] h fun r h' => ((r = .bool true ∧ n ≤ 33 ∧ ∀ t ∈ ts, t.V.rf.length ≤ 10 ∧ t.V.nm.size ≤ 40) ∨ r = .bool false) ∧ Grow h h' := by
  obtain ⟨a, c, rfl⟩ := s.sl.form
  have hlen := s.len
  have hn : n ≤ 9223372036854775807 := hn
  refine cf_enter0 24 [.tmp 2] Tryz.func9 rfl rfl rfl rfl ?_
  repeat' (first | with_reducible refine wo_nil ?_ | ((with_reducible refine wo_any ?_); ((with_reducible refine ik_assign ?_); refine wo_op rfl (op_assign rfl) rfl rfl ?_)) | with_reducible refine sq_norm ?_ | with_reducible refine wc_seq ?_ | with_reducible refine wc_region ?_ | with_reducible refine wc_block ?_)
  refine wc_loop (fun k => n - k) (fun k : Nat => [(0, .slice a n c), (3, .int .i64 k)]) (fun k h' => (Wf h' ∧ Grow h h') ∧ k ≤ n ∧ ∀ j (hj : j < ts.length), j < k → ts[j].V.rf.length ≤ 10 ∧ ts[j].V.nm.size ≤ 40) 0 (within_lk ⟨rfl, rfl, trivial⟩) ⟨⟨wf_A, gr_A⟩, Nat.zero_le _, fun j _ hj => by omega⟩ ?_
  rintro k h1 ⟨⟨w1, g1⟩, hk, hp⟩
  have n1 := g1.nx
  by_cases hlt : k < n
  · obtain ⟨ad, i1, i3⟩ := slN_at (s.grow g1) Tryz.underlying26 zs45 (i := (k : Int)) hlt rfl
    obtain ⟨t, ht⟩ : ∃ t, ts[k]'(by omega) = t := ⟨_, rfl⟩
    have hp' : t.V.rf.length ≤ 10 ∧ t.V.nm.size ≤ 40 → ∀ j (hj : j < ts.length), j < k + 1 → ts[j].V.rf.length ≤ 10 ∧ ts[j].V.nm.size ≤ 40 := fun q j hj hl => by
      by_cases e : j = k
      · subst e; rw [ht]; exact q
      · exact hp j hj (by omega)
    rw [ht] at i3
    clear hp ht
    obtain ⟨⟨nm, x, y, tx, ty, sh, nx, ny, px, py, ch, rf⟩, ta, tc⟩ := t
    dsimp only [LnM.cells] at i3
    dsimp only at hp'
    have q23 := fun (h' : H) => c23 (G := G) (h := h') (rf := rf) (nm := nm) (x := x) (y := y) (tx := tx) (ty := ty) (sh := sh) (nx := nx) (ny := ny) (px := px) (py := py) (ch := ch) (a := ta) (n := rf.length) (c := tc)
    repeat' (first | with_reducible refine wo_nil ?_ | ((with_reducible refine wo_any ?_); first | ((with_reducible refine ik_move ?_); refine wo_op rfl (op_move rfl) rfl rfl ?_) | ((with_reducible refine ik_assign ?_); refine wo_op rfl (op_assign rfl) rfl rfl ?_) | ((with_reducible refine ik_indexAddr ?_); refine wo_op rfl (op_indexAddr rfl rfl i1) rfl rfl ?_) | ((with_reducible refine ik_load ?_); refine wo_op rfl (op_ldLn rfl Tryz.underlying45 rfl zs45 i3.all) rfl rfl ?_) | ((with_reducible refine ik_callb ?_); refine wo_op rfl (op_lenSl rfl Tryz.underlying26) rfl rfl ?_) | ((with_reducible refine ik_bin ?_); first | refine wo_op rfl (op_lss rfl rfl) rfl rfl ?_ | refine wo_op rfl (op_add' rfl rfl (w64 (by omega) (by omega))) rfl rfl ?_) | ((with_reducible refine ik_un ?_); refine wo_op rfl (op_not rfl) rfl rfl ?_) | ((with_reducible refine ik_callv ?_); (refine wo_call rfl rfl rfl rfl (q23 _) rfl rfl ?_; rintro _ _ ⟨⟨rfl, hb2⟩ | rfl, hq⟩; all_goals ((try (have hqn := hq.nx)); (try simp only [H.nx_push, H.nx_set, H.nx_bump] at hqn))))) | with_reducible refine sq_norm ?_ | with_reducible refine wc_seq ?_ | with_reducible refine wc_region ?_ | with_reducible refine wc_skip ?_ | with_reducible refine wc_ret ?_ | with_reducible refine wc_block ?_ | with_reducible refine bq_norm ?_ | with_reducible refine bq_ret ?_ | with_reducible refine sq_ret ?_ | with_reducible refine lq_ret ?_ | refine wc_ift rfl ?_ | refine wc_iff rfl ?_ | (refine wc_if rfl (fun hb => ?_) (fun hb => dead_A hb); (try simp only [decide_eq_true_eq, decide_eq_false_iff_not, Bool.not_eq_true', Bool.not_eq_false', Int.not_lt, Int.not_le, Decidable.not_not, not_true_eq_false, not_false_eq_true, beq_self_eq_true, reduceCtorEq] at hb)))
    all_goals first
      | exact rq1 rfl ⟨.inr rfl, gr_A⟩
      | exact lq_norm (k + 1) (by omega) (within_lk ⟨rfl, rfl, trivial⟩) ⟨⟨wf_A, gr_A⟩, by omega, hp' hb2⟩
      | trace_state
  · have hall : ∀ t ∈ ts, t.V.rf.length ≤ 10 ∧ t.V.nm.size ≤ 40 := fun t ht => by
      obtain ⟨j, hj, rfl⟩ := List.getElem_of_mem ht
      exact hp j hj (by omega)
    clear hp
    repeat' (first | with_reducible refine wo_nil ?_ | ((with_reducible refine wo_any ?_); first | ((with_reducible refine ik_move ?_); refine wo_op rfl (op_move rfl) rfl rfl ?_) | ((with_reducible refine ik_assign ?_); refine wo_op rfl (op_assign rfl) rfl rfl ?_) | ((with_reducible refine ik_callb ?_); refine wo_op rfl (op_lenSl rfl Tryz.underlying26) rfl rfl ?_) | ((with_reducible refine ik_bin ?_); first | refine wo_op rfl (op_lss rfl rfl) rfl rfl ?_ | refine wo_op rfl (op_leq rfl rfl) rfl rfl ?_) | ((with_reducible refine ik_pick ?_); first | refine wo_op rfl (op_pickt rfl rfl) rfl rfl ?_ | refine wo_op rfl (op_pickf rfl rfl) rfl rfl ?_) | ((with_reducible refine ik_g ?_); first | refine wo_gskip rfl rfl rfl rfl rfl rfl ?_ | ((with_reducible refine ig_move ?_); refine wo_grun rfl rfl rfl (op_move rfl) rfl rfl ?_) | ((with_reducible refine ig_callb ?_); refine wo_grun rfl rfl rfl (op_lenSl rfl Tryz.underlying26) rfl rfl ?_) | ((with_reducible refine ig_bin ?_); refine wo_grun rfl rfl rfl (op_eql rfl rfl) rfl rfl ?_) | (refine wo_gsplit rfl rfl rfl (fun hb => ?_) (fun hb => ?_) <;> (try simp only [decide_eq_true_eq, decide_eq_false_iff_not, Bool.not_eq_true', Bool.not_eq_false', Int.not_lt, Int.not_le, Decidable.not_not, not_true_eq_false, not_false_eq_true, beq_self_eq_true, reduceCtorEq] at hb) <;> (try (exfalso; omega))))) | with_reducible refine sq_norm ?_ | with_reducible refine wc_seq ?_ | with_reducible refine wc_region ?_ | with_reducible refine wc_ret ?_ | with_reducible refine wc_exit ?_ | with_reducible refine sq_exit ?_ | with_reducible refine lq_exit ?_ | refine bq_eq rfl ?_ | (refine wc_if rfl (fun hb => ?_) (fun hb => ?_) <;> (try simp only [decide_eq_true_eq, decide_eq_false_iff_not, Bool.not_eq_true', Bool.not_eq_false', Int.not_lt, Int.not_le, Decidable.not_not, not_true_eq_false, not_false_eq_true, beq_self_eq_true, reduceCtorEq] at hb) <;> (try (exfalso; omega))))
    all_goals first
      | exact rq1 rfl ⟨.inl ⟨rfl, by omega, hall⟩, gr_A⟩
      | (refine rq1 rfl ⟨?_, gr_A⟩
         by_cases q : (n : Int) = 33
         · rw [decide_eq_true q]; exact .inl ⟨rfl, by omega, hall⟩
         · rw [decide_eq_false q]; exact .inr rfl)
end Go.Proofs.YtnkmencbnoipmaaGreatDoor

/- Places. -/
namespace Go.Proofs.YtnkmencbnoipmaaGreatDoor
open Go Go.Ab Go.Fl
attribute [local irreducible] SeqQ BlkQ LpQ RetQ Wc Wo WD WX Op1 Op1q Op1a Cf Cl From
attribute [local irreducible] Ieee.Format.order Ieee.Format.read Ieee.Format.nearest Ieee.Format.write Ieee.Format.mul Ieee.Format.div Ieee.Format.sqrt Ieee.Datum.order Ieee.Datum.integral K U rngE errN cntE cmpI indE ptE plaE firstNZ numsE lnE BigP isNameB nmE ascA errL chgV chgE
set_option maxRecDepth 10000
variable {G : Base} {h : H}

structure Pl where
  x : Int
  y : Int
  u : Int
  v : Int
@[reducible] def Pl.cells (p : Pl) : List Value := [.int .i64 p.x, .int .i64 p.y, .int .i64 p.u, .int .i64 p.v]
theorem flat_lenP : ∀ ps : List Pl, (ps.flatMap Pl.cells).length = ps.length * 4
  | [] => rfl
  | p :: ps => by rw [List.flatMap_cons, List.length_append, flat_lenP ps]; simp only [List.length_cons, List.length_nil]; omega
theorem flat_dropP : ∀ (ps : List Pl) (k : Nat) (hk : k < ps.length), (ps.flatMap Pl.cells).drop (k * 4) = (ps[k]).cells ++ (ps.drop (k + 1)).flatMap Pl.cells
  | p :: ps, 0, _ => by simp
  | p :: ps, k + 1, hk => by
    have ih := flat_dropP ps k (by simpa using hk)
    have e : ((p :: ps).flatMap Pl.cells).drop ((k + 1) * 4) = (ps.flatMap Pl.cells).drop (k * 4) := by
      rw [List.flatMap_cons, show (k + 1) * 4 = p.cells.length + k * 4 by simp; omega, List.drop_append]
      simp
    rw [e, ih]; rfl
theorem slP_at {v : Value} {n : Nat} {ps : List Pl} (s : Sl G h 4 v n (ps.flatMap Pl.cells)) (hl : ps.length = n) {st et : TypeId} (hu : Tryz.prog.underlying st = some (.slice et)) (hz : tsz Tryz.prog et = some 4) {i : Int} {q : Nat} (hq : q < n) (hi : i = (q : Int)) :
    ∃ ad, aindexAddr Tryz.prog st v (.int .i64 i) = some (.pointer (some ad)) ∧ ∀ h', Grow h h' → Cells G h' ad (ps[q]'(by rw [hl]; exact hq)).cells := by
  have key : ∀ h', Grow h h' → ∃ ad, aindexAddr Tryz.prog st v (.int .i64 i) = some (.pointer (some ad)) ∧ Cells G h' ad (ps[q]'(by rw [hl]; exact hq)).cells := fun h' g => by
    obtain ⟨ad, h1, h2⟩ := (s.grow g).addr (M := mz G) hu (es := 4) hz (i := i) (k := .i64) (by omega) (by omega)
    rw [show i.toNat * 4 = q * 4 by omega, flat_dropP ps q (by omega)] at h2
    exact ⟨ad, h1, cells_left h2⟩
  obtain ⟨ad, h1, _⟩ := key h (Grow.refl _)
  refine ⟨ad, h1, fun h' g => ?_⟩
  obtain ⟨ad', k1, k2⟩ := key h' g
  rw [h1] at k1
  cases k1
  exact k2
theorem eqv126 (a b c d p q r s : Int) : eqV Tryz.prog 5 126 [.int .i64 a, .int .i64 b, .int .i64 c, .int .i64 d] [.int .i64 p, .int .i64 q, .int .i64 r, .int .i64 s] = some ((decide (a = p) && (decide (b = q) && true)) && ((decide (c = r) && (decide (d = s) && true)) && true)) := by kernel_rfl
theorem eqv126_same (a b c d : Int) : eqV Tryz.prog 5 126 [.int .i64 a, .int .i64 b, .int .i64 c, .int .i64 d] [.int .i64 a, .int .i64 b, .int .i64 c, .int .i64 d] = some true := by rw [eqv126]; simp
theorem eg126 : Tryz.prog.eqGuardType Tryz.prog.depth 126 = false := by kernel_rfl
set_option maxHeartbeats 4000000 in
theorem c21 {v w : Value} {n : Nat} {ps : List Pl} (s : Sl G h 4 v n (ps.flatMap Pl.cells)) (u : Sl G h 4 w n (ps.flatMap Pl.cells)) (hl : ps.length = n) (hn : n < 1000000) (hw : Wf h) : Cf (mz G) (.func (.func 21) #[] #[]) [v, w] h fun r h' => r = .bool true ∧ Grow h h' := by
  obtain ⟨a, c, rfl⟩ := s.form
  obtain ⟨b, d, rfl⟩ := u.form
  refine cf_enter0 26 [.tmp 4] Tryz.func21 rfl rfl rfl rfl ?_
  repeat' (first | with_reducible refine wo_nil ?_ | ((with_reducible refine wo_any ?_); first | ((with_reducible refine ik_move ?_); refine wo_op rfl (op_move rfl) rfl rfl ?_) | ((with_reducible refine ik_assign ?_); refine wo_op rfl (op_assign rfl) rfl rfl ?_) | ((with_reducible refine ik_callb ?_); refine wo_op rfl (op_lenSl rfl Tryz.underlying47) rfl rfl ?_) | ((with_reducible refine ik_bin ?_); refine wo_op rfl (op_neq rfl rfl) rfl rfl ?_)) | with_reducible refine sq_norm ?_ | with_reducible refine wc_seq ?_ | with_reducible refine wc_region ?_ | with_reducible refine wc_skip ?_ | with_reducible refine wc_block ?_ | (refine wc_if rfl (fun hb => ?_) (fun hb => ?_) <;> (try simp only [decide_eq_true_eq, decide_eq_false_iff_not, Bool.not_eq_true', Bool.not_eq_false', Int.not_lt, Int.not_le, Decidable.not_not, not_true_eq_false, not_false_eq_true, beq_self_eq_true, reduceCtorEq] at hb) <;> (try (exfalso; omega))))
  refine wc_loop (fun i => n - i) (fun i : Nat => [(0, .slice a n c), (1, .slice b n d), (5, .int .i64 i)]) (fun i h' => (Wf h' ∧ Grow h h') ∧ i ≤ n) 0 (within_lk ⟨rfl, rfl, rfl, trivial⟩) ⟨⟨wf_A, gr_A⟩, Nat.zero_le _⟩ ?_
  rintro i h1 ⟨⟨w1, g1⟩, hi⟩
  have n1 := g1.nx
  by_cases hlt : i < n
  · obtain ⟨ad, i1, i3⟩ := slP_at (s.grow g1) hl Tryz.underlying47 zs126 (i := (i : Int)) hlt rfl
    obtain ⟨bd, j1, j3⟩ := slP_at (u.grow g1) hl Tryz.underlying47 zs126 (i := (i : Int)) hlt rfl
    obtain ⟨p, hp⟩ : ∃ p, ps[i]'(by omega) = p := ⟨_, rfl⟩
    rw [hp] at i3 j3
    obtain ⟨x, y, z, t⟩ := p
    dsimp only [Pl.cells] at i3 j3
    repeat' (first | with_reducible refine wo_nil ?_ | ((with_reducible refine wo_any ?_); first | ((with_reducible refine ik_move ?_); refine wo_op rfl (op_move rfl) rfl rfl ?_) | ((with_reducible refine ik_assign ?_); refine wo_op rfl (op_assign rfl) rfl rfl ?_) | ((with_reducible refine ik_bin ?_); first | refine wo_op rfl (op_lss rfl rfl) rfl rfl ?_ | refine wo_op rfl (op_add' rfl rfl (w64 (by omega) (by omega))) rfl rfl ?_) | ((with_reducible refine ik_callb ?_); refine wo_op rfl (op_lenSl rfl Tryz.underlying47) rfl rfl ?_)) | ((with_reducible refine xk_any ?_); ((with_reducible refine xk_as0 ?_); first | ((with_reducible refine xk_move ?_); refine wx_q (wt_none rfl) rfl rfl (op_q rfl (op_move rfl)) rfl rfl rfl ?_) | ((with_reducible refine xk_indexAddr ?_); first | refine wx_q (wt_none rfl) rfl rfl (op_q rfl (op_indexAddr rfl rfl i1)) rfl rfl rfl ?_ | refine wx_q (wt_none rfl) rfl rfl (op_q rfl (op_indexAddr rfl rfl j1)) rfl rfl rfl ?_) | ((with_reducible refine xk_load ?_); first | refine wx_h0 (wt_none rfl) rfl (op_q rfl (op_ldLn rfl Tryz.underlying126 rfl zs126 (i3 _ gr_A).all)) rfl rfl rfl ?_ | refine wx_h0 (wt_none rfl) rfl (op_q rfl (op_ldLn rfl Tryz.underlying126 rfl zs126 (j3 _ gr_A).all)) rfl rfl rfl ?_) | ((with_reducible refine xk_bin ?_); refine wx_q (wt_none rfl) rfl rfl (op_q rfl (op_neT 5 rfl rfl rfl Tryz.underlying126 rfl eg126 (eqv126_same _ _ _ _))) rfl rfl rfl ?_) | with_reducible refine wx_nil0 ?_ ?_)) | with_reducible exact obl_nil | with_reducible refine obl_cons ?_ ?_ | ((with_reducible refine ik_obs ?_); first | exact obs_nil | refine obs_chkn rfl rfl (op_q rfl (op_ldLn rfl Tryz.underlying126 rfl zs126 (i3 _ gr_A).all)) ?_ | refine obs_chkn rfl rfl (op_q rfl (op_ldLn rfl Tryz.underlying126 rfl zs126 (j3 _ gr_A).all)) ?_) | with_reducible refine sq_norm ?_ | with_reducible refine wc_seq ?_ | with_reducible refine wc_region ?_ | with_reducible refine wc_skip ?_ | with_reducible refine wc_block ?_ | with_reducible refine bq_norm ?_ | refine wc_iff rfl ?_ | (refine wc_if rfl (fun hb => ?_) (fun hb => dead_A hb); (try simp only [decide_eq_true_eq, decide_eq_false_iff_not, Bool.not_eq_true', Bool.not_eq_false', Int.not_lt, Int.not_le, Decidable.not_not, not_true_eq_false, not_false_eq_true, beq_self_eq_true, reduceCtorEq] at hb)) | refine wc_drawB (id := 6) 9 [0, 0, 3, 7, 0, 0, 48, 112, 255] [0, 1, 2, 3, 4, 5, 6, 7, 8] (by kernel_rfl) (by kernel_rfl) rfl rfl ?_)
    all_goals exact lq_norm (i + 1) (by omega) (within_lk ⟨rfl, rfl, rfl, trivial⟩) ⟨⟨wf_A, gr_A⟩, by omega⟩
  · repeat' (first | with_reducible refine wo_nil ?_ | ((with_reducible refine wo_any ?_); first | ((with_reducible refine ik_move ?_); refine wo_op rfl (op_move rfl) rfl rfl ?_) | ((with_reducible refine ik_assign ?_); refine wo_op rfl (op_assign rfl) rfl rfl ?_) | ((with_reducible refine ik_callb ?_); refine wo_op rfl (op_lenSl rfl Tryz.underlying47) rfl rfl ?_) | ((with_reducible refine ik_bin ?_); refine wo_op rfl (op_lss rfl rfl) rfl rfl ?_)) | with_reducible refine sq_norm ?_ | with_reducible refine wc_seq ?_ | with_reducible refine wc_region ?_ | with_reducible refine wc_ret ?_ | with_reducible refine wc_exit ?_ | with_reducible refine sq_exit ?_ | with_reducible refine lq_exit ?_ | refine bq_eq rfl ?_ | (refine wc_if rfl (fun hb => ?_) (fun hb => ?_) <;> (try simp only [decide_eq_true_eq, decide_eq_false_iff_not, Bool.not_eq_true', Bool.not_eq_false', Int.not_lt, Int.not_le, Decidable.not_not, not_true_eq_false, not_false_eq_true, beq_self_eq_true, reduceCtorEq] at hb) <;> (try (exfalso; omega))))
    exact rq1 rfl ⟨rfl, gr_A⟩
set_option maxHeartbeats 4000000 in
theorem c22 {v : Value} {n : Nat} {ps : List Pl} (s : Sl G h 4 v n (ps.flatMap Pl.cells)) (hl : ps.length = n) (hn : n < 1000000) (hw : Wf h) : Cf (mz G) (.func (.func 22) #[] #[]) [v] h fun r h' => Sl G h' 4 r n (ps.flatMap Pl.cells) ∧ Grow h h' := by
  obtain ⟨a, c, rfl⟩ := s.form
  refine cf_enter0 18 [.tmp 2] Tryz.func22 rfl rfl rfl rfl ?_
  repeat' (first | with_reducible refine wo_nil ?_ | ((with_reducible refine wo_any ?_); first | ((with_reducible refine ik_move ?_); refine wo_op rfl (op_move rfl) rfl rfl ?_) | ((with_reducible refine ik_assign ?_); refine wo_op rfl (op_assign rfl) rfl rfl ?_) | ((with_reducible refine ik_callb ?_); refine wo_op rfl (op_lenSl rfl Tryz.underlying38) rfl rfl ?_)) | with_reducible refine sq_norm ?_ | with_reducible refine wc_seq ?_ | with_reducible refine wc_region ?_ | with_reducible refine wc_block ?_)
  refine wc_loop (fun p : Nat × Value => n - p.1) (fun p => [(3, p.2), (6, .slice a n c), (7, .int .i64 n), (8, .int .i64 (p.1 : Nat))]) (fun p h' => (Wf h' ∧ Grow h h') ∧ p.1 ≤ n ∧ ((p.2 = .slice none 0 0 ∧ p.1 = 0) ∨ ∃ e, h.nx ≤ e ∧ p.2 = .slice (some ⟨e, 0, some 0⟩) p.1 p.1 ∧ At h' e (.cells ((ps.take p.1).flatMap Pl.cells) 126 4 true))) (0, .slice none 0 0) (within_lk ⟨rfl, rfl, rfl, rfl, trivial⟩) ⟨⟨wf_A, gr_A⟩, Nat.zero_le _, .inl ⟨rfl, rfl⟩⟩ ?_
  rintro ⟨k, v⟩ h1 ⟨⟨w1, g1⟩, hk, hv⟩
  simp only at hk hv ⊢
  have n1 := g1.nx
  by_cases hlt : k < n
  · obtain ⟨ad, i1, i3⟩ := slP_at (s.grow g1) hl Tryz.underlying38 zs81 (i := (k : Int)) hlt rfl
    obtain ⟨p, hp⟩ : ∃ p, ps[k]'(by omega) = p := ⟨_, rfl⟩
    have e1 : (ps.take (k + 1)).flatMap Pl.cells = (ps.take k).flatMap Pl.cells ++ p.cells := by
      rw [List.take_succ_eq_append_getElem (by omega), hp, List.flatMap_append]; simp
    rw [hp] at i3
    obtain ⟨x, y, z, t⟩ := p
    dsimp only [Pl.cells] at i3
    rcases hv with ⟨rfl, rfl⟩ | ⟨e, hb, rfl, hat⟩
    · repeat' (first | with_reducible refine wo_nil ?_ | ((with_reducible refine wo_any ?_); first | ((with_reducible refine ik_move ?_); refine wo_op rfl (op_move rfl) rfl rfl ?_) | ((with_reducible refine ik_assign ?_); refine wo_op rfl (op_assign rfl) rfl rfl ?_) | ((with_reducible refine ik_indexAddr ?_); refine wo_op rfl (op_indexAddr rfl rfl i1) rfl rfl ?_) | ((with_reducible refine ik_load ?_); first | refine wo_op rfl (op_ldLn rfl Tryz.underlying81 rfl zs81 (i3 _ gr_A).all) rfl rfl ?_ | refine wo_op rfl (op_ldAgg rfl at_A Tryz.underlying81 rfl zs81 rfl rfl) rfl rfl ?_) | ((with_reducible refine ik_callb ?_); refine wo_op rfl (op_append rfl rfl (append_nil_eq (M := mz G) (st := 47) (xt := 47) (m := 1) Tryz.underlying47 Tryz.underlying47 rfl zs126 zb126 zz126 rfl (Sl.ofAt at_A rfl (Nat.le_refl _)) rfl (by omega) (by omega))) rfl rfl ?_) | ((with_reducible refine ik_bin ?_); first | refine wo_op rfl (op_lss rfl rfl) rfl rfl ?_ | refine wo_op rfl (op_add' rfl rfl (w64 (by omega) (by omega))) rfl rfl ?_) | ((with_reducible refine ik_alloc ?_); refine wo_op rfl (op_alloc zz81 zs81 rfl rfl rfl) rfl rfl ?_) | ((with_reducible refine ik_store ?_); refine wo_op0 rfl (op_stAgg rfl rfl at_A zs81 rfl rfl rfl rfl) rfl ?_) | ((with_reducible refine ik_buildSlice ?_); refine wo_op rfl (op_buildSl rfl Tryz.underlying47 zs126 zz126 rfl rfl) rfl rfl ?_)) | with_reducible refine sq_norm ?_ | with_reducible refine wc_seq ?_ | with_reducible refine wc_region ?_ | with_reducible refine wc_skip ?_ | with_reducible refine wc_block ?_ | with_reducible refine bq_norm ?_ | (refine wc_if rfl (fun hb => ?_) (fun hb => dead_A hb); (try simp only [decide_eq_true_eq, decide_eq_false_iff_not, Bool.not_eq_true', Bool.not_eq_false', Int.not_lt, Int.not_le, Decidable.not_not, not_true_eq_false, not_false_eq_true, beq_self_eq_true, reduceCtorEq] at hb)))
      exact lq_norm (0 + 1, .slice (some ⟨_, 0, some 0⟩) (0 + 1) (0 + 1)) (by simp only; omega) (within_lk ⟨rfl, rfl, rfl, rfl, trivial⟩) ⟨⟨wf_A, gr_A⟩, by simp only; omega, .inr ⟨_, by simp only [H.nx_push, H.nx_set, H.nx_bump, H.nx_kill]; omega, rfl, by simp only; rw [e1]; exact at_A⟩⟩
    · have l1 := hat.lt
      repeat' (first | with_reducible refine wo_nil ?_ | ((with_reducible refine wo_any ?_); first | ((with_reducible refine ik_move ?_); refine wo_op rfl (op_move rfl) rfl rfl ?_) | ((with_reducible refine ik_assign ?_); refine wo_op rfl (op_assign rfl) rfl rfl ?_) | ((with_reducible refine ik_indexAddr ?_); refine wo_op rfl (op_indexAddr rfl rfl i1) rfl rfl ?_) | ((with_reducible refine ik_load ?_); first | refine wo_op rfl (op_ldLn rfl Tryz.underlying81 rfl zs81 (i3 _ gr_A).all) rfl rfl ?_ | refine wo_op rfl (op_ldAgg rfl at_A Tryz.underlying81 rfl zs81 rfl rfl) rfl rfl ?_) | ((with_reducible refine ik_callb ?_); refine wo_op rfl (op_append rfl rfl (append_own_eq (M := mz G) (st := 47) (xt := 47) (m := 1) Tryz.underlying47 Tryz.underlying47 rfl zs126 zb126 zz126 rfl (Sl.ofAt at_A rfl (Nat.le_refl _)) rfl (b := e) (c := (ps.take k).flatMap Pl.cells) at_A (by rw [flat_lenP, List.length_take]; omega) (by omega) (by omega))) rfl rfl ?_) | ((with_reducible refine ik_bin ?_); first | refine wo_op rfl (op_lss rfl rfl) rfl rfl ?_ | refine wo_op rfl (op_add' rfl rfl (w64 (by omega) (by omega))) rfl rfl ?_) | ((with_reducible refine ik_alloc ?_); refine wo_op rfl (op_alloc zz81 zs81 rfl rfl rfl) rfl rfl ?_) | ((with_reducible refine ik_store ?_); refine wo_op0 rfl (op_stAgg rfl rfl at_A zs81 rfl rfl rfl rfl) rfl ?_) | ((with_reducible refine ik_buildSlice ?_); refine wo_op rfl (op_buildSl rfl Tryz.underlying47 zs126 zz126 rfl rfl) rfl rfl ?_)) | with_reducible refine sq_norm ?_ | with_reducible refine wc_seq ?_ | with_reducible refine wc_region ?_ | with_reducible refine wc_skip ?_ | with_reducible refine wc_block ?_ | with_reducible refine bq_norm ?_ | (refine wc_if rfl (fun hb => ?_) (fun hb => dead_A hb); (try simp only [decide_eq_true_eq, decide_eq_false_iff_not, Bool.not_eq_true', Bool.not_eq_false', Int.not_lt, Int.not_le, Decidable.not_not, not_true_eq_false, not_false_eq_true, beq_self_eq_true, reduceCtorEq] at hb)))
      exact lq_norm (k + 1, .slice (some ⟨_, 0, some 0⟩) (k + 1) (k + 1)) (by simp only; omega) (within_lk ⟨rfl, rfl, rfl, rfl, trivial⟩) ⟨⟨wf_A, gr_A⟩, by simp only; omega, .inr ⟨_, by simp only [H.nx_push, H.nx_set, H.nx_bump, H.nx_kill]; omega, rfl, by simp only; rw [e1]; exact at_A⟩⟩
  · have hkn : k = n := by omega
    subst hkn
    rw [show ps.take k = ps by rw [List.take_of_length_le (by omega)]] at hv
    repeat' (first | with_reducible refine wo_nil ?_ | ((with_reducible refine wo_any ?_); first | ((with_reducible refine ik_move ?_); refine wo_op rfl (op_move rfl) rfl rfl ?_) | ((with_reducible refine ik_assign ?_); refine wo_op rfl (op_assign rfl) rfl rfl ?_) | ((with_reducible refine ik_bin ?_); refine wo_op rfl (op_lss rfl rfl) rfl rfl ?_)) | with_reducible refine sq_norm ?_ | with_reducible refine wc_seq ?_ | with_reducible refine wc_region ?_ | with_reducible refine wc_ret ?_ | with_reducible refine wc_exit ?_ | with_reducible refine sq_exit ?_ | with_reducible refine lq_exit ?_ | refine bq_eq rfl ?_ | (refine wc_if rfl (fun hb => ?_) (fun hb => ?_) <;> (try simp only [decide_eq_true_eq, decide_eq_false_iff_not, Bool.not_eq_true', Bool.not_eq_false', Int.not_lt, Int.not_le, Decidable.not_not, not_true_eq_false, not_false_eq_true, beq_self_eq_true, reduceCtorEq] at hb) <;> (try (exfalso; omega))))
    refine rq1 rfl ⟨?_, gr_A⟩
    rcases hv with ⟨rfl, rfl⟩ | ⟨e, hb, rfl, hat⟩
    · have htn : ps = [] := by simpa using hl
      subst htn
      exact .nil
    · exact Sl.ofAt hat (by rw [flat_lenP, hl]) (Nat.le_refl _)
end Go.Proofs.YtnkmencbnoipmaaGreatDoor

/- The places of a line by the reference. -/
namespace Go.Proofs.YtnkmencbnoipmaaGreatDoor
open Go Go.Ab Go.Fl
attribute [local irreducible] SeqQ BlkQ LpQ RetQ Wc Wo WD WX Op1 Op1q Op1a Cf Cl From
attribute [local irreducible] Ieee.Format.order Ieee.Format.read Ieee.Format.nearest Ieee.Format.write Ieee.Format.mul Ieee.Format.div Ieee.Format.sqrt Ieee.Datum.order Ieee.Datum.integral K U rngE errN cntE cmpI indE ptE plaE firstNZ numsE lnE BigP isNameB nmE ascA errL chgV chgE
set_option maxRecDepth 10000
variable {G : Base} {h : H}

def plAt (x y tx ty nx ny px py : Int) (i k : Nat) : Pl := ⟨x + (i : Int) * tx, y + (i : Int) * ty, x + (i : Int) * tx + 1 * nx + (k : Int) * px, y + (i : Int) * ty + 1 * ny + (k : Int) * py⟩
def rowP (x y tx ty nx ny px py : Int) (rf : List Int) (ch i : Nat) : List Pl := if decide ((i : Int) ∈ rf) = true then [] else (List.range ch).map (plAt x y tx ty nx ny px py i)
def plsP (x y tx ty nx ny px py : Int) (rf : List Int) (ch i : Nat) : List Pl := (List.range i).flatMap (rowP x y tx ty nx ny px py rf ch)
theorem rowP_in {x y tx ty nx ny px py : Int} {rf : List Int} {ch i : Nat} (q : decide ((i : Int) ∈ rf) = true) : rowP x y tx ty nx ny px py rf ch i = [] := if_pos q
theorem rowP_out {x y tx ty nx ny px py : Int} {rf : List Int} {ch i : Nat} (q : decide ((i : Int) ∈ rf) = false) : rowP x y tx ty nx ny px py rf ch i = (List.range ch).map (plAt x y tx ty nx ny px py i) := if_neg (by rw [q]; decide)
theorem plsP_next {x y tx ty nx ny px py : Int} {rf : List Int} {ch i : Nat} : plsP x y tx ty nx ny px py rf ch (i + 1) = plsP x y tx ty nx ny px py rf ch i ++ rowP x y tx ty nx ny px py rf ch i := by
  unfold plsP; rw [List.range_succ, List.flatMap_append]; simp
theorem rowP_len {x y tx ty nx ny px py : Int} {rf : List Int} {ch i : Nat} : (rowP x y tx ty nx ny px py rf ch i).length ≤ ch := by
  unfold rowP; split <;> simp
theorem plsP_len {x y tx ty nx ny px py : Int} {rf : List Int} {ch : Nat} : ∀ i, (plsP x y tx ty nx ny px py rf ch i).length ≤ i * ch
  | 0 => by simp [plsP]
  | i + 1 => by
    rw [plsP_next, List.length_append, Nat.succ_mul]
    have := plsP_len (x := x) (y := y) (tx := tx) (ty := ty) (nx := nx) (ny := ny) (px := px) (py := py) (rf := rf) (ch := ch) i
    have := rowP_len (x := x) (y := y) (tx := tx) (ty := ty) (nx := nx) (ny := ny) (px := px) (py := py) (rf := rf) (ch := ch) (i := i)
    omega
/-- A list of places that grows. -/
def OutQ (lo : Nat) (h' : H) (v : Value) (out : List Pl) : Prop := (v = .slice none 0 0 ∧ out = []) ∨ ∃ e, lo ≤ e ∧ v = .slice (some ⟨e, 0, some 0⟩) out.length out.length ∧ At h' e (.cells (out.flatMap Pl.cells) 126 4 true)
theorem OutQ.sl {lo : Nat} {v : Value} {out : List Pl} (q : OutQ lo h v out) : Sl G h 4 v out.length (out.flatMap Pl.cells) := by
  rcases q with ⟨rfl, rfl⟩ | ⟨e, _, rfl, hat⟩
  · exact .nil
  · exact Sl.ofAt hat (flat_lenP _) (Nat.le_refl _)
theorem OutQ.grow {lo : Nat} {h h' : H} {v : Value} {out : List Pl} (q : OutQ lo h v out) (g : Grow h h') : OutQ lo h' v out := by
  rcases q with q | ⟨e, h1, h2, hat⟩
  · exact .inl q
  · exact .inr ⟨e, h1, h2, hat.grow g⟩
set_option maxHeartbeats 8000000 in
theorem c19 {nm : ByteArray} {x y tx ty nx ny px py : Int} {sh ch : Nat} {a : Option Addr} {n c : Nat} {rf : List Int} (s : Sl G h 1 (.slice a n c) n (rf.map (.int .i64))) (hn : n < 1000000) (bd : LnOk x y tx ty nx ny px py sh ch) (hw : Wf h) : Cf (mz G) (.func (.func 19) #[] #[]) [.agg ⟨lnC nm x y tx ty sh nx ny px py ch a n c⟩] h fun r h' => Sl G h' 4 r (plsP x y tx ty nx ny px py rf ch sh).length ((plsP x y tx ty nx ny px py rf ch sh).flatMap Pl.cells) ∧ Grow h h' := by
  have hS := bd.hS
  have hC := bd.hC
  refine cf_enter0 34 [.tmp 2] Tryz.func19 rfl rfl rfl rfl ?_
  repeat' (first | with_reducible refine wo_nil ?_ | ((with_reducible refine wo_any ?_); first | ((with_reducible refine ik_assign ?_); refine wo_op rfl (op_assign rfl) rfl rfl ?_) | ((with_reducible refine ik_box ?_); refine wo_op rfl (op_boxAgg rfl zs45 rfl) rfl rfl ?_)) | with_reducible refine sq_norm ?_ | with_reducible refine wc_seq ?_ | with_reducible refine wc_region ?_ | with_reducible refine wc_block ?_)
  refine wc_loop (fun p : Nat × Value => sh - p.1) (fun p => [(1, .pointer (some ⟨h.nx, 0, some 0⟩)), (3, p.2), (4, .int .i64 (p.1 : Nat))]) (fun p h' => (Wf h' ∧ Grow h h' ∧ At h' h.nx (.cells (lnC nm x y tx ty sh nx ny px py ch a n c) 45 12 false)) ∧ p.1 ≤ sh ∧ OutQ (h.nx + 1) h' p.2 (plsP x y tx ty nx ny px py rf ch p.1)) (0, .slice none 0 0) (within_lk ⟨rfl, rfl, rfl, trivial⟩) ⟨⟨wf_A, gr_A, at_A⟩, Nat.zero_le _, .inl ⟨rfl, rfl⟩⟩ ?_
  rintro ⟨i, v⟩ h1 ⟨⟨w1, g1, a1⟩, hi, hv⟩
  simp only at hi hv ⊢
  have n1 := g1.nx
  have l1 := a1.lt
  by_cases hlt : i < sh
  · have nxt := plsP_next (x := x) (y := y) (tx := tx) (ty := ty) (nx := nx) (ny := ny) (px := px) (py := py) (rf := rf) (ch := ch) (i := i)
    have q49 := fun (h' : H) (g : Grow h h') => c49 (z := (i : Int)) (s.grow g) hn
    have hlen := plsP_len (x := x) (y := y) (tx := tx) (ty := ty) (nx := nx) (ny := ny) (px := px) (py := py) (rf := rf) (ch := ch) i
    have hb : i * ch ≤ 64 * 16 := Nat.mul_le_mul (by omega) (by omega)
    cases hin : decide ((i : Int) ∈ rf) with
    | true =>
      rw [rowP_in hin, List.append_nil] at nxt
      rw [hin] at q49
      clear hin hlen hb
      rw [← nxt] at hv
      repeat' (first | with_reducible refine wo_nil ?_ | ((with_reducible refine wo_any ?_); first | ((with_reducible refine ik_move ?_); refine wo_op rfl (op_move rfl) rfl rfl ?_) | ((with_reducible refine ik_assign ?_); refine wo_op rfl (op_assign rfl) rfl rfl ?_) | ((with_reducible refine ik_fieldAddr ?_); first | refine wo_op rfl (op_fieldAddr (o := 5) rfl Tryz.underlying45 rfl zs3 rfl) rfl rfl ?_ | refine wo_op rfl (op_fieldAddr (o := 11) rfl Tryz.underlying45 rfl zs41 rfl) rfl rfl ?_) | ((with_reducible refine ik_load ?_); first | refine wo_op rfl (op_ldAt rfl at_A Tryz.underlying3 rfl rfl) rfl rfl ?_ | refine wo_op rfl (op_ldAt rfl at_A Tryz.underlying41 rfl rfl) rfl rfl ?_) | ((with_reducible refine ik_bin ?_); first | refine wo_op rfl (op_lss rfl rfl) rfl rfl ?_ | refine wo_op rfl (op_add' rfl rfl (w64 (by omega) (by omega))) rfl rfl ?_) | ((with_reducible refine ik_callv ?_); refine wo_op rfl (op_call rfl rfl (q49 _ gr_A)) rfl rfl ?_)) | with_reducible refine sq_norm ?_ | with_reducible refine wc_seq ?_ | with_reducible refine wc_region ?_ | with_reducible refine wc_skip ?_ | with_reducible refine wc_exit ?_ | with_reducible refine wc_block ?_ | with_reducible refine sq_exit ?_ | refine bq_eq rfl ?_ | refine wc_ift rfl ?_ | (refine wc_if rfl (fun hb => ?_) (fun hb => dead_A hb); (try simp only [decide_eq_true_eq, decide_eq_false_iff_not, Bool.not_eq_true', Bool.not_eq_false', Int.not_lt, Int.not_le, Decidable.not_not, not_true_eq_false, not_false_eq_true, beq_self_eq_true, reduceCtorEq] at hb)))
      exact lq_norm (i + 1, v) (by simp only; omega) (within_lk ⟨rfl, rfl, rfl, trivial⟩) ⟨⟨wf_A, gr_A, at_A⟩, by simp only; omega, by simp only; exact hv⟩
    | false =>
      rw [rowP_out hin] at nxt
      rw [hin] at q49
      clear hin
      obtain ⟨base, hbase⟩ : ∃ l, plsP x y tx ty nx ny px py rf ch i = l := ⟨_, rfl⟩
      rw [hbase] at nxt hlen hv
      have q75 := fun (h' : H) (w' : Wf h') => c75b (G := G) (h := h') (nm := nm) (a := a) (n := n) (c := c) (i := i) bd hlt w'
      repeat' (first | with_reducible refine wo_nil ?_ | ((with_reducible refine wo_any ?_); first | ((with_reducible refine ik_move ?_); refine wo_op rfl (op_move rfl) rfl rfl ?_) | ((with_reducible refine ik_assign ?_); refine wo_op rfl (op_assign rfl) rfl rfl ?_) | ((with_reducible refine ik_fieldAddr ?_); first | refine wo_op rfl (op_fieldAddr (o := 5) rfl Tryz.underlying45 rfl zs3 rfl) rfl rfl ?_ | refine wo_op rfl (op_fieldAddr (o := 11) rfl Tryz.underlying45 rfl zs41 rfl) rfl rfl ?_) | ((with_reducible refine ik_load ?_); first | refine wo_op rfl (op_ldAt rfl at_A Tryz.underlying3 rfl rfl) rfl rfl ?_ | refine wo_op rfl (op_ldAt rfl at_A Tryz.underlying41 rfl rfl) rfl rfl ?_) | ((with_reducible refine ik_bin ?_); refine wo_op rfl (op_lss rfl rfl) rfl rfl ?_) | ((with_reducible refine ik_callv ?_); refine wo_op rfl (op_call rfl rfl (q49 _ gr_A)) rfl rfl ?_)) | with_reducible refine sq_norm ?_ | with_reducible refine wc_seq ?_ | with_reducible refine wc_region ?_ | with_reducible refine wc_skip ?_ | with_reducible refine wc_block ?_ | refine wc_iff rfl ?_ | (refine wc_if rfl (fun hb => ?_) (fun hb => dead_A hb); (try simp only [decide_eq_true_eq, decide_eq_false_iff_not, Bool.not_eq_true', Bool.not_eq_false', Int.not_lt, Int.not_le, Decidable.not_not, not_true_eq_false, not_false_eq_true, beq_self_eq_true, reduceCtorEq] at hb)))
      refine wc_loop (fun p : Nat × Value => ch - p.1) (fun p => [(1, .pointer (some ⟨h.nx, 0, some 0⟩)), (3, p.2), (4, .int .i64 (i : Nat)), (5, .int .i64 (p.1 : Nat))]) (fun p h' => (Wf h' ∧ Grow h h' ∧ At h' h.nx (.cells (lnC nm x y tx ty sh nx ny px py ch a n c) 45 12 false)) ∧ p.1 ≤ ch ∧ OutQ (h.nx + 1) h' p.2 (base ++ (List.range p.1).map (plAt x y tx ty nx ny px py i))) (0, v) (within_lk ⟨rfl, rfl, rfl, rfl, trivial⟩) ⟨⟨wf_A, gr_A, at_A⟩, Nat.zero_le _, by simp only [List.range_zero, List.map_nil, List.append_nil]; exact hv.grow gr_A⟩ ?_
      clear hv
      rintro ⟨k, v⟩ h2 ⟨⟨w2, g2, a2⟩, hk, hv⟩
      simp only at hk hv ⊢
      have n2 := g2.nx
      have l2 := a2.lt
      by_cases hkt : k < ch
      · have q76 := fun (h' : H) (w' : Wf h') => c76 (G := G) (h := h') (nm := nm) (a := a) (n := n) (c := c) bd hlt hkt w'
        have nk : base ++ (List.range (k + 1)).map (plAt x y tx ty nx ny px py i) = (base ++ (List.range k).map (plAt x y tx ty nx ny px py i)) ++ [plAt x y tx ty nx ny px py i k] := by
          rw [List.range_succ, List.map_append, List.append_assoc]; rfl
        have hol : (base ++ (List.range k).map (plAt x y tx ty nx ny px py i)).length ≤ 2000 := by simp; omega
        obtain ⟨out, hout⟩ : ∃ l, base ++ (List.range k).map (plAt x y tx ty nx ny px py i) = l := ⟨_, rfl⟩
        rw [hout] at hv nk hol
        obtain ⟨P, hP⟩ : ∃ P, plAt x y tx ty nx ny px py i k = P := ⟨_, rfl⟩
        rw [hP] at nk
        unfold plAt at hP
        clear nxt hbase hout
        generalize x + (i : Int) * tx = X at q75 q76 hP
        generalize y + (i : Int) * ty = Y at q75 q76 hP
        generalize X + 1 * nx + (k : Int) * px = U at q76 hP
        generalize Y + 1 * ny + (k : Int) * py = V at q76 hP
        subst hP
        rcases hv with ⟨rfl, rfl⟩ | ⟨e, he, rfl, hat⟩
        · repeat' (first | with_reducible refine wo_nil ?_ | ((with_reducible refine wo_any ?_); first | ((with_reducible refine ik_move ?_); refine wo_op rfl (op_move rfl) rfl rfl ?_) | ((with_reducible refine ik_assign ?_); refine wo_op rfl (op_assign rfl) rfl rfl ?_) | ((with_reducible refine ik_fieldAddr ?_); refine wo_op rfl (op_fieldAddr (o := 10) rfl Tryz.underlying45 rfl zs3 rfl) rfl rfl ?_) | ((with_reducible refine ik_load ?_); refine wo_op rfl (op_ldAt rfl at_A Tryz.underlying3 rfl rfl) rfl rfl ?_) | ((with_reducible refine ik_bin ?_); first | refine wo_op rfl (op_lss rfl rfl) rfl rfl ?_ | refine wo_op rfl (op_add' rfl rfl (w64 (by omega) (by omega))) rfl rfl ?_)) | ((with_reducible refine xk_any ?_); first | ((with_reducible refine xk_as0 ?_); first | ((with_reducible refine xk_move ?_); refine wx_q (wt_none rfl) rfl rfl (op_q rfl (op_move rfl)) rfl rfl rfl ?_) | ((with_reducible refine xk_load ?_); refine wx_h0 (wt_none rfl) rfl (op_q rfl (op_ldAgg rfl at_A Tryz.underlying45 rfl zs45 rfl rfl)) rfl rfl rfl ?_) | ((with_reducible refine xk_build ?_); refine wx_q (wt_none rfl) rfl rfl (op_q rfl (op_buildT rfl zz126 zp126 rfl rfl)) rfl rfl rfl ?_) | ((with_reducible refine xk_buildSlice ?_); refine wx_a0 (wt_none rfl) rfl (oa_buildSlice rfl Tryz.underlying47 zs126 zz126 rfl rfl) rfl rfl ?_) | ((with_reducible refine xk_callv ?_); first | (refine wx_call0 (wt_none rfl) rfl rfl rfl rfl (q75 _ wf_A) rfl rfl ?_; rintro _ _ ⟨rfl, hq⟩; all_goals ((try (have hqn := hq.nx)); (try simp only [H.nx_push, H.nx_set, H.nx_bump] at hqn))) | (refine wx_call0 (wt_none rfl) rfl rfl rfl rfl (q76 _ wf_A) rfl rfl ?_; rintro _ _ ⟨rfl, hq⟩; all_goals ((try (have hqn := hq.nx)); (try simp only [H.nx_push, H.nx_set, H.nx_bump] at hqn))))) | ((with_reducible refine xk_assign ?_); refine wx_q (wt_none rfl) rfl rfl (op_q rfl (op_assign rfl)) rfl rfl rfl ?_) | ((with_reducible refine xk_callb ?_); ((with_reducible refine xk_as1 ?_); refine wx_e1 (wt_none rfl) rfl rfl rfl (op_append rfl rfl (append_nil_eq (M := mz G) (st := 47) (xt := 47) (m := 1) Tryz.underlying47 Tryz.underlying47 rfl zs126 zb126 zz126 rfl (Sl.ofAt at_A rfl (Nat.le_refl _)) rfl (by omega) (by omega))) rfl rfl ?_)) | refine wx_niln ?_ ?_ rfl rfl ?_) | with_reducible exact obl_nil | with_reducible refine obl_cons ?_ ?_ | ((with_reducible refine ik_obs ?_); first | exact obs_nil | refine obs_skip rfl ?_ | refine obs_chkn rfl rfl (op_q rfl (op_ldAgg rfl at_A Tryz.underlying45 rfl zs45 (by rfl) rfl)) ?_) | with_reducible exact stk_nil | with_reducible refine stk_cons ?_ ?_ | ((with_reducible refine ik_stk ?_); first | exact stk_abs rfl rfl | exact stk_freeB rfl rfl wf_A gr_B) | with_reducible refine sq_norm ?_ | with_reducible refine wc_seq ?_ | with_reducible refine wc_region ?_ | with_reducible refine wc_skip ?_ | with_reducible refine wc_block ?_ | with_reducible refine bq_norm ?_ | (refine wc_if rfl (fun hb => ?_) (fun hb => dead_A hb); (try simp only [decide_eq_true_eq, decide_eq_false_iff_not, Bool.not_eq_true', Bool.not_eq_false', Int.not_lt, Int.not_le, Decidable.not_not, not_true_eq_false, not_false_eq_true, beq_self_eq_true, reduceCtorEq] at hb)) | refine wc_drawB (id := 9) 12 [0, 0, 0, 6, 0, 0, 0, 126, 254, 510, 1023, 2047] [0, 1, 2, 3, 4, 5, 6, 7, 8, 9, 10, 11] (by kernel_rfl) (by kernel_rfl) rfl rfl ?_)
          exact lq_norm (k + 1, .slice (some ⟨_, 0, some 0⟩) 1 1) (by simp only; omega) (within_lk ⟨rfl, rfl, rfl, rfl, trivial⟩) ⟨⟨wf_A, gr_A, at_A⟩, by simp only; omega, by simp only; rw [nk]; exact .inr ⟨_, by simp only [H.nx_push, H.nx_set, H.nx_bump, H.nx_kill]; omega, rfl, at_A⟩⟩
        · have l3 := hat.lt
          repeat' (first | with_reducible refine wo_nil ?_ | ((with_reducible refine wo_any ?_); first | ((with_reducible refine ik_move ?_); refine wo_op rfl (op_move rfl) rfl rfl ?_) | ((with_reducible refine ik_assign ?_); refine wo_op rfl (op_assign rfl) rfl rfl ?_) | ((with_reducible refine ik_fieldAddr ?_); refine wo_op rfl (op_fieldAddr (o := 10) rfl Tryz.underlying45 rfl zs3 rfl) rfl rfl ?_) | ((with_reducible refine ik_load ?_); refine wo_op rfl (op_ldAt rfl at_A Tryz.underlying3 rfl rfl) rfl rfl ?_) | ((with_reducible refine ik_bin ?_); first | refine wo_op rfl (op_lss rfl rfl) rfl rfl ?_ | refine wo_op rfl (op_add' rfl rfl (w64 (by omega) (by omega))) rfl rfl ?_)) | ((with_reducible refine xk_any ?_); first | ((with_reducible refine xk_as0 ?_); first | ((with_reducible refine xk_move ?_); refine wx_q (wt_none rfl) rfl rfl (op_q rfl (op_move rfl)) rfl rfl rfl ?_) | ((with_reducible refine xk_load ?_); refine wx_h0 (wt_none rfl) rfl (op_q rfl (op_ldAgg rfl at_A Tryz.underlying45 rfl zs45 rfl rfl)) rfl rfl rfl ?_) | ((with_reducible refine xk_build ?_); refine wx_q (wt_none rfl) rfl rfl (op_q rfl (op_buildT rfl zz126 zp126 rfl rfl)) rfl rfl rfl ?_) | ((with_reducible refine xk_buildSlice ?_); refine wx_a0 (wt_none rfl) rfl (oa_buildSlice rfl Tryz.underlying47 zs126 zz126 rfl rfl) rfl rfl ?_) | ((with_reducible refine xk_callv ?_); first | (refine wx_call0 (wt_none rfl) rfl rfl rfl rfl (q75 _ wf_A) rfl rfl ?_; rintro _ _ ⟨rfl, hq⟩; all_goals ((try (have hqn := hq.nx)); (try simp only [H.nx_push, H.nx_set, H.nx_bump] at hqn))) | (refine wx_call0 (wt_none rfl) rfl rfl rfl rfl (q76 _ wf_A) rfl rfl ?_; rintro _ _ ⟨rfl, hq⟩; all_goals ((try (have hqn := hq.nx)); (try simp only [H.nx_push, H.nx_set, H.nx_bump] at hqn))))) | ((with_reducible refine xk_assign ?_); refine wx_q (wt_none rfl) rfl rfl (op_q rfl (op_assign rfl)) rfl rfl rfl ?_) | ((with_reducible refine xk_callb ?_); ((with_reducible refine xk_as1 ?_); refine wx_e1 (wt_none rfl) rfl rfl rfl (op_append rfl rfl (append_own_eq (M := mz G) (st := 47) (xt := 47) (m := 1) Tryz.underlying47 Tryz.underlying47 rfl zs126 zb126 zz126 rfl (Sl.ofAt at_A rfl (Nat.le_refl _)) rfl (b := e) (c := out.flatMap Pl.cells) at_A (flat_lenP _) (by omega) (by omega))) rfl rfl ?_)) | refine wx_niln ?_ ?_ rfl rfl ?_) | with_reducible exact obl_nil | with_reducible refine obl_cons ?_ ?_ | ((with_reducible refine ik_obs ?_); first | exact obs_nil | refine obs_skip rfl ?_ | refine obs_chkn rfl rfl (op_q rfl (op_ldAgg rfl at_A Tryz.underlying45 rfl zs45 (by rfl) rfl)) ?_) | with_reducible exact stk_nil | with_reducible refine stk_cons ?_ ?_ | ((with_reducible refine ik_stk ?_); first | exact stk_abs rfl rfl | exact stk_freeB rfl rfl wf_A gr_B) | with_reducible refine sq_norm ?_ | with_reducible refine wc_seq ?_ | with_reducible refine wc_region ?_ | with_reducible refine wc_skip ?_ | with_reducible refine wc_block ?_ | with_reducible refine bq_norm ?_ | (refine wc_if rfl (fun hb => ?_) (fun hb => dead_A hb); (try simp only [decide_eq_true_eq, decide_eq_false_iff_not, Bool.not_eq_true', Bool.not_eq_false', Int.not_lt, Int.not_le, Decidable.not_not, not_true_eq_false, not_false_eq_true, beq_self_eq_true, reduceCtorEq] at hb)) | refine wc_drawB (id := 9) 12 [0, 0, 0, 6, 0, 0, 0, 126, 254, 510, 1023, 2047] [0, 1, 2, 3, 4, 5, 6, 7, 8, 9, 10, 11] (by kernel_rfl) (by kernel_rfl) rfl rfl ?_)
          exact lq_norm (k + 1, .slice (some ⟨_, 0, some 0⟩) (out.length + 1) (out.length + 1)) (by simp only; omega) (within_lk ⟨rfl, rfl, rfl, rfl, trivial⟩) ⟨⟨wf_A, gr_A, at_A⟩, by simp only; omega, by simp only; rw [nk]; refine .inr ⟨_, ?_, by rw [List.length_append]; rfl, by rw [List.flatMap_append]; exact at_A⟩; simp only [H.nx_push, H.nx_set, H.nx_bump, H.nx_kill]; omega⟩
      · have hkn : k = ch := by omega
        subst hkn
        rw [← nxt] at hv
        repeat' (first | with_reducible refine wo_nil ?_ | ((with_reducible refine wo_any ?_); first | ((with_reducible refine ik_move ?_); refine wo_op rfl (op_move rfl) rfl rfl ?_) | ((with_reducible refine ik_assign ?_); refine wo_op rfl (op_assign rfl) rfl rfl ?_) | ((with_reducible refine ik_fieldAddr ?_); refine wo_op rfl (op_fieldAddr (o := 10) rfl Tryz.underlying45 rfl zs3 rfl) rfl rfl ?_) | ((with_reducible refine ik_load ?_); refine wo_op rfl (op_ldAt rfl at_A Tryz.underlying3 rfl rfl) rfl rfl ?_) | ((with_reducible refine ik_bin ?_); first | refine wo_op rfl (op_lss rfl rfl) rfl rfl ?_ | refine wo_op rfl (op_add' rfl rfl (w64 (by omega) (by omega))) rfl rfl ?_)) | with_reducible refine sq_norm ?_ | with_reducible refine wc_seq ?_ | with_reducible refine wc_region ?_ | with_reducible refine wc_exit ?_ | with_reducible refine bq_norm ?_ | with_reducible refine sq_exit ?_ | with_reducible refine lq_exit ?_ | refine bq_eq rfl ?_ | (refine wc_if rfl (fun hb => ?_) (fun hb => ?_) <;> (try simp only [decide_eq_true_eq, decide_eq_false_iff_not, Bool.not_eq_true', Bool.not_eq_false', Int.not_lt, Int.not_le, Decidable.not_not, not_true_eq_false, not_false_eq_true, beq_self_eq_true, reduceCtorEq] at hb) <;> (try (exfalso; omega))))
        exact lq_norm (i + 1, v) (by simp only; omega) (within_lk ⟨rfl, rfl, rfl, trivial⟩) ⟨⟨wf_A, gr_A, at_A⟩, by simp only; omega, by simp only; exact hv⟩
  · have hin : i = sh := by omega
    subst hin
    repeat' (first | with_reducible refine wo_nil ?_ | ((with_reducible refine wo_any ?_); first | ((with_reducible refine ik_move ?_); refine wo_op rfl (op_move rfl) rfl rfl ?_) | ((with_reducible refine ik_assign ?_); refine wo_op rfl (op_assign rfl) rfl rfl ?_) | ((with_reducible refine ik_fieldAddr ?_); refine wo_op rfl (op_fieldAddr (o := 5) rfl Tryz.underlying45 rfl zs3 rfl) rfl rfl ?_) | ((with_reducible refine ik_load ?_); refine wo_op rfl (op_ldAt rfl at_A Tryz.underlying3 rfl rfl) rfl rfl ?_) | ((with_reducible refine ik_bin ?_); refine wo_op rfl (op_lss rfl rfl) rfl rfl ?_)) | with_reducible refine sq_norm ?_ | with_reducible refine wc_seq ?_ | with_reducible refine wc_region ?_ | with_reducible refine wc_ret ?_ | with_reducible refine wc_exit ?_ | with_reducible refine sq_exit ?_ | with_reducible refine lq_exit ?_ | refine bq_eq rfl ?_ | (refine wc_if rfl (fun hb => ?_) (fun hb => ?_) <;> (try simp only [decide_eq_true_eq, decide_eq_false_iff_not, Bool.not_eq_true', Bool.not_eq_false', Int.not_lt, Int.not_le, Decidable.not_not, not_true_eq_false, not_false_eq_true, beq_self_eq_true, reduceCtorEq] at hb) <;> (try (exfalso; omega))))
    exact rq1 rfl ⟨hv.sl, gr_A⟩
end Go.Proofs.YtnkmencbnoipmaaGreatDoor
