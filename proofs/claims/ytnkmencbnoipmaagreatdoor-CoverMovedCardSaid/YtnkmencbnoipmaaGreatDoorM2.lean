/- Cover: numbers in lists, short lists, places by the reference. -/
import Derived.Test.YtnkmencbnoipmaaGreatDoorM1
import Derived.Test.YtnkmencbnoipmaaGreatDoorC5
set_option linter.all false
/- Numbers in lists; what is short. -/
namespace Go.Proofs.YtnkmencbnoipmaaGreatDoor
open Go Go.Ab Go.Fl
attribute [local irreducible] SeqQ BlkQ LpQ RetQ Wc Wo WD WX Op1 Op1q Op1a Cf Cl From
attribute [local irreducible] Ieee.Format.order Ieee.Format.read Ieee.Format.nearest Ieee.Format.write Ieee.Format.mul Ieee.Format.div Ieee.Format.sqrt Ieee.Datum.order Ieee.Datum.integral K U rngE errN cntE cmpI indE ptE plaE firstNZ numsE lnE BigP isNameB nmE ascA errL chgV chgE
set_option maxRecDepth 10000
variable {G : Base} {h : H}

theorem bool_or (b : Bool) : Value.bool b = .bool true ∨ Value.bool b = .bool false := by cases b <;> simp
theorem not_in {l : List Int} {z : Int} (h : ∀ j, j < l.length → l.getD j 0 ≠ z) : decide (z ∈ l) = false := decide_eq_false fun q => by
  obtain ⟨j, hj, e⟩ := List.getElem_of_mem q
  exact h j hj (by rw [← getElem_getD hj]; exact e)
theorem is_in {l : List Int} {z : Int} {j : Nat} (hj : j < l.length) (e : l.getD j 0 = z) : decide (z ∈ l) = true := decide_eq_true (by rw [← e, ← getElem_getD hj]; exact List.getElem_mem hj)
theorem c170 {v : Value} {n : Nat} {l : List Int} {z : Int} (s : Sl G h 1 v n (l.map (.int .i64))) (hn : n < 1000000) : Cf (mz G) (.func (.func 170) #[] #[]) [v, .int .i64 z] h fun r h' => (∃ i : Int, r = .int .i64 i ∧ decide (0 ≤ i) = decide (z ∈ l)) ∧ h' = h := by
  obtain ⟨a, c, rfl⟩ := s.form
  have hl := s.length
  simp at hl
  refine cf_enter0 19 [.tmp 4] Tryz.func170 rfl rfl rfl rfl ?_
  repeat' (first | with_reducible refine wo_nil ?_ | ((with_reducible refine wo_any ?_); first | ((with_reducible refine ik_move ?_); refine wo_op rfl (op_move rfl) rfl rfl ?_) | ((with_reducible refine ik_assign ?_); refine wo_op rfl (op_assign rfl) rfl rfl ?_) | ((with_reducible refine ik_callb ?_); refine wo_op rfl (op_lenSl rfl Tryz.underlying41) rfl rfl ?_)) | with_reducible refine sq_norm ?_ | with_reducible refine wc_seq ?_ | with_reducible refine wc_region ?_ | with_reducible refine wc_block ?_)
  refine wc_loop (fun k => n - k) (fun k : Nat => [(0, .slice a n c), (1, .int .i64 z), (7, .int .i64 n), (8, .int .i64 k)]) (fun k h' => h' = h ∧ k ≤ n ∧ ∀ j, j < k → l.getD j 0 ≠ z) 0 (within_lk ⟨rfl, rfl, rfl, rfl, trivial⟩) ⟨rfl, Nat.zero_le _, fun j hj => by omega⟩ ?_
  rintro k h' ⟨rfl, hk, hp⟩
  by_cases hlt : k < n
  · obtain ⟨ad, i1, i3⟩ := in_atG s (i := (k : Int)) hlt rfl
    have i3 := i3 _ (Grow.refl _)
    by_cases he : l.getD k 0 = z
    · rw [is_in (by omega) he]
      rw [he] at i3
      clear hp he
      repeat' (first | with_reducible refine wo_nil ?_ | ((with_reducible refine wo_any ?_); first | ((with_reducible refine ik_move ?_); refine wo_op rfl (op_move rfl) rfl rfl ?_) | ((with_reducible refine ik_assign ?_); refine wo_op rfl (op_assign rfl) rfl rfl ?_) | ((with_reducible refine ik_indexAddr ?_); refine wo_op rfl (op_indexAddr rfl rfl i1) rfl rfl ?_) | ((with_reducible refine ik_load ?_); refine wo_op rfl (op_ldCell rfl Tryz.underlying3 rfl i3) rfl rfl ?_) | ((with_reducible refine ik_bin ?_); first | refine wo_op rfl (op_lss rfl rfl) rfl rfl ?_ | refine wo_op rfl (op_eql rfl rfl) rfl rfl ?_)) | with_reducible refine sq_norm ?_ | with_reducible refine wc_seq ?_ | with_reducible refine wc_region ?_ | with_reducible refine wc_skip ?_ | with_reducible refine wc_ret ?_ | with_reducible refine wc_block ?_ | with_reducible refine bq_ret ?_ | with_reducible refine sq_ret ?_ | with_reducible refine lq_ret ?_ | (refine wc_if rfl (fun hb => ?_) (fun hb => dead_A hb); (try simp only [decide_eq_true_eq, decide_eq_false_iff_not, Bool.not_eq_true', Bool.not_eq_false', Int.not_lt, Int.not_le, Decidable.not_not, not_true_eq_false, not_false_eq_true, beq_self_eq_true, reduceCtorEq] at hb)) | (refine wc_if rfl (fun hb => ?_) (fun hb => (of_decide_eq_false hb rfl).elim); (try simp only [decide_eq_true_eq, decide_eq_false_iff_not, Bool.not_eq_true', Bool.not_eq_false', Int.not_lt, Int.not_le, Decidable.not_not, not_true_eq_false, not_false_eq_true, beq_self_eq_true, reduceCtorEq] at hb)))
      exact rq1 rfl ⟨⟨k, rfl, decide_eq_true (by omega)⟩, rfl⟩
    · have hp' : ∀ j, j < k + 1 → l.getD j 0 ≠ z := fun j hj => by
        by_cases q : j = k
        · rw [q]; exact he
        · exact hp j (by omega)
      clear hp
      generalize l.getD k 0 = y at i3 he
      repeat' (first | with_reducible refine wo_nil ?_ | ((with_reducible refine wo_any ?_); first | ((with_reducible refine ik_move ?_); refine wo_op rfl (op_move rfl) rfl rfl ?_) | ((with_reducible refine ik_assign ?_); refine wo_op rfl (op_assign rfl) rfl rfl ?_) | ((with_reducible refine ik_indexAddr ?_); refine wo_op rfl (op_indexAddr rfl rfl i1) rfl rfl ?_) | ((with_reducible refine ik_load ?_); refine wo_op rfl (op_ldCell rfl Tryz.underlying3 rfl i3) rfl rfl ?_) | ((with_reducible refine ik_bin ?_); first | refine wo_op rfl (op_lss rfl rfl) rfl rfl ?_ | refine wo_op rfl (op_eql rfl rfl) rfl rfl ?_ | refine wo_op rfl (op_add' rfl rfl (w64 (by omega) (by omega))) rfl rfl ?_)) | with_reducible refine sq_norm ?_ | with_reducible refine wc_seq ?_ | with_reducible refine wc_region ?_ | with_reducible refine wc_skip ?_ | with_reducible refine wc_block ?_ | with_reducible refine bq_norm ?_ | (refine wc_if rfl (fun hb => ?_) (fun hb => ?_) <;> (try simp only [decide_eq_true_eq, decide_eq_false_iff_not, Bool.not_eq_true', Bool.not_eq_false', Int.not_lt, Int.not_le, Decidable.not_not, not_true_eq_false, not_false_eq_true, beq_self_eq_true, reduceCtorEq] at hb) <;> (try (exfalso; omega))))
      all_goals first
        | exact lq_norm (k + 1) (by omega) (within_lk ⟨rfl, rfl, rfl, rfl, trivial⟩) ⟨rfl, by omega, hp'⟩
        | (exfalso; simp_all; done)
  · rw [not_in (fun j hj => hp j (by omega))]
    repeat' (first | with_reducible refine wo_nil ?_ | ((with_reducible refine wo_any ?_); first | ((with_reducible refine ik_assign ?_); refine wo_op rfl (op_assign rfl) rfl rfl ?_) | ((with_reducible refine ik_bin ?_); refine wo_op rfl (op_lss rfl rfl) rfl rfl ?_)) | with_reducible refine sq_norm ?_ | with_reducible refine wc_seq ?_ | with_reducible refine wc_region ?_ | with_reducible refine wc_ret ?_ | with_reducible refine wc_exit ?_ | with_reducible refine sq_exit ?_ | with_reducible refine lq_exit ?_ | refine bq_eq rfl ?_ | (refine wc_if rfl (fun hb => ?_) (fun hb => ?_) <;> (try simp only [decide_eq_true_eq, decide_eq_false_iff_not, Bool.not_eq_true', Bool.not_eq_false', Int.not_lt, Int.not_le, Decidable.not_not, not_true_eq_false, not_false_eq_true, beq_self_eq_true, reduceCtorEq] at hb) <;> (try (exfalso; omega))))
    exact rq1 rfl ⟨⟨_, rfl, decide_eq_false (by decide)⟩, rfl⟩
theorem c131 {v : Value} {n : Nat} {l : List Int} {z : Int} (s : Sl G h 1 v n (l.map (.int .i64))) (hn : n < 1000000) : Cf (mz G) (.func (.func 131) #[] #[]) [v, .int .i64 z] h fun r h' => r = .bool (decide (z ∈ l)) ∧ Grow h h' := by
  have q170 := (c170 (z := z) s hn).mono (fun r h2 q => (⟨q.1, q.2 ▸ Grow.refl _⟩ : (∃ i : Int, r = .int .i64 i ∧ decide (0 ≤ i) = decide (z ∈ l)) ∧ Grow h h2))
  refine cf_enter0 9 [.tmp 4] Tryz.func131 rfl rfl rfl rfl ?_
  repeat' (first | with_reducible refine wo_nil ?_ | ((with_reducible refine wo_any ?_); first | ((with_reducible refine ik_move ?_); refine wo_op rfl (op_move rfl) rfl rfl ?_) | ((with_reducible refine ik_assign ?_); refine wo_op rfl (op_assign rfl) rfl rfl ?_) | ((with_reducible refine ik_bin ?_); refine wo_op rfl (op_geq rfl rfl) rfl rfl ?_) | ((with_reducible refine ik_callv ?_); (refine wo_call rfl rfl rfl rfl (q170) rfl rfl ?_; rintro _ _ ⟨⟨i, rfl, hi⟩, hq⟩; all_goals ((try (have hqn := hq.nx)); (try simp only [H.nx_push, H.nx_set, H.nx_bump] at hqn))))) | with_reducible refine sq_norm ?_ | with_reducible refine wc_seq ?_ | with_reducible refine wc_region ?_ | with_reducible refine wc_ret ?_)
  exact rq1 rfl ⟨by rw [← hi], gr_A⟩
theorem c8 {a b w u p q : Int} : Cf (mz G) (.func (.func 8) #[] #[]) [.agg ⟨[.int .i64 a, .int .i64 b, .int .i64 w, .int .i64 u, .int .i64 p, .int .i64 q]⟩] h fun r h' => (r = .bool true ∨ r = .bool false) ∧ Grow h h' := by
  refine cf_enter0 21 [.tmp 2] Tryz.func8 rfl rfl rfl rfl ?_
  repeat' (first | with_reducible refine wo_nil ?_ | ((with_reducible refine wo_any ?_); first | ((with_reducible refine ik_move ?_); refine wo_op rfl (op_move rfl) rfl rfl ?_) | ((with_reducible refine ik_assign ?_); refine wo_op rfl (op_assign rfl) rfl rfl ?_) | ((with_reducible refine ik_box ?_); refine wo_op rfl (op_boxAgg rfl zs25 rfl) rfl rfl ?_) | ((with_reducible refine ik_fieldAddr ?_); refine wo_op rfl (op_fieldAddr (o := 4) rfl Tryz.underlying25 rfl zs3 rfl) rfl rfl ?_) | ((with_reducible refine ik_load ?_); refine wo_op rfl (op_ldAt rfl at_A Tryz.underlying3 rfl rfl) rfl rfl ?_) | ((with_reducible refine ik_bin ?_); refine wo_op rfl (op_leq rfl rfl) rfl rfl ?_) | ((with_reducible refine ik_pick ?_); first | refine wo_op rfl (op_pickt rfl rfl) rfl rfl ?_ | refine wo_op rfl (op_pickf rfl rfl) rfl rfl ?_) | ((with_reducible refine ik_g ?_); first | refine wo_gskip rfl rfl rfl rfl rfl rfl ?_ | refine wo_gskip' rfl rfl rfl rfl rfl ?_ | ((with_reducible refine ig_move ?_); refine wo_grun rfl rfl rfl (op_move rfl) rfl rfl ?_) | ((with_reducible refine ig_fieldAddr ?_); first | refine wo_grun rfl rfl rfl (op_fieldAddr (o := 4) rfl Tryz.underlying25 rfl zs3 rfl) rfl rfl ?_ | refine wo_grun rfl rfl rfl (op_fieldAddr (o := 5) rfl Tryz.underlying25 rfl zs3 rfl) rfl rfl ?_) | ((with_reducible refine ig_load ?_); refine wo_grun rfl rfl rfl (op_ldAt rfl at_A Tryz.underlying3 rfl rfl) rfl rfl ?_) | ((with_reducible refine ig_bin ?_); first | refine wo_grun rfl rfl rfl (op_leq rfl rfl) rfl rfl ?_ | refine wo_grun rfl rfl rfl (op_gtr rfl rfl) rfl rfl ?_) | ((with_reducible refine ig_pick ?_); first | refine wo_grun rfl rfl rfl (op_pickt rfl rfl) rfl rfl ?_ | refine wo_grun rfl rfl rfl (op_pickf rfl rfl) rfl rfl ?_) | (refine wo_gsplit rfl rfl rfl (fun hb => ?_) (fun hb => ?_) <;> (try simp only [decide_eq_true_eq, decide_eq_false_iff_not, Bool.not_eq_true', Bool.not_eq_false', Int.not_lt, Int.not_le, Decidable.not_not, not_true_eq_false, not_false_eq_true, beq_self_eq_true, reduceCtorEq] at hb) <;> (try (exfalso; omega))))) | with_reducible refine sq_norm ?_ | with_reducible refine wc_seq ?_ | with_reducible refine wc_region ?_ | with_reducible refine wc_ret ?_)
  all_goals exact rq1 rfl ⟨bool_or _, gr_A⟩
end Go.Proofs.YtnkmencbnoipmaaGreatDoor

/- Short lines; places. -/
namespace Go.Proofs.YtnkmencbnoipmaaGreatDoor
open Go Go.Ab Go.Fl
attribute [local irreducible] SeqQ BlkQ LpQ RetQ Wc Wo WD WX Op1 Op1q Op1a Cf Cl From
attribute [local irreducible] Ieee.Format.order Ieee.Format.read Ieee.Format.nearest Ieee.Format.write Ieee.Format.mul Ieee.Format.div Ieee.Format.sqrt Ieee.Datum.order Ieee.Datum.integral K U rngE errN cntE cmpI indE ptE plaE firstNZ numsE lnE BigP isNameB nmE ascA errL chgV chgE
set_option maxRecDepth 10000
variable {G : Base} {h : H}

set_option maxHeartbeats 4000000 in
theorem c9 {v : Value} {n : Nat} {ts : List LnM} (s : SlN G h v n ts) (hn : n ≤ maxLen) (hw : Wf h) : Cf (mz G) (.func (.func 9) #[] #[]) [v] h fun r h' => ((r = .bool true ∧ n ≤ 33 ∧ ∀ t ∈ ts, t.V.rf.length ≤ 10 ∧ t.V.nm.size ≤ 40) ∨ r = .bool false) ∧ Grow h h' := by
  obtain ⟨a, c, rfl⟩ := s.sl.form
  have hlen := s.len
  have hn : n ≤ 9223372036854775807 := hn
  refine cf_enter0 24 [.tmp 2] Tryz.func9 rfl rfl rfl rfl ?_
  repeat' (first | with_reducible refine wo_nil ?_ | ((with_reducible refine wo_any ?_); ((with_reducible refine ik_assign ?_); refine wo_op rfl (op_assign rfl) rfl rfl ?_)) | with_reducible refine sq_norm ?_ | with_reducible refine wc_seq ?_ | with_reducible refine wc_region ?_ | with_reducible refine wc_block ?_)
  refine wc_loop (fun k => n - k) (fun k : Nat => [(0, .slice a n c), (3, .int .i64 k)]) (fun k h' => (Wf h' ∧ Grow h h') ∧ k ≤ n ∧ ∀ j (hj : j < ts.length), j < k → ts[j].V.rf.length ≤ 10 ∧ ts[j].V.nm.size ≤ 40) 0 (within_lk ⟨rfl, rfl, trivial⟩) ⟨⟨wf_A, gr_A⟩, Nat.zero_le _, fun j _ hj => by omega⟩ ?_
  rintro k h1 ⟨⟨w1, g1⟩, hk, hp⟩
  have n1 := g1.nx
  by_cases hlt : k < n
  · obtain ⟨ad, i1, i3⟩ := slN_at (s.grow g1) Tryz.underlying26 zs45 (i := (k : Int)) hlt rfl
    obtain ⟨t, ht⟩ : ∃ t, ts[k]'(by omega) = t := ⟨_, rfl⟩
    have hp' : t.V.rf.length ≤ 10 ∧ t.V.nm.size ≤ 40 → ∀ j (hj : j < ts.length), j < k + 1 → ts[j].V.rf.length ≤ 10 ∧ ts[j].V.nm.size ≤ 40 := fun q j hj hl => by
      by_cases e : j = k
      · subst e; rw [ht]; exact q
      · exact hp j hj (by omega)
    rw [ht] at i3
    clear hp ht
    obtain ⟨⟨nm, x, y, tx, ty, sh, nx, ny, px, py, ch, rf⟩, ta, tc⟩ := t
    dsimp only [LnM.cells] at i3
    dsimp only at hp'
    have q23 := fun (h' : H) => c23 (G := G) (h := h') (rf := rf) (nm := nm) (x := x) (y := y) (tx := tx) (ty := ty) (sh := sh) (nx := nx) (ny := ny) (px := px) (py := py) (ch := ch) (a := ta) (n := rf.length) (c := tc)
    repeat' (first | with_reducible refine wo_nil ?_ | ((with_reducible refine wo_any ?_); first | ((with_reducible refine ik_move ?_); refine wo_op rfl (op_move rfl) rfl rfl ?_) | ((with_reducible refine ik_assign ?_); refine wo_op rfl (op_assign rfl) rfl rfl ?_) | ((with_reducible refine ik_indexAddr ?_); refine wo_op rfl (op_indexAddr rfl rfl i1) rfl rfl ?_) | ((with_reducible refine ik_load ?_); refine wo_op rfl (op_ldLn rfl Tryz.underlying45 rfl zs45 i3.all) rfl rfl ?_) | ((with_reducible refine ik_callb ?_); refine wo_op rfl (op_lenSl rfl Tryz.underlying26) rfl rfl ?_) | ((with_reducible refine ik_bin ?_); first | refine wo_op rfl (op_lss rfl rfl) rfl rfl ?_ | refine wo_op rfl (op_add' rfl rfl (w64 (by omega) (by omega))) rfl rfl ?_) | ((with_reducible refine ik_un ?_); refine wo_op rfl (op_not rfl) rfl rfl ?_) | ((with_reducible refine ik_callv ?_); (refine wo_call rfl rfl rfl rfl (q23 _) rfl rfl ?_; rintro _ _ ⟨⟨rfl, hb2⟩ | rfl, hq⟩; all_goals ((try (have hqn := hq.nx)); (try simp only [H.nx_push, H.nx_set, H.nx_bump] at hqn))))) | with_reducible refine sq_norm ?_ | with_reducible refine wc_seq ?_ | with_reducible refine wc_region ?_ | with_reducible refine wc_skip ?_ | with_reducible refine wc_ret ?_ | with_reducible refine wc_block ?_ | with_reducible refine bq_norm ?_ | with_reducible refine bq_ret ?_ | with_reducible refine sq_ret ?_ | with_reducible refine lq_ret ?_ | refine wc_ift rfl ?_ | refine wc_iff rfl ?_ | (refine wc_if rfl (fun hb => ?_) (fun hb => dead_A hb); (try simp only [decide_eq_true_eq, decide_eq_false_iff_not, Bool.not_eq_true', Bool.not_eq_false', Int.not_lt, Int.not_le, Decidable.not_not, not_true_eq_false, not_false_eq_true, beq_self_eq_true, reduceCtorEq] at hb)))
    all_goals first
      | exact rq1 rfl ⟨.inr rfl, gr_A⟩
      | exact lq_norm (k + 1) (by omega) (within_lk ⟨rfl, rfl, trivial⟩) ⟨⟨wf_A, gr_A⟩, by omega, hp' hb2⟩
      | trace_state
  · have hall : ∀ t ∈ ts, t.V.rf.length ≤ 10 ∧ t.V.nm.size ≤ 40 := fun t ht => by
      obtain ⟨j, hj, rfl⟩ := List.getElem_of_mem ht
      exact hp j hj (by omega)
    clear hp
    repeat' (first | with_reducible refine wo_nil ?_ | ((with_reducible refine wo_any ?_); first | ((with_reducible refine ik_move ?_); refine wo_op rfl (op_move rfl) rfl rfl ?_) | ((with_reducible refine ik_assign ?_); refine wo_op rfl (op_assign rfl) rfl rfl ?_) | ((with_reducible refine ik_callb ?_); refine wo_op rfl (op_lenSl rfl Tryz.underlying26) rfl rfl ?_) | ((with_reducible refine ik_bin ?_); first | refine wo_op rfl (op_lss rfl rfl) rfl rfl ?_ | refine wo_op rfl (op_leq rfl rfl) rfl rfl ?_) | ((with_reducible refine ik_pick ?_); first | refine wo_op rfl (op_pickt rfl rfl) rfl rfl ?_ | refine wo_op rfl (op_pickf rfl rfl) rfl rfl ?_) | ((with_reducible refine ik_g ?_); first | refine wo_gskip rfl rfl rfl rfl rfl rfl ?_ | ((with_reducible refine ig_move ?_); refine wo_grun rfl rfl rfl (op_move rfl) rfl rfl ?_) | ((with_reducible refine ig_callb ?_); refine wo_grun rfl rfl rfl (op_lenSl rfl Tryz.underlying26) rfl rfl ?_) | ((with_reducible refine ig_bin ?_); refine wo_grun rfl rfl rfl (op_eql rfl rfl) rfl rfl ?_) | (refine wo_gsplit rfl rfl rfl (fun hb => ?_) (fun hb => ?_) <;> (try simp only [decide_eq_true_eq, decide_eq_false_iff_not, Bool.not_eq_true', Bool.not_eq_false', Int.not_lt, Int.not_le, Decidable.not_not, not_true_eq_false, not_false_eq_true, beq_self_eq_true, reduceCtorEq] at hb) <;> (try (exfalso; omega))))) | with_reducible refine sq_norm ?_ | with_reducible refine wc_seq ?_ | with_reducible refine wc_region ?_ | with_reducible refine wc_ret ?_ | with_reducible refine wc_exit ?_ | with_reducible refine sq_exit ?_ | with_reducible refine lq_exit ?_ | refine bq_eq rfl ?_ | (refine wc_if rfl (fun hb => ?_) (fun hb => ?_) <;> (try simp only [decide_eq_true_eq, decide_eq_false_iff_not, Bool.not_eq_true', Bool.not_eq_false', Int.not_lt, Int.not_le, Decidable.not_not, not_true_eq_false, not_false_eq_true, beq_self_eq_true, reduceCtorEq] at hb) <;> (try (exfalso; omega))))
    all_goals first
      | exact rq1 rfl ⟨.inl ⟨rfl, by omega, hall⟩, gr_A⟩
      | (refine rq1 rfl ⟨?_, gr_A⟩
         by_cases q : (n : Int) = 33
         · rw [decide_eq_true q]; exact .inl ⟨rfl, by omega, hall⟩
         · rw [decide_eq_false q]; exact .inr rfl)
end Go.Proofs.YtnkmencbnoipmaaGreatDoor

/- Places. -/
namespace Go.Proofs.YtnkmencbnoipmaaGreatDoor
open Go Go.Ab Go.Fl
attribute [local irreducible] SeqQ BlkQ LpQ RetQ Wc Wo WD WX Op1 Op1q Op1a Cf Cl From
attribute [local irreducible] Ieee.Format.order Ieee.Format.read Ieee.Format.nearest Ieee.Format.write Ieee.Format.mul Ieee.Format.div Ieee.Format.sqrt Ieee.Datum.order Ieee.Datum.integral K U rngE errN cntE cmpI indE ptE plaE firstNZ numsE lnE BigP isNameB nmE ascA errL chgV chgE
set_option maxRecDepth 10000
variable {G : Base} {h : H}

structure Pl where
  x : Int
  y : Int
  u : Int
  v : Int
@[reducible] def Pl.cells (p : Pl) : List Value := [.int .i64 p.x, .int .i64 p.y, .int .i64 p.u, .int .i64 p.v]
theorem flat_lenP : ∀ ps : List Pl, (ps.flatMap Pl.cells).length = ps.length * 4
  | [] => rfl
  | p :: ps => by rw [List.flatMap_cons, List.length_append, flat_lenP ps]; simp only [List.length_cons, List.length_nil]; omega
end Go.Proofs.YtnkmencbnoipmaaGreatDoor

/- The places of a line by the reference. -/
namespace Go.Proofs.YtnkmencbnoipmaaGreatDoor
open Go Go.Ab Go.Fl
attribute [local irreducible] SeqQ BlkQ LpQ RetQ Wc Wo WD WX Op1 Op1q Op1a Cf Cl From
attribute [local irreducible] Ieee.Format.order Ieee.Format.read Ieee.Format.nearest Ieee.Format.write Ieee.Format.mul Ieee.Format.div Ieee.Format.sqrt Ieee.Datum.order Ieee.Datum.integral K U rngE errN cntE cmpI indE ptE plaE firstNZ numsE lnE BigP isNameB nmE ascA errL chgV chgE
set_option maxRecDepth 10000
variable {G : Base} {h : H}

def plAt (x y tx ty nx ny px py : Int) (i k : Nat) : Pl := ⟨x + (i : Int) * tx, y + (i : Int) * ty, x + (i : Int) * tx + 1 * nx + (k : Int) * px, y + (i : Int) * ty + 1 * ny + (k : Int) * py⟩
def rowP (x y tx ty nx ny px py : Int) (rf : List Int) (ch i : Nat) : List Pl := if decide ((i : Int) ∈ rf) = true then [] else (List.range ch).map (plAt x y tx ty nx ny px py i)
def plsP (x y tx ty nx ny px py : Int) (rf : List Int) (ch i : Nat) : List Pl := (List.range i).flatMap (rowP x y tx ty nx ny px py rf ch)
theorem rowP_in {x y tx ty nx ny px py : Int} {rf : List Int} {ch i : Nat} (q : decide ((i : Int) ∈ rf) = true) : rowP x y tx ty nx ny px py rf ch i = [] := if_pos q
theorem rowP_out {x y tx ty nx ny px py : Int} {rf : List Int} {ch i : Nat} (q : decide ((i : Int) ∈ rf) = false) : rowP x y tx ty nx ny px py rf ch i = (List.range ch).map (plAt x y tx ty nx ny px py i) := if_neg (by rw [q]; decide)
theorem plsP_next {x y tx ty nx ny px py : Int} {rf : List Int} {ch i : Nat} : plsP x y tx ty nx ny px py rf ch (i + 1) = plsP x y tx ty nx ny px py rf ch i ++ rowP x y tx ty nx ny px py rf ch i := by
  unfold plsP; rw [List.range_succ, List.flatMap_append]; simp
theorem rowP_len {x y tx ty nx ny px py : Int} {rf : List Int} {ch i : Nat} : (rowP x y tx ty nx ny px py rf ch i).length ≤ ch := by
  unfold rowP; split <;> simp
theorem plsP_len {x y tx ty nx ny px py : Int} {rf : List Int} {ch : Nat} : ∀ i, (plsP x y tx ty nx ny px py rf ch i).length ≤ i * ch
  | 0 => by simp [plsP]
  | i + 1 => by
    rw [plsP_next, List.length_append, Nat.succ_mul]
    have := plsP_len (x := x) (y := y) (tx := tx) (ty := ty) (nx := nx) (ny := ny) (px := px) (py := py) (rf := rf) (ch := ch) i
    have := rowP_len (x := x) (y := y) (tx := tx) (ty := ty) (nx := nx) (ny := ny) (px := px) (py := py) (rf := rf) (ch := ch) (i := i)
    omega
/-- A list of places that grows. -/
def OutQ (lo : Nat) (h' : H) (v : Value) (out : List Pl) : Prop := (v = .slice none 0 0 ∧ out = []) ∨ ∃ e, lo ≤ e ∧ v = .slice (some ⟨e, 0, some 0⟩) out.length out.length ∧ At h' e (.cells (out.flatMap Pl.cells) 126 4 true)
theorem OutQ.sl {lo : Nat} {v : Value} {out : List Pl} (q : OutQ lo h v out) : Sl G h 4 v out.length (out.flatMap Pl.cells) := by
  rcases q with ⟨rfl, rfl⟩ | ⟨e, _, rfl, hat⟩
  · exact .nil
  · exact Sl.ofAt hat (flat_lenP _) (Nat.le_refl _)
theorem OutQ.grow {lo : Nat} {h h' : H} {v : Value} {out : List Pl} (q : OutQ lo h v out) (g : Grow h h') : OutQ lo h' v out := by
  rcases q with q | ⟨e, h1, h2, hat⟩
  · exact .inl q
  · exact .inr ⟨e, h1, h2, hat.grow g⟩
end Go.Proofs.YtnkmencbnoipmaaGreatDoor
