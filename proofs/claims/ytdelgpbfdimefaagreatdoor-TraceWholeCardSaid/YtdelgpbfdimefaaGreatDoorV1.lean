/- Shots with small samples; cuts of shots, told as lists of traces. -/
import Derived.Test.YtdelgpbfdimefaaGreatDoorM6
set_option linter.all false
/- Shots with small samples. -/
namespace Go.Proofs.YtdelgpbfdimefaaGreatDoor
open Go Go.Ab Go.Fl
attribute [local irreducible] SeqQ BlkQ LpQ RetQ Wc Wo WD WX Op1 Op1q Op1a Cf Cl From
attribute [local irreducible] Ieee.Format.order Ieee.Format.read Ieee.Format.nearest Ieee.Format.write Ieee.Format.mul Ieee.Format.div Ieee.Datum.order Ieee.Datum.integral smpE smp smpW K J U trE hdrE lchk firstNZ isNameB wid mism shE offs shortB
set_option maxRecDepth 10000
variable {G : Base} {h : H}
/-- A sample above 100 in absolute value. -/
def bigU (x : Nat) : Bool := Ieee.single.order x 1120403456 == some .gt
def bigD (x : Nat) : Bool := Ieee.single.order x 3267887104 == some .lt
def bigS (x : Nat) : Bool := bigU x || bigD x
def bigT (t : Trc) : Bool := t.l.any bigS
def smallB (nm : ByteArray) (ts : List Trc) : Bool := shortB nm ts && (decide (shE nm ts = 0) && (decide (wid ts ≤ 24) && !(ts.any bigT)))
set_option maxHeartbeats 4000000 in
theorem c80 {nm : ByteArray} {a : Option Addr} {n c : Nat} {ts : List Trc} (s : SlT G h (.slice a n c) n ts) (hw : Wf h) : Cf (mz G) (.func (.func 80) #[] #[]) [.agg ⟨shC nm a n c⟩] h fun r h' => r = .bool (smallB nm ts) ∧ Grow h h' := by
  have hlen := s.len
  have q28 := fun (h' : H) (g : Grow h h') (w : Wf h') => c28 (nm := nm) (s.grow g) w
  by_cases hS : shortB nm ts = false
  · have hr : smallB nm ts = false := by unfold smallB; rw [hS]; rfl
    rw [hS] at q28
    rw [hr]
    refine cf_enter0 42 [.tmp 2] Tryz.func80 rfl rfl rfl rfl ?_
    repeat' (first | with_reducible refine wo_nil ?_ | ((with_reducible refine wo_any ?_); first | ((with_reducible refine ik_move ?_); refine wo_op rfl (op_move rfl) rfl rfl ?_) | ((with_reducible refine ik_assign ?_); refine wo_op rfl (op_assign rfl) rfl rfl ?_) | ((with_reducible refine ik_box ?_); refine wo_op rfl (op_boxAgg rfl zs43 rfl) rfl rfl ?_) | ((with_reducible refine ik_load ?_); refine wo_op rfl (op_ldAgg rfl at_A Tryz.underlying43 rfl zs43 rfl rfl) rfl rfl ?_) | ((with_reducible refine ik_un ?_); refine wo_op rfl (op_not rfl) rfl rfl ?_) | ((with_reducible refine ik_pick ?_); refine wo_op rfl (op_pickt rfl rfl) rfl rfl ?_) | ((with_reducible refine ik_callv ?_); (refine wo_call rfl rfl rfl rfl (q28 _ gr_A wf_A) rfl rfl ?_; rintro _ _ ⟨rfl, hq⟩; all_goals ((try (have hqn := hq.nx)); (try simp only [H.nx_push, H.nx_set, H.nx_bump] at hqn)))) | ((with_reducible refine ik_g ?_); refine wo_gskip rfl rfl rfl rfl rfl rfl ?_)) | with_reducible refine sq_norm ?_ | with_reducible refine wc_seq ?_ | with_reducible refine wc_region ?_ | with_reducible refine wc_ret ?_ | with_reducible refine sq_ret ?_ | refine wc_ift rfl ?_)
    all_goals exact rq1 rfl ⟨rfl, gr_A⟩
  have hS : shortB nm ts = true := by simpa using hS
  obtain ⟨a1, a2, a3⟩ := short_facts s hS
  rw [hS] at q28
  have q35 := fun (h' : H) (g : Grow h h') (w : Wf h') => c35 (nm := nm) (s.grow g) (by omega) a2 a3 w
  have q37 := fun (h' : H) (g : Grow h h') (w : Wf h') => c37 (nm := nm) (s.grow g) (by omega) w
  have hr : smallB nm ts = (decide (shE nm ts = 0) && (decide (wid ts ≤ 24) && !(ts.any bigT))) := by unfold smallB; rw [hS]; rfl
  rw [hr]
  clear hr hS a3
  obtain ⟨E, hE⟩ : ∃ E, shE nm ts = E := ⟨_, rfl⟩
  obtain ⟨W, hW⟩ : ∃ E, wid ts = E := ⟨_, rfl⟩
  rw [hE] at q35 ⊢
  rw [hW] at q37 ⊢
  by_cases hE0 : E ≠ 0
  · rw [decide_eq_false hE0]
    refine cf_enter0 42 [.tmp 2] Tryz.func80 rfl rfl rfl rfl ?_
    repeat' (first | with_reducible refine wo_nil ?_ | ((with_reducible refine wo_any ?_); first | ((with_reducible refine ik_move ?_); refine wo_op rfl (op_move rfl) rfl rfl ?_) | ((with_reducible refine ik_assign ?_); refine wo_op rfl (op_assign rfl) rfl rfl ?_) | ((with_reducible refine ik_box ?_); refine wo_op rfl (op_boxAgg rfl zs43 rfl) rfl rfl ?_) | ((with_reducible refine ik_load ?_); refine wo_op rfl (op_ldAgg rfl at_A Tryz.underlying43 rfl zs43 rfl rfl) rfl rfl ?_) | ((with_reducible refine ik_un ?_); refine wo_op rfl (op_not rfl) rfl rfl ?_) | ((with_reducible refine ik_pick ?_); first | refine wo_op rfl (op_pickt rfl rfl) rfl rfl ?_ | refine wo_op rfl (op_pickf rfl rfl) rfl rfl ?_) | ((with_reducible refine ik_callv ?_); (refine wo_call rfl rfl rfl rfl (q28 _ gr_A wf_A) rfl rfl ?_; rintro _ _ ⟨rfl, hq⟩; all_goals ((try (have hqn := hq.nx)); (try simp only [H.nx_push, H.nx_set, H.nx_bump] at hqn)))) | ((with_reducible refine ik_g ?_); first | refine wo_gskip rfl rfl rfl rfl rfl rfl ?_ | ((with_reducible refine ig_load ?_); refine wo_grun rfl rfl rfl (op_ldAgg rfl at_A Tryz.underlying43 rfl zs43 rfl rfl) rfl rfl ?_) | ((with_reducible refine ig_bin ?_); refine wo_grun rfl rfl rfl (op_neq rfl rfl) rfl rfl ?_) | ((with_reducible refine ig_callv ?_); (refine wo_gcall rfl rfl rfl rfl rfl rfl (q35 _ gr_A wf_A) rfl rfl ?_; rintro _ _ ⟨rfl, hq⟩; all_goals ((try (have hqn := hq.nx)); (try simp only [H.nx_push, H.nx_set, H.nx_bump] at hqn)))) | (refine wo_gsplit rfl rfl rfl (fun hb => ?_) (fun hb => dead_A hb); (try simp only [decide_eq_true_eq, decide_eq_false_iff_not, Bool.not_eq_true', Bool.not_eq_false', Int.not_lt, Int.not_le, Decidable.not_not, not_true_eq_false, not_false_eq_true, beq_self_eq_true, reduceCtorEq] at hb)))) | with_reducible refine sq_norm ?_ | with_reducible refine wc_seq ?_ | with_reducible refine wc_region ?_ | with_reducible refine wc_ret ?_ | with_reducible refine sq_ret ?_ | refine wc_ift rfl ?_)
    all_goals exact rq1 rfl ⟨rfl, gr_A⟩
  have hE0 : E = 0 := by simpa using hE0
  subst hE0
  by_cases hW0 : 24 < W
  · rw [decide_eq_false (by omega : ¬ W ≤ 24)]
    refine cf_enter0 42 [.tmp 2] Tryz.func80 rfl rfl rfl rfl ?_
    repeat' (first | with_reducible refine wo_nil ?_ | ((with_reducible refine wo_any ?_); first | ((with_reducible refine ik_move ?_); refine wo_op rfl (op_move rfl) rfl rfl ?_) | ((with_reducible refine ik_assign ?_); refine wo_op rfl (op_assign rfl) rfl rfl ?_) | ((with_reducible refine ik_box ?_); refine wo_op rfl (op_boxAgg rfl zs43 rfl) rfl rfl ?_) | ((with_reducible refine ik_load ?_); refine wo_op rfl (op_ldAgg rfl at_A Tryz.underlying43 rfl zs43 rfl rfl) rfl rfl ?_) | ((with_reducible refine ik_un ?_); refine wo_op rfl (op_not rfl) rfl rfl ?_) | ((with_reducible refine ik_pick ?_); refine wo_op rfl (op_pickf rfl rfl) rfl rfl ?_) | ((with_reducible refine ik_callv ?_); (refine wo_call rfl rfl rfl rfl (q28 _ gr_A wf_A) rfl rfl ?_; rintro _ _ ⟨rfl, hq⟩; all_goals ((try (have hqn := hq.nx)); (try simp only [H.nx_push, H.nx_set, H.nx_bump] at hqn)))) | ((with_reducible refine ik_g ?_); first | ((with_reducible refine ig_load ?_); refine wo_grun rfl rfl rfl (op_ldAgg rfl at_A Tryz.underlying43 rfl zs43 rfl rfl) rfl rfl ?_) | ((with_reducible refine ig_bin ?_); first | refine wo_grun rfl rfl rfl (op_neq rfl rfl) rfl rfl ?_ | refine wo_grun rfl rfl rfl (op_gtr rfl rfl) rfl rfl ?_) | ((with_reducible refine ig_callv ?_); first | (refine wo_gcall rfl rfl rfl rfl rfl rfl (q35 _ gr_A wf_A) rfl rfl ?_; rintro _ _ ⟨rfl, hq⟩; all_goals ((try (have hqn := hq.nx)); (try simp only [H.nx_push, H.nx_set, H.nx_bump] at hqn))) | (refine wo_gcall rfl rfl rfl rfl rfl rfl (q37 _ gr_A wf_A) rfl rfl ?_; rintro _ _ ⟨rfl, hq⟩; all_goals ((try (have hqn := hq.nx)); (try simp only [H.nx_push, H.nx_set, H.nx_bump] at hqn)))))) | with_reducible refine sq_norm ?_ | with_reducible refine wc_seq ?_ | with_reducible refine wc_region ?_ | with_reducible refine wc_ret ?_ | with_reducible refine sq_ret ?_ | (refine wc_if rfl (fun hb => ?_) (fun hb => dead_A hb); (try simp only [decide_eq_true_eq, decide_eq_false_iff_not, Bool.not_eq_true', Bool.not_eq_false', Int.not_lt, Int.not_le, Decidable.not_not, not_true_eq_false, not_false_eq_true, beq_self_eq_true, reduceCtorEq] at hb)))
    all_goals exact rq1 rfl ⟨rfl, gr_A⟩
  rw [decide_eq_true (by omega : W ≤ 24), show (decide ((0 : Int) = 0) && (true && !ts.any bigT)) = !ts.any bigT from rfl]
  refine cf_enter0 42 [.tmp 2] Tryz.func80 rfl rfl rfl rfl ?_
  repeat' (first | with_reducible refine wo_nil ?_ | ((with_reducible refine wo_any ?_); first | ((with_reducible refine ik_move ?_); refine wo_op rfl (op_move rfl) rfl rfl ?_) | ((with_reducible refine ik_assign ?_); refine wo_op rfl (op_assign rfl) rfl rfl ?_) | ((with_reducible refine ik_box ?_); refine wo_op rfl (op_boxAgg rfl zs43 rfl) rfl rfl ?_) | ((with_reducible refine ik_load ?_); first | refine wo_op rfl (op_ldAgg rfl at_A Tryz.underlying43 rfl zs43 rfl rfl) rfl rfl ?_ | refine wo_op rfl (op_ldAt rfl at_A Tryz.underlying41 rfl rfl) rfl rfl ?_) | ((with_reducible refine ik_un ?_); refine wo_op rfl (op_not rfl) rfl rfl ?_) | ((with_reducible refine ik_pick ?_); refine wo_op rfl (op_pickf rfl rfl) rfl rfl ?_) | ((with_reducible refine ik_fieldAddr ?_); refine wo_op rfl (op_fieldAddr (o := 1) rfl Tryz.underlying43 rfl zs41 rfl) rfl rfl ?_) | ((with_reducible refine ik_callb ?_); refine wo_op rfl (op_lenSl rfl Tryz.underlying41) rfl rfl ?_) | ((with_reducible refine ik_callv ?_); (refine wo_call rfl rfl rfl rfl (q28 _ gr_A wf_A) rfl rfl ?_; rintro _ _ ⟨rfl, hq⟩; all_goals ((try (have hqn := hq.nx)); (try simp only [H.nx_push, H.nx_set, H.nx_bump] at hqn)))) | ((with_reducible refine ik_g ?_); first | ((with_reducible refine ig_load ?_); refine wo_grun rfl rfl rfl (op_ldAgg rfl at_A Tryz.underlying43 rfl zs43 rfl rfl) rfl rfl ?_) | ((with_reducible refine ig_bin ?_); first | refine wo_grun rfl rfl rfl (op_neq rfl rfl) rfl rfl ?_ | refine wo_grun rfl rfl rfl (op_gtr rfl rfl) rfl rfl ?_) | ((with_reducible refine ig_callv ?_); first | (refine wo_gcall rfl rfl rfl rfl rfl rfl (q35 _ gr_A wf_A) rfl rfl ?_; rintro _ _ ⟨rfl, hq⟩; all_goals ((try (have hqn := hq.nx)); (try simp only [H.nx_push, H.nx_set, H.nx_bump] at hqn))) | (refine wo_gcall rfl rfl rfl rfl rfl rfl (q37 _ gr_A wf_A) rfl rfl ?_; rintro _ _ ⟨rfl, hq⟩; all_goals ((try (have hqn := hq.nx)); (try simp only [H.nx_push, H.nx_set, H.nx_bump] at hqn)))))) | with_reducible refine sq_norm ?_ | with_reducible refine wc_seq ?_ | with_reducible refine wc_region ?_ | with_reducible refine wc_skip ?_ | with_reducible refine wc_block ?_ | (refine wc_if rfl (fun hb => dead_A hb) (fun hb => ?_); (try simp only [decide_eq_true_eq, decide_eq_false_iff_not, Bool.not_eq_true', Bool.not_eq_false', Int.not_lt, Int.not_le, Decidable.not_not, not_true_eq_false, not_false_eq_true, beq_self_eq_true, reduceCtorEq] at hb)))
  refine wc_loop (fun k => n - k) (fun k : Nat => [(1, .pointer (some ⟨h.nx, 0, some 0⟩)), (21, .slice a n c), (22, .int .i64 n), (23, .int .i64 k)]) (fun k h1 => (Wf h1 ∧ Grow h h1 ∧ h.nx + 1 ≤ h1.nx) ∧ k ≤ n ∧ (ts.drop k).any bigT = ts.any bigT) 0 (within_lk ⟨rfl, rfl, rfl, rfl, trivial⟩) ⟨⟨wf_A, gr_A, (by first | omega | (simp only [H.nx_push] at hqn; omega))⟩, Nat.zero_le _, rfl⟩ ?_
  clear hqn hq q28 q35 q37
  rintro k h1 ⟨⟨w1, g1, n1⟩, hk, hi⟩
  by_cases hlt : k < n
  · obtain ⟨ad, f1, f3⟩ := slT_at (s.grow g1) Tryz.underlying41 zs47 (i := (k : Int)) hlt rfl
    rw [List.drop_eq_getElem_cons (by omega), List.any_cons] at hi
    have ot := s.ok _ (List.getElem_mem (show k < ts.length by omega))
    have otn := a2 _ (List.getElem_mem (show k < ts.length by omega))
    obtain ⟨t, ht⟩ : ∃ t, ts[k]'(by omega) = t := ⟨_, rfl⟩
    rw [ht] at f3 hi ot otn
    clear ht
    obtain ⟨hd, hole, sa, tn, tc, tl⟩ := t
    have qf := f3.all
    dsimp only [Trc.cells] at qf
    have osl := ot.sl
    have oll := osl.length
    simp at oll otn
    simp only at osl
    rw [show bigT ⟨hd, hole, sa, tn, tc, tl⟩ = tl.any bigS from rfl] at hi
    repeat' (first | with_reducible refine wo_nil ?_ | ((with_reducible refine wo_any ?_); first | ((with_reducible refine ik_move ?_); refine wo_op rfl (op_move rfl) rfl rfl ?_) | ((with_reducible refine ik_indexAddr ?_); refine wo_op rfl (op_indexAddr rfl rfl f1) rfl rfl ?_) | ((with_reducible refine ik_load ?_); first | refine wo_op rfl (op_ldTr rfl Tryz.underlying47 rfl zs47 qf) rfl rfl ?_ | refine wo_op rfl (op_ldAt rfl at_A Tryz.underlying45 rfl rfl) rfl rfl ?_) | ((with_reducible refine ik_bin ?_); refine wo_op rfl (op_lss rfl rfl) rfl rfl ?_) | ((with_reducible refine ik_fieldAddr ?_); refine wo_op rfl (op_fieldAddr (o := 9) rfl Tryz.underlying47 rfl zs45 rfl) rfl rfl ?_) | ((with_reducible refine ik_callb ?_); refine wo_op rfl (op_lenSl rfl Tryz.underlying45) rfl rfl ?_) | ((with_reducible refine ik_alloc ?_); refine wo_op rfl (op_alloc zz47 zs47 rfl rfl rfl) rfl rfl ?_) | ((with_reducible refine ik_store ?_); refine wo_op0 rfl (op_stAgg rfl rfl at_A zs47 rfl rfl rfl rfl) rfl ?_)) | with_reducible refine sq_norm ?_ | with_reducible refine wc_seq ?_ | with_reducible refine wc_region ?_ | with_reducible refine wc_skip ?_ | with_reducible refine wc_block ?_ | (refine wc_if rfl (fun hb => ?_) (fun hb => dead_A hb); (try simp only [decide_eq_true_eq, decide_eq_false_iff_not, Bool.not_eq_true', Bool.not_eq_false', Int.not_lt, Int.not_le, Decidable.not_not, not_true_eq_false, not_false_eq_true, beq_self_eq_true, reduceCtorEq] at hb)))
    refine wc_loop (fun j => tn - j) (fun j : Nat => [(1, .pointer (some ⟨h.nx, 0, some 0⟩)), (21, .slice a n c), (22, .int .i64 n), (23, .int .i64 k), (28, .slice sa tn tc), (29, .int .i64 tn), (30, .int .i64 j)]) (fun j h2 => (Wf h2 ∧ Grow h h2 ∧ h.nx + 1 ≤ h2.nx) ∧ j ≤ tn ∧ (tl.drop j).any bigS = tl.any bigS) 0 (within_lk ⟨rfl, rfl, rfl, rfl, rfl, rfl, rfl, trivial⟩) ⟨⟨wf_A, gr_A, z7_A⟩, Nat.zero_le _, rfl⟩ ?_
    clear w1 g1 n1 f1 f3 qf
    rintro j h2 ⟨⟨w2, g2, n2⟩, hj, hi2⟩
    by_cases hjt : j < tn
    · obtain ⟨bd, e1, e2⟩ := sl_at (osl.grow g2) (i := (j : Int)) hjt rfl
      rw [List.drop_eq_getElem_cons (by omega), List.any_cons] at hi2
      obtain ⟨x, hx⟩ : ∃ x, tl[j]'(by omega) = x := ⟨_, rfl⟩
      rw [hx] at e2 hi2
      obtain ⟨u, hu⟩ : ∃ u, bigU x = u := ⟨_, rfl⟩
      obtain ⟨d, hd'⟩ : ∃ u, bigD x = u := ⟨_, rfl⟩
      rw [show bigS x = (bigU x || bigD x) from rfl, hu, hd'] at hi2
      unfold bigU at hu
      unfold bigD at hd'
      cases u with
      | true =>
        rw [show (true || d || (tl.drop (j + 1)).any bigS) = true from rfl] at hi2
        repeat' (first | with_reducible refine wo_nil ?_ | ((with_reducible refine wo_any ?_); first | ((with_reducible refine ik_move ?_); refine wo_op rfl (op_move rfl) rfl rfl ?_) | ((with_reducible refine ik_assign ?_); refine wo_op rfl (op_assign rfl) rfl rfl ?_) | ((with_reducible refine ik_indexAddr ?_); refine wo_op rfl (op_indexAddr rfl rfl e1) rfl rfl ?_) | ((with_reducible refine ik_load ?_); refine wo_op rfl (op_ldCell rfl Tryz.underlying23 rfl e2) rfl rfl ?_) | ((with_reducible refine ik_bin ?_); first | refine wo_op rfl (op_fgtr rfl rfl hu) rfl rfl ?_ | refine wo_op rfl (op_lss rfl rfl) rfl rfl ?_) | ((with_reducible refine ik_pick ?_); refine wo_op rfl (op_pickt rfl rfl) rfl rfl ?_) | ((with_reducible refine ik_g ?_); refine wo_gskip rfl rfl rfl rfl rfl rfl ?_)) | with_reducible refine sq_norm ?_ | with_reducible refine wc_seq ?_ | with_reducible refine wc_region ?_ | with_reducible refine wc_skip ?_ | with_reducible refine wc_ret ?_ | with_reducible refine wc_block ?_ | with_reducible refine bq_ret ?_ | with_reducible refine sq_ret ?_ | with_reducible refine lq_ret ?_ | refine wc_ift rfl ?_ | (refine wc_if rfl (fun hb => ?_) (fun hb => dead_A hb); (try simp only [decide_eq_true_eq, decide_eq_false_iff_not, Bool.not_eq_true', Bool.not_eq_false', Int.not_lt, Int.not_le, Decidable.not_not, not_true_eq_false, not_false_eq_true, beq_self_eq_true, reduceCtorEq] at hb)))
        all_goals
          refine rq1 rfl ⟨?_, gr_A⟩
          rw [← hi, ← hi2]
          rfl
      | false =>
        cases d with
        | true =>
          rw [show (false || true || (tl.drop (j + 1)).any bigS) = true from rfl] at hi2
          repeat' (first | with_reducible refine wo_nil ?_ | ((with_reducible refine wo_any ?_); first | ((with_reducible refine ik_move ?_); refine wo_op rfl (op_move rfl) rfl rfl ?_) | ((with_reducible refine ik_assign ?_); refine wo_op rfl (op_assign rfl) rfl rfl ?_) | ((with_reducible refine ik_indexAddr ?_); refine wo_op rfl (op_indexAddr rfl rfl e1) rfl rfl ?_) | ((with_reducible refine ik_load ?_); refine wo_op rfl (op_ldCell rfl Tryz.underlying23 rfl e2) rfl rfl ?_) | ((with_reducible refine ik_bin ?_); first | refine wo_op rfl (op_fgtr rfl rfl hu) rfl rfl ?_ | refine wo_op rfl (op_lss rfl rfl) rfl rfl ?_) | ((with_reducible refine ik_pick ?_); refine wo_op rfl (op_pickf rfl rfl) rfl rfl ?_) | ((with_reducible refine ik_g ?_); first | ((with_reducible refine ig_move ?_); refine wo_grun rfl rfl rfl (op_move rfl) rfl rfl ?_) | ((with_reducible refine ig_bin ?_); refine wo_grun rfl rfl rfl (op_flss rfl rfl hd') rfl rfl ?_))) | with_reducible refine sq_norm ?_ | with_reducible refine wc_seq ?_ | with_reducible refine wc_region ?_ | with_reducible refine wc_skip ?_ | with_reducible refine wc_ret ?_ | with_reducible refine wc_block ?_ | with_reducible refine bq_ret ?_ | with_reducible refine sq_ret ?_ | with_reducible refine lq_ret ?_ | refine wc_ift rfl ?_ | (refine wc_if rfl (fun hb => ?_) (fun hb => dead_A hb); (try simp only [decide_eq_true_eq, decide_eq_false_iff_not, Bool.not_eq_true', Bool.not_eq_false', Int.not_lt, Int.not_le, Decidable.not_not, not_true_eq_false, not_false_eq_true, beq_self_eq_true, reduceCtorEq] at hb)))
          all_goals
            refine rq1 rfl ⟨?_, gr_A⟩
            rw [← hi, ← hi2]
            rfl
        | false =>
          rw [show (false || false || (tl.drop (j + 1)).any bigS) = (tl.drop (j + 1)).any bigS from rfl] at hi2
          repeat' (first | with_reducible refine wo_nil ?_ | ((with_reducible refine wo_any ?_); first | ((with_reducible refine ik_move ?_); refine wo_op rfl (op_move rfl) rfl rfl ?_) | ((with_reducible refine ik_assign ?_); refine wo_op rfl (op_assign rfl) rfl rfl ?_) | ((with_reducible refine ik_indexAddr ?_); refine wo_op rfl (op_indexAddr rfl rfl e1) rfl rfl ?_) | ((with_reducible refine ik_load ?_); refine wo_op rfl (op_ldCell rfl Tryz.underlying23 rfl e2) rfl rfl ?_) | ((with_reducible refine ik_bin ?_); first | refine wo_op rfl (op_fgtr rfl rfl hu) rfl rfl ?_ | refine wo_op rfl (op_lss rfl rfl) rfl rfl ?_ | refine wo_op rfl (op_add' rfl rfl (w64 (by omega) (by omega))) rfl rfl ?_) | ((with_reducible refine ik_pick ?_); refine wo_op rfl (op_pickf rfl rfl) rfl rfl ?_) | ((with_reducible refine ik_g ?_); first | ((with_reducible refine ig_move ?_); refine wo_grun rfl rfl rfl (op_move rfl) rfl rfl ?_) | ((with_reducible refine ig_bin ?_); refine wo_grun rfl rfl rfl (op_flss rfl rfl hd') rfl rfl ?_))) | with_reducible refine sq_norm ?_ | with_reducible refine wc_seq ?_ | with_reducible refine wc_region ?_ | with_reducible refine wc_skip ?_ | with_reducible refine wc_block ?_ | with_reducible refine bq_norm ?_ | refine wc_iff rfl ?_ | (refine wc_if rfl (fun hb => ?_) (fun hb => dead_A hb); (try simp only [decide_eq_true_eq, decide_eq_false_iff_not, Bool.not_eq_true', Bool.not_eq_false', Int.not_lt, Int.not_le, Decidable.not_not, not_true_eq_false, not_false_eq_true, beq_self_eq_true, reduceCtorEq] at hb)))
          all_goals exact lq_norm (j + 1) (by omega) (within_lk ⟨rfl, rfl, rfl, rfl, rfl, rfl, rfl, trivial⟩) ⟨⟨wf_A, gr_A, (by omega)⟩, by omega, hi2⟩
    · have hjm : j = tn := by omega
      subst hjm
      rw [List.drop_eq_nil_of_le (by omega)] at hi2
      rw [← hi2] at hi
      rw [show (([] : List Nat).any bigS || (ts.drop (k + 1)).any bigT) = (ts.drop (k + 1)).any bigT from rfl] at hi
      repeat' (first | with_reducible refine wo_nil ?_ | ((with_reducible refine wo_any ?_); first | ((with_reducible refine ik_move ?_); refine wo_op rfl (op_move rfl) rfl rfl ?_) | ((with_reducible refine ik_bin ?_); first | refine wo_op rfl (op_lss rfl rfl) rfl rfl ?_ | refine wo_op rfl (op_add' rfl rfl (w64 (by omega) (by omega))) rfl rfl ?_)) | with_reducible refine sq_norm ?_ | with_reducible refine wc_seq ?_ | with_reducible refine wc_region ?_ | with_reducible refine wc_exit ?_ | with_reducible refine bq_norm ?_ | with_reducible refine sq_exit ?_ | with_reducible refine lq_exit ?_ | refine bq_eq rfl ?_ | (refine wc_if rfl (fun hb => dead_A hb) (fun hb => ?_); (try simp only [decide_eq_true_eq, decide_eq_false_iff_not, Bool.not_eq_true', Bool.not_eq_false', Int.not_lt, Int.not_le, Decidable.not_not, not_true_eq_false, not_false_eq_true, beq_self_eq_true, reduceCtorEq] at hb)))
      all_goals exact lq_norm (k + 1) (by omega) (within_lk ⟨rfl, rfl, rfl, rfl, trivial⟩) ⟨⟨wf_A, gr_A, (by omega)⟩, by omega, hi⟩
  · have hkn : k = n := by omega
    subst hkn
    rw [List.drop_eq_nil_of_le (by omega)] at hi
    rw [← hi]
    repeat' (first | with_reducible refine wo_nil ?_ | ((with_reducible refine wo_any ?_); first | ((with_reducible refine ik_assign ?_); refine wo_op rfl (op_assign rfl) rfl rfl ?_) | ((with_reducible refine ik_bin ?_); refine wo_op rfl (op_lss rfl rfl) rfl rfl ?_)) | with_reducible refine sq_norm ?_ | with_reducible refine wc_seq ?_ | with_reducible refine wc_region ?_ | with_reducible refine wc_ret ?_ | with_reducible refine wc_exit ?_ | with_reducible refine sq_exit ?_ | with_reducible refine lq_exit ?_ | refine bq_eq rfl ?_ | (refine wc_if rfl (fun hb => dead_A hb) (fun hb => ?_); (try simp only [decide_eq_true_eq, decide_eq_false_iff_not, Bool.not_eq_true', Bool.not_eq_false', Int.not_lt, Int.not_le, Decidable.not_not, not_true_eq_false, not_false_eq_true, beq_self_eq_true, reduceCtorEq] at hb)))
    all_goals exact rq1 rfl ⟨rfl, gr_A⟩
end Go.Proofs.YtdelgpbfdimefaaGreatDoor

/- Cuts of shots, told as lists of traces: facts without a machine. -/
namespace Go.Proofs.YtdelgpbfdimefaaGreatDoor
open Go Go.Ab Go.Fl
variable {G : Base} {h : H}
theorem smpW_ok {n : Int} (h : n.natAbs ≤ 16384) : smpE (smpW n) = 0 ∧ smp (smpW n) = n := by
  obtain ⟨_, v, ⟨s, m, e, hr, _, hv⟩, h2⟩ := div16 h
  have hu := U_pos
  have h3 : 16 * Ieee.signed s m (e + 1074).toNat = n * U := by rw [← hv] at h2; exact h2
  constructor
  · unfold smpE
    rw [hr]
    simp only [h3]
    rw [if_pos]
    refine ⟨Int.mul_emod_left _ _, ?_, ?_⟩
    · rw [← Int.neg_mul]; exact Int.mul_le_mul_of_nonneg_right (by omega) (by omega)
    · exact Int.mul_le_mul_of_nonneg_right (by omega) (by omega)
  · unfold smp
    rw [hr]
    simp only [h3]
    exact Int.mul_tdiv_cancel _ (by omega)
attribute [local irreducible] smpE smp smpW isNameB
theorem firstNZ_all {l : List Int} (h : ∀ e ∈ l, e = 0) : firstNZ l = 0 := by
  induction l with
  | nil => rfl
  | cons a l ih =>
    unfold firstNZ
    rw [h a List.mem_cons_self, if_pos rfl]
    exact ih fun e he => h e (List.mem_cons_of_mem _ he)
theorem hdr_of {hd : Nat → Int} (h : ∀ i, i < 8 → hlo i ≤ hd i ∧ hd i ≤ hhi i) : hdrE hd = 0 := by
  unfold hdrE
  refine firstNZ_all fun e he => ?_
  obtain ⟨i, hi, rfl⟩ := List.mem_map.1 he
  have := h i (List.mem_range.1 hi)
  unfold hdE
  rcases rng_cases (hd i) (hlo i) (hhi i) with ⟨e, _, _⟩ | ⟨_, q⟩
  · exact e
  · omega
theorem hdr_ltr {hd : Nat → Int} {x : Int} (h : hdrE hd = 0) (h1 : 0 ≤ hd 4 + x) (h2 : hd 4 + x ≤ 100000) : hdrE (ltr hd x) = 0 := by
  refine hdr_of fun i hi => ?_
  have := hdr_ok h hi
  unfold ltr
  split
  · subst i
    exact ⟨by rw [show hlo 4 = 0 from rfl]; exact h1, by rw [show hhi 4 = 100000 from rfl]; exact h2⟩
  · exact this
theorem lchk_of {l : List Nat} (h1 : l.length ≤ 1024) (h2 : ∀ x ∈ l, smpE x = 0) : lchk l = 0 := by
  unfold lchk
  rw [if_neg (by omega)]
  refine firstNZ_all fun e he => ?_
  obtain ⟨x, hx, rfl⟩ := List.mem_map.1 he
  exact h2 x hx
theorem trE_of {t : Trc} (h1 : hdrE t.hd = 0) (h2 : t.hole = true → t.n = 0) (h3 : lchk t.l = 0) : trE t = 0 := by
  unfold trE
  rw [if_neg (by simp [h1])]
  by_cases hh : t.hole = true ∧ 0 < t.n
  · have := h2 hh.1; omega
  · rw [if_neg hh]; exact h3
/-- What makes a shot valid. -/
structure Val (nm : ByteArray) (ts : List Trc) : Prop where
  name : isNameB nm = true
  pos : 0 < ts.length
  most : ts.length ≤ 64
  tr : ∀ t ∈ ts, hdrE t.hd = 0 ∧ (t.hole = true → t.n = 0) ∧ t.l.length = t.n ∧ t.n ≤ 1024 ∧ ∀ x ∈ t.l, smpE x = 0
  wide : ∀ t ∈ ts, t.hole = false → t.n = wid ts
theorem Val.err {nm : ByteArray} {ts : List Trc} (v : Val nm ts) : shE nm ts = 0 := by
  unfold shE
  rw [if_neg (by rw [v.name]; simp), if_neg (by have := v.pos; omega), if_neg (by have := v.most; omega)]
  have h : firstNZ (ts.map trE) = 0 := firstNZ_all fun e he => by
    obtain ⟨t, ht, rfl⟩ := List.mem_map.1 he
    obtain ⟨a, b, c, d, e⟩ := v.tr t ht
    exact trE_of a b (lchk_of (by omega) e)
  rw [h, if_neg (by decide)]
  have : mism (wid ts) ts = false := by
    unfold mism
    rw [List.any_eq_false]
    intro t ht
    cases hh : t.hole with
    | true => simp
    | false => simp [v.wide t ht hh]
  rw [this]
  rfl
theorem val_of {nm : ByteArray} {v : Value} {n : Nat} {ts : List Trc} (s : SlT G h v n ts) (hE : shE nm ts = 0) : Val nm ts := by
  obtain ⟨k1, k2, k3, k4, k5⟩ := shE_ok hE
  obtain ⟨v1, v2, v3, v4, v5⟩ := valid_facts s hE
  exact ⟨k1, k2, k3, fun t ht => ⟨(tr_ok (k4 t ht)).1, v5 t ht, v2 t ht, v3 t ht, v4 t ht⟩, k5⟩
theorem wid_hole : ∀ {ts : List Trc}, (∀ t ∈ ts, t.hole = true) → wid ts = 0
  | [], _ => rfl
  | t :: ts, q => by
    unfold wid
    rw [q t List.mem_cons_self]
    exact wid_hole fun t ht => q t (List.mem_cons_of_mem _ ht)
theorem wid_same : ∀ {ts : List Trc} {w : Nat}, (∀ t ∈ ts, t.hole = false → t.n = w) → (∃ t ∈ ts, t.hole = false) → wid ts = w
  | [], _, _, ⟨_, q, _⟩ => by cases q
  | t :: ts, w, q, ⟨u, hu, hh⟩ => by
    unfold wid
    cases ht : t.hole with
    | true =>
      rw [if_pos rfl]
      rcases List.mem_cons.1 hu with rfl | hu
      · rw [ht] at hh; cases hh
      · exact wid_same (fun t ht => q t (List.mem_cons_of_mem _ ht)) ⟨u, hu, hh⟩
    | false => rw [if_neg (by simp)]; exact q t List.mem_cons_self ht
/-- A trace with a key. -/
def ofKey (k : Key) : Trc := ⟨k.1, k.2.1, none, k.2.2.1, 0, k.2.2.2⟩
def cutT (lo hi : Nat) (t : Trc) : Trc := ofKey (cutKey lo hi 0 t)
def cutTs (lo hi : Nat) (ts : List Trc) : List Trc := ts.map (cutT lo hi)
theorem keys_cut {lo hi : Nat} {us ts : List Trc} (h : KeyAll us ts (cutKey lo hi)) : us.map Trc.key = (cutTs lo hi ts).map Trc.key := by
  refine List.ext_getElem (by simp [cutTs, h.1]) fun i h1 h2 => ?_
  have q1 : i < us.length := by simpa using h1
  have q2 : i < ts.length := by rw [← h.1]; exact q1
  rw [List.getElem_map, List.getElem_map]
  unfold cutTs
  rw [List.getElem_map, h.2 i q1 q2]
  rfl
theorem cutT_hole {lo hi : Nat} {t : Trc} (hh : t.hole = true) : cutT lo hi t = ⟨ltr t.hd lo, true, none, 0, 0, []⟩ := by
  unfold cutT ofKey cutKey chKey
  rw [if_pos hh]
theorem cutT_live {lo hi : Nat} {t : Trc} (hh : t.hole = false) : cutT lo hi t = ⟨ltr t.hd lo, false, none, (((t.l.map smp).drop lo).take (hi - lo)).length, 0, (((t.l.map smp).drop lo).take (hi - lo)).map smpW⟩ := by
  unfold cutT ofKey cutKey chKey
  rw [if_neg (by simp [hh])]
  rfl
theorem cutT_holes {lo hi : Nat} {t : Trc} : (cutT lo hi t).hole = t.hole := by
  cases hh : t.hole with
  | true => rw [cutT_hole hh]
  | false => rw [cutT_live hh]
theorem cutT_hd {lo hi : Nat} {t : Trc} : (cutT lo hi t).hd = ltr t.hd lo := by
  cases hh : t.hole with
  | true => rw [cutT_hole hh]
  | false => rw [cutT_live hh]
theorem Val.smp_le {nm : ByteArray} {ts : List Trc} (v : Val nm ts) {t : Trc} (ht : t ∈ ts) {z : Int} (hz : z ∈ t.l.map smp) : z.natAbs ≤ 16384 := by
  obtain ⟨x, hx, rfl⟩ := List.mem_map.1 hz
  exact Go.Proofs.YtdelgpbfdimefaaGreatDoor.smp_le ((v.tr t ht).2.2.2.2 x hx)
theorem cut_wid {nm : ByteArray} {ts : List Trc} {lo hi : Nat} (v : Val nm ts) (h1 : lo ≤ hi) (h2 : hi ≤ wid ts) : (∀ t ∈ cutTs lo hi ts, t.hole = false → t.n = hi - lo) ∧ wid (cutTs lo hi ts) = hi - lo := by
  have key : ∀ t ∈ cutTs lo hi ts, t.hole = false → t.n = hi - lo := by
    intro t ht hh
    obtain ⟨u, hu, rfl⟩ := List.mem_map.1 ht
    rw [cutT_holes] at hh
    have e1 := v.wide u hu hh
    have e2 := (v.tr u hu).2.2.1
    rw [cutT_live hh]
    simp
    omega
  refine ⟨key, ?_⟩
  by_cases hx : ∃ t ∈ cutTs lo hi ts, t.hole = false
  · exact wid_same key hx
  · have : ∀ t ∈ ts, t.hole = true := fun t ht => by
      cases hh : t.hole with
      | true => rfl
      | false => exact absurd ⟨cutT lo hi t, List.mem_map_of_mem ht, by rw [cutT_holes, hh]⟩ hx
    have e0 := wid_hole this
    rw [wid_hole]
    · omega
    · intro t ht
      obtain ⟨u, hu, rfl⟩ := List.mem_map.1 ht
      rw [cutT_holes, this u hu]
theorem Val.cut {nm : ByteArray} {ts : List Trc} {lo hi : Nat} (v : Val nm ts) (h1 : lo ≤ hi) (h2 : hi ≤ wid ts) (hl : ∀ t ∈ ts, t.hd 4 + lo ≤ 100000) : Val nm (cutTs lo hi ts) := by
  obtain ⟨w1, w2⟩ := cut_wid v h1 h2
  refine ⟨v.name, by simpa [cutTs] using v.pos, by simpa [cutTs] using v.most, fun t ht => ?_, by rw [w2]; exact w1⟩
  obtain ⟨u, hu, rfl⟩ := List.mem_map.1 ht
  obtain ⟨a, b, c, d, e⟩ := v.tr u hu
  have hh4 := hdr_ok a (i := 4) (by omega)
  rw [show hlo 4 = 0 from rfl] at hh4
  have hlu := hl u hu
  refine ⟨by rw [cutT_hd]; exact hdr_ltr a (by omega) (by omega), ?_⟩
  cases hh : u.hole with
  | true => rw [cutT_hole hh]; simp
  | false =>
    rw [cutT_live hh]
    refine ⟨fun q => (by cases q), by simp, (by simp; omega), fun x hx => ?_⟩
    obtain ⟨z, hz, rfl⟩ := List.mem_map.1 hx
    exact (smpW_ok (v.smp_le hu (List.mem_of_mem_drop (List.mem_of_mem_take hz)))).1
theorem cut_holL {lo hi : Nat} : ∀ {ts : List Trc} {k : Nat}, holL k (cutTs lo hi ts) = holL k ts
  | [], _ => rfl
  | t :: ts, k => by
    show holL k (cutT lo hi t :: cutTs lo hi ts) = _
    unfold holL
    rw [cutT_holes, cut_holL]
theorem cut_late {ts : List Trc} {x : Nat} (hl : ∀ t ∈ ts, t.hd 4 + x ≤ 100000) : lateB x ts = false := by
  unfold lateB
  rw [List.any_eq_false]
  intro t ht
  have := hl t ht
  simp; omega
theorem cutC_val {nm : ByteArray} {ts : List Trc} {lo hi : Nat} (v : Val nm ts) (h1 : lo ≤ hi) (h2 : hi ≤ wid ts) (hl : ∀ t ∈ ts, t.hd 4 + lo ≤ 100000) : cutC nm ts lo hi = 0 := by
  have : spanE lo hi (wid ts : Nat) = 0 := by unfold spanE; rw [if_neg (by omega)]
  rw [cutC_L v.err this, cut_late hl]
  rfl
theorem ltr_ltr {hd : Nat → Int} {x y : Int} : ltr (ltr hd x) y = ltr hd (x + y) := by
  funext i
  unfold ltr
  by_cases h : i = 4
  · simp [h]; omega
  · simp [h]
theorem map_smp_W {l : List Int} (h : ∀ z ∈ l, z.natAbs ≤ 16384) : (l.map smpW).map smp = l := by
  rw [List.map_map]
  conv => rhs; rw [← List.map_id l]
  exact List.map_congr_left fun z hz => (smpW_ok (h z hz)).2
/-- A cut of a cut is a cut. -/
theorem cut_cut {nm : ByteArray} {ts : List Trc} {lo hi m w : Nat} (v : Val nm ts) (h1 : m ≤ w) (h2 : lo + w ≤ hi) {t : Trc} (ht : t ∈ ts) : cutT m w (cutT lo hi t) = cutT (lo + m) (lo + w) t := by
  cases hh : t.hole with
  | true => rw [cutT_hole hh, cutT_hole (by rfl), cutT_hole hh, ltr_ltr]; push_cast; rfl
  | false =>
    have hz : ∀ z ∈ ((t.l.map smp).drop lo).take (hi - lo), z.natAbs ≤ 16384 := fun z hz => v.smp_le ht (List.mem_of_mem_drop (List.mem_of_mem_take hz))
    rw [cutT_live hh, cutT_live (by rfl), cutT_live hh]
    simp only [map_smp_W hz]
    have e : ((((t.l.map smp).drop lo).take (hi - lo)).drop m).take (w - m) = ((t.l.map smp).drop (lo + m)).take (lo + w - (lo + m)) := by
      rw [List.drop_take, List.take_take, List.drop_drop]
      congr 1
      omega
    rw [e, ltr_ltr]
    push_cast
    rfl
end Go.Proofs.YtdelgpbfdimefaaGreatDoor

/- Cuts joined, told as lists of traces: facts without a machine. -/
namespace Go.Proofs.YtdelgpbfdimefaaGreatDoor
open Go Go.Ab Go.Fl
variable {G : Base} {h : H}
attribute [local irreducible] smpE smp smpW isNameB
theorem feq_self {x : Nat} (h : smpE x = 0) : (Ieee.single.order x x == some .eq) = true := by
  obtain ⟨s, m, e, hr, hv, hlo, hhi⟩ := smp_read h
  exact num_self ⟨s, m, e, hr, by have := (read_single hr).2.1; omega, rfl⟩
theorem feqL_self {l : List Nat} (h : ∀ x ∈ l, smpE x = 0) : fEqL l l := ⟨rfl, fun i q q' => feq_self (h _ (List.getElem_mem q))⟩
theorem trs_self {ts us : List Trc} (q : us.map Trc.key = ts.map Trc.key) (hv : ∀ t ∈ ts, ∀ x ∈ t.l, smpE x = 0) : TrsS us ts := by
  have hl : us.length = ts.length := by simpa using congrArg List.length q
  refine ⟨hl, fun i h1 h2 => ?_⟩
  obtain ⟨e1, e2, e3, e4⟩ := key_eq (keys_at q h1 h2)
  refine ⟨fun j _ => by rw [e1], e2, e3, ?_⟩
  rw [e4]
  exact feqL_self (hv _ (List.getElem_mem h2))
theorem trs_keys {ts us ts' us' : List Trc} (q : us.map Trc.key = ts.map Trc.key) (q' : us'.map Trc.key = ts'.map Trc.key) (h : TrsS ts ts') : TrsS us us' := by
  have hl : us.length = ts.length := by simpa using congrArg List.length q
  have hl' : us'.length = ts'.length := by simpa using congrArg List.length q'
  refine ⟨by rw [hl, hl', h.1], fun i h1 h2 => ?_⟩
  obtain ⟨e1, e2, e3, e4⟩ := key_eq (keys_at q h1 (by omega))
  obtain ⟨f1, f2, f3, f4⟩ := key_eq (keys_at q' h2 (by omega))
  obtain ⟨a, b, c, d⟩ := h.2 i (by omega) (by omega)
  exact ⟨fun j hj => by rw [e1, f1]; exact a j hj, by rw [e2, f2]; exact b, by rw [e3, f3]; exact c, by rw [e4, f4]; exact d⟩
def joinT (t u : Trc) : Trc := ofKey (if (t.hole || u.hole) = true then (t.hd, true, 0, []) else (t.hd, false, (t.l.map smp ++ u.l.map smp).length, (t.l.map smp ++ u.l.map smp).map smpW))
def joinTs (ts us : List Trc) : List Trc := List.zipWith joinT ts us
theorem keys_join {vs ts us : List Trc} (hl : ts.length = us.length) (h : KeyAll vs (mskL ts us) (chKey (mrgF catF us))) : vs.map Trc.key = (joinTs ts us).map Trc.key := by
  have hlm := mskL_len hl
  refine List.ext_getElem (by simp [joinTs, h.1, hlm, hl]) fun i h1 h2 => ?_
  have q1 : i < vs.length := by simpa using h1
  have q2 : i < (mskL ts us).length := by rw [← h.1]; exact q1
  have q3 : i < ts.length := by omega
  have q4 : i < us.length := by omega
  rw [List.getElem_map, List.getElem_map, h.2 i q1 q2, mskL_get q2 q3 q4]
  unfold joinTs
  rw [List.getElem_zipWith]
  unfold joinT chKey mrgF catF msk
  rw [getL_eq q4]
  rfl
theorem ltr_zero {hd : Nat → Int} : ltr hd 0 = hd := by
  funext i
  unfold ltr
  split
  · subst i; omega
  · rfl
theorem join_cuts {nm : ByteArray} {ts : List Trc} {k : Nat} (v : Val nm ts) (hk : k ≤ wid ts) : TrsS (joinTs (cutTs 0 k ts) (cutTs k (wid ts) ts)) ts := by
  refine ⟨by simp [joinTs, cutTs], fun i h1 h2 => ?_⟩
  obtain ⟨t, ht⟩ : ∃ t, ts[i] = t := ⟨_, rfl⟩
  have hm : t ∈ ts := ht ▸ List.getElem_mem h2
  have e : (joinTs (cutTs 0 k ts) (cutTs k (wid ts) ts))[i] = joinT (cutT 0 k t) (cutT k (wid ts) t) := by
    simp only [joinTs, cutTs, List.getElem_zipWith, List.getElem_map, ht]
  rw [e, ht]
  obtain ⟨a, b, c, d, e5⟩ := v.tr t hm
  cases hh : t.hole with
  | true =>
    rw [cutT_hole hh, cutT_hole hh]
    have hn := b hh
    have hl0 : t.l = [] := List.length_eq_zero_iff.1 (by omega)
    refine ⟨fun j _ => ?_, hh.symm, hn.symm, ?_⟩
    · show ltr t.hd ((0 : Nat) : Int) j = _; rw [show ((0 : Nat) : Int) = 0 from rfl, ltr_zero]
    · rw [hl0]; exact ⟨rfl, fun i q => absurd q (Nat.not_lt_zero i)⟩
  | false =>
    have hw := v.wide t hm hh
    have hz : ∀ z ∈ t.l.map smp, z.natAbs ≤ 16384 := fun z hz => v.smp_le hm hz
    have hL : (t.l.map smp).length = wid ts := by simp; omega
    obtain ⟨L, hLe⟩ : ∃ L, t.l.map smp = L := ⟨_, rfl⟩
    have hcut : (L.drop 0).take (k - 0) ++ (L.drop k).take (wid ts - k) = L := by
      rw [List.drop_zero, Nat.sub_zero, List.take_of_length_le (l := L.drop k) (by rw [List.length_drop, ← hLe, hL]; omega), List.take_append_drop]
    rw [hLe] at hz hL
    have z1 : ∀ z ∈ (L.drop 0).take (k - 0), z.natAbs ≤ 16384 := fun z q => hz z (List.mem_of_mem_drop (List.mem_of_mem_take q))
    have z2 : ∀ z ∈ (L.drop k).take (wid ts - k), z.natAbs ≤ 16384 := fun z q => hz z (List.mem_of_mem_drop (List.mem_of_mem_take q))
    rw [cutT_live hh, cutT_live hh, hLe]
    unfold joinT
    simp only [map_smp_W z1, map_smp_W z2, hcut, Bool.or_self, Bool.false_eq_true, if_false]
    refine ⟨fun j _ => ?_, hh.symm, ?_, ?_⟩
    · show ltr t.hd ((0 : Nat) : Int) j = _; rw [show ((0 : Nat) : Int) = 0 from rfl, ltr_zero]
    · show L.length = t.n; omega
    · show fEqL (L.map smpW) t.l
      rw [← hLe]
      exact feq_list e5
theorem hdB_refl (x : Nat → Int) : hdB x x = true := by simp [hdB]
theorem folM_none {w : Int} {f g : Trc → Trc} : ∀ {ts : List Trc}, (∀ t ∈ ts, hdB (ltrW (f t).hd w) (g t).hd = true) → folM w (ts.map f) (ts.map g) = false
  | [], _ => rfl
  | t :: ts, q => by
    show (!hdB (ltrW (f t).hd w) (g t).hd || folM w (ts.map f) (ts.map g)) = false
    rw [q t List.mem_cons_self, folM_none fun t ht => q t (List.mem_cons_of_mem _ ht)]
    rfl
theorem bigM_none {f g : Trc → Trc} : ∀ {ts : List Trc}, (∀ t ∈ ts, (f t).hole = false → (f t).n + (g t).n ≤ 1024) → bigM (ts.map f) (ts.map g) = false
  | [], _ => rfl
  | t :: ts, q => by
    show ((!(f t).hole && !(g t).hole && decide (1024 < (f t).n + (g t).n)) || bigM (ts.map f) (ts.map g)) = false
    rw [bigM_none fun t ht => q t (List.mem_cons_of_mem _ ht)]
    cases hh : (f t).hole with
    | true => simp
    | false =>
      have := q t List.mem_cons_self hh
      rw [decide_eq_false (by omega)]
      simp
theorem fol_cuts {nm : ByteArray} {ts : List Trc} {k : Nat} (v : Val nm ts) (hk : k ≤ wid ts) (hW : wid ts ≤ 1024) (hl : ∀ t ∈ ts, t.hd 4 + k ≤ 100000) : folE (cutTs 0 k ts) (cutTs k (wid ts) ts) = 0 := by
  have w1 := (cut_wid v (lo := 0) (hi := k) (by omega) hk).2
  unfold folE
  rw [if_neg (by simp [cutTs]), w1]
  have e1 : folM ((k - 0 : Nat) : Int) (cutTs 0 k ts) (cutTs k (wid ts) ts) = false := folM_none fun t ht => by
    rw [cutT_hd, cutT_hd]
    have h4 := hdr_ok (v.tr t ht).1 (i := 4) (by omega)
    rw [show hlo 4 = 0 from rfl, show hhi 4 = 100000 from rfl] at h4
    have := hl t ht
    rw [ltrW_eq (by show (ltr t.hd ((0 : Nat) : Int) 4).natAbs ≤ _; rw [show ((0 : Nat) : Int) = 0 from rfl, ltr_zero]; omega) (by omega), ltr_ltr]
    rw [show ((0 : Nat) : Int) + ((k - 0 : Nat) : Int) = (k : Int) by omega]
    exact hdB_refl _
  have e2 : bigM (cutTs 0 k ts) (cutTs k (wid ts) ts) = false := bigM_none fun t ht hh => by
    rw [cutT_holes] at hh
    have := v.wide t ht hh
    have := (v.tr t ht).2.2.1
    rw [cutT_live hh, cutT_live hh]
    simp
    omega
  rw [e1, e2]
  rfl
theorem fol_back {nm : ByteArray} {ts : List Trc} {k : Nat} (v : Val nm ts) (hk : k ≤ wid ts) (h0 : 0 < wid ts) (hW : wid ts ≤ 1024) (hl : ∀ t ∈ ts, t.hd 4 + k ≤ 100000) : folE (cutTs k (wid ts) ts) (cutTs 0 k ts) = 24 := by
  have w1 := (cut_wid v (lo := k) (hi := wid ts) hk (Nat.le_refl _)).2
  unfold folE
  rw [if_neg (by simp [cutTs]), w1, if_pos]
  obtain ⟨t, us, hts⟩ : ∃ t us, ts = t :: us := by
    have := v.pos
    cases ts with
    | nil => simp at this
    | cons t us => exact ⟨t, us, rfl⟩
  have ht : t ∈ ts := hts ▸ List.mem_cons_self
  have h4 := hdr_ok (v.tr t ht).1 (i := 4) (by omega)
  rw [show hlo 4 = 0 from rfl, show hhi 4 = 100000 from rfl] at h4
  have hl := hl t ht
  obtain ⟨W, hWe⟩ : ∃ W, wid ts = W := ⟨_, rfl⟩
  rw [hWe] at hk h0 hW ⊢
  clear hWe ht w1
  subst hts
  show (!hdB (ltrW (cutT k W t).hd ((W - k : Nat) : Int)) (cutT 0 k t).hd || _) = true
  have : hdB (ltrW (cutT k W t).hd ((W - k : Nat) : Int)) (cutT 0 k t).hd = false := by
    rw [cutT_hd, cutT_hd, ltrW_eq (by show (ltr t.hd (k : Int) 4).natAbs ≤ _; unfold ltr; rw [if_pos rfl]; omega) (by omega), ltr_ltr, show ((0 : Nat) : Int) = 0 from rfl, ltr_zero]
    unfold hdB
    have : ltr t.hd ((k : Int) + ((W - k : Nat) : Int)) 4 ≠ t.hd 4 := by unfold ltr; rw [if_pos rfl]; omega
    rw [decide_eq_false this]
    simp
  rw [this]
  rfl
theorem joinC_val {nm nm' : ByteArray} {ts us : List Trc} (v : Val nm ts) (v' : Val nm' us) : joinC nm ts nm' us = folE ts us := by
  unfold joinC
  rw [first3, if_neg (by simp [v.err]), if_neg (by simp [v'.err])]
end Go.Proofs.YtdelgpbfdimefaaGreatDoor

/- Contracts told of keys. -/
namespace Go.Proofs.YtdelgpbfdimefaaGreatDoor
open Go Go.Ab Go.Fl
variable {G : Base} {h : H}
/-- A list of traces with the keys of others. -/
def SlK (G : Base) (h : H) (v : Value) (n : Nat) (ts : List Trc) : Prop := ∃ us, SlT G h v n us ∧ us.map Trc.key = ts.map Trc.key
theorem SlK.grow {h h' : H} {v : Value} {n : Nat} {ts : List Trc} (s : SlK G h v n ts) (g : Grow h h') : SlK G h' v n ts := s.imp fun _ ⟨a, b⟩ => ⟨a.grow g, b⟩
theorem SlK.setF {n B : Nat} {v : Value} {ts : List Trc} (s : SlK G h v n ts) (hf : Free h B) (o : AObj) : SlK G (h.set B o) v n ts := s.imp fun _ ⟨a, b⟩ => ⟨a.setF hf o, b⟩
theorem SlT.k {n : Nat} {v : Value} {ts : List Trc} (s : SlT G h v n ts) : SlK G h v n ts := ⟨ts, s, rfl⟩
theorem SlK.len {n : Nat} {v : Value} {ts : List Trc} (s : SlK G h v n ts) : ts.length = n := by
  obtain ⟨us, a, b⟩ := s
  rw [← a.len]
  simpa using (congrArg List.length b).symm
theorem k31 {nm : ByteArray} {a : Option Addr} {n c : Nat} {ts : List Trc} (s : SlK G h (.slice a n c) n ts) (hn : n ≤ 65) (hl : ∀ t ∈ ts, t.n < 1000000) (hw : Wf h) : Cf (mz G) (.func (.func 31) #[] #[]) [.agg ⟨shC nm a n c⟩] h fun r h' => (∃ a' c', r = .agg ⟨shC nm a' n c'⟩ ∧ SlK G h' (.slice a' n c') n ts) ∧ Grow h h' := by
  obtain ⟨us, st, q⟩ := s
  exact (c31 (nm := nm) st hn (keys_n q hl) hw).mono fun r h' ⟨⟨a', c', vs, e, sv, q'⟩, g⟩ => ⟨⟨a', c', e, vs, sv, q'.trans q⟩, g⟩
theorem k81 {nm : ByteArray} {a : Option Addr} {n c : Nat} {ts : List Trc} (s : SlK G h (.slice a n c) n ts) (hn : n ≤ 65) (hw : Wf h) : Cf (mz G) (.func (.func 81) #[] #[]) [.agg ⟨shC nm a n c⟩] h fun r h' => (∃ a' c', r = .agg ⟨shC nm a' n c'⟩ ∧ SlK G h' (.slice a' n c') n ts) ∧ Grow h h' := by
  obtain ⟨us, st, q⟩ := s
  exact (c81 (nm := nm) st hn hw).mono fun r h' ⟨⟨a', c', e, sv⟩, g⟩ => ⟨⟨a', c', e, us, sv, q⟩, g⟩
theorem Val.n {nm : ByteArray} {ts : List Trc} (v : Val nm ts) : ∀ t ∈ ts, t.n < 1000000 := fun t ht => by have := (v.tr t ht).2.2.2.1; omega
theorem Val.nm {nm : ByteArray} {ts : List Trc} (v : Val nm ts) : nm.size ≤ 1000000 := by
  have := v.name
  unfold isNameB at this
  simp only [Bool.and_eq_true, decide_eq_true_eq] at this
  omega
theorem k35 {nm : ByteArray} {a : Option Addr} {n c : Nat} {ts : List Trc} (s : SlK G h (.slice a n c) n ts) (v : Val nm ts) (hw : Wf h) : Cf (mz G) (.func (.func 35) #[] #[]) [.agg ⟨shC nm a n c⟩] h fun r h' => r = .int .i64 0 ∧ Grow h h' := by
  have hn := s.len
  have hp := v.most
  obtain ⟨us, st, q⟩ := s
  have := c35 (nm := nm) st (by omega) (keys_n q v.n) v.nm hw
  rw [keys_shE q, v.err] at this
  exact this
theorem k30 {nm : ByteArray} {a : Option Addr} {n c : Nat} {ts : List Trc} (s : SlK G h (.slice a n c) n ts) (v : Val nm ts) (hw : Wf h) (hG : ∀ a v, laidBase a = some v → G a = some v) : Cf (mz G) (.func (.func 30) #[] #[]) [.agg ⟨shC nm a n c⟩] h fun r h' => r = .tuple #[.int .i64 (wid ts : Nat), .int .i64 0] ∧ Grow h h' := by
  have hn := s.len
  have hp := v.most
  obtain ⟨us, st, q⟩ := s
  have := c30w (nm := nm) st q (by omega) v.n hw hG
  rw [v.err] at this
  simpa using this
theorem k32 {nm : ByteArray} {a : Option Addr} {n c : Nat} {ts : List Trc} (s : SlK G h (.slice a n c) n ts) (v : Val nm ts) (hw : Wf h) (hG : ∀ a v, laidBase a = some v → G a = some v) : Cf (mz G) (.func (.func 32) #[] #[]) [.agg ⟨shC nm a n c⟩] h fun r h' => (∃ w, r = .tuple #[w, .int .i64 0] ∧ Sl G h' 1 w (holL 0 ts).length ((holL 0 ts).map (.int .i64))) ∧ Grow h h' := by
  have hn := s.len
  have hp := v.most
  obtain ⟨us, st, q⟩ := s
  have := c32w (nm := nm) st q (by omega) v.n hw hG
  rw [v.err] at this
  simpa using this
theorem k82 {nm : ByteArray} {a a' : Option Addr} {n c c' : Nat} {ts us : List Trc} (s : SlK G h (.slice a n c) n ts) (s' : SlK G h (.slice a' n c') n us) (hn : n ≤ 65) (hl : ∀ t ∈ ts, t.n < 1000000) (q : TrsS ts us) (hw : Wf h) : Cf (mz G) (.func (.func 82) #[] #[]) [.agg ⟨shC nm a n c⟩, .agg ⟨shC nm a' n c'⟩] h fun r h' => r = .bool true ∧ Grow h h' := by
  obtain ⟨vs, st, e⟩ := s
  obtain ⟨ws, st', e'⟩ := s'
  exact c82 (nm := nm) st st' (by omega) (keys_n e hl) (trs_keys e e' q) hw
theorem k42 {nm : ByteArray} {a : Option Addr} {n c lo hi : Nat} {ts : List Trc} (s : SlK G h (.slice a n c) n ts) (v : Val nm ts) (h1 : lo ≤ hi) (h2 : hi ≤ wid ts) (hl : ∀ t ∈ ts, t.hd 4 + lo ≤ 100000) (hw : Wf h) (hG : ∀ a v, laidBase a = some v → G a = some v) :
    Cf (mz G) (.func (.func 42) #[] #[]) [.agg ⟨shC nm a n c⟩, .agg ⟨[.int .i64 (lo : Nat), .int .i64 (hi : Nat)]⟩] h fun r h' => (∃ aR cR, r = .tuple #[.agg ⟨shC nm aR n cR⟩, .int .i64 0] ∧ SlK G h' (.slice aR n cR) n (cutTs lo hi ts)) ∧ Grow h h' := by
  have hn := s.len
  have hp := v.most
  obtain ⟨us, st, q⟩ := s
  refine (c42m (nm := nm) (x := (lo : Nat)) (y := (hi : Nat)) st q (by omega) v.n hw hG).mono fun r h' ⟨⟨nmR, aR, nR, cR, e, m⟩, g⟩ => ⟨?_, g⟩
  rw [cutC_val v h1 h2 hl] at e m
  rcases m with ⟨z, _⟩ | ⟨_, rfl, rfl, vs, sv, z⟩
  · exact absurd rfl z
  · exact ⟨aR, cR, e, vs, sv, keys_cut (z lo hi rfl rfl)⟩
theorem k43 {nm nm' : ByteArray} {a a' : Option Addr} {n c c' : Nat} {ts us : List Trc} (s : SlK G h (.slice a n c) n ts) (s' : SlK G h (.slice a' n c') n us) (v : Val nm ts) (v' : Val nm' us) (hf : folE ts us = 0) (hw : Wf h) (hG : ∀ a v, laidBase a = some v → G a = some v) :
    Cf (mz G) (.func (.func 43) #[] #[]) [.agg ⟨shC nm a n c⟩, .agg ⟨shC nm' a' n c'⟩] h fun r h' => (∃ aR cR, r = .tuple #[.agg ⟨shC nm aR n cR⟩, .int .i64 0] ∧ SlK G h' (.slice aR n cR) n (joinTs ts us)) ∧ Grow h h' := by
  have hn := s.len
  have hn' := s'.len
  have hp := v.most
  obtain ⟨vs, st, q⟩ := s
  obtain ⟨ws, st', q'⟩ := s'
  refine (c43m (nm := nm) (nm' := nm') st st' q q' (by omega) (by omega) v.n v'.n hw hG).mono fun r h' ⟨⟨nmR, aR, nR, cR, e, m⟩, g⟩ => ⟨?_, g⟩
  rw [joinC_val v v', hf] at e m
  rcases m with ⟨z, _⟩ | ⟨_, rfl, rfl, vs, sv, z⟩
  · exact absurd rfl z
  · exact ⟨aR, cR, e, vs, sv, keys_join (by omega) z⟩
theorem k43e {nm nm' : ByteArray} {a a' : Option Addr} {n c c' : Nat} {ts us : List Trc} (s : SlK G h (.slice a n c) n ts) (s' : SlK G h (.slice a' n c') n us) (v : Val nm ts) (v' : Val nm' us) (hw : Wf h) (hG : ∀ a v, laidBase a = some v → G a = some v) :
    Cf (mz G) (.func (.func 43) #[] #[]) [.agg ⟨shC nm a n c⟩, .agg ⟨shC nm' a' n c'⟩] h fun r h' => (∃ nmR aR nR cR, r = .tuple #[.agg ⟨shC nmR aR nR cR⟩, .int .i64 (folE ts us)]) ∧ Grow h h' := by
  have hn := s.len
  have hn' := s'.len
  have hp := v.most
  obtain ⟨vs, st, q⟩ := s
  obtain ⟨ws, st', q'⟩ := s'
  refine (c43m (nm := nm) (nm' := nm') st st' q q' (by omega) (by omega) v.n v'.n hw hG).mono fun r h' ⟨⟨nmR, aR, nR, cR, e, m⟩, g⟩ => ⟨?_, g⟩
  rw [joinC_val v v'] at e
  exact ⟨nmR, aR, nR, cR, e⟩
end Go.Proofs.YtdelgpbfdimefaaGreatDoor
