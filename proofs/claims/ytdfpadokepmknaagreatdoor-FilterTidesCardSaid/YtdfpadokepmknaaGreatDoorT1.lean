/- Tides: their check. -/
import Derived.Test.YtdfpadokepmknaaGreatDoorH3
set_option linter.all false
/- Tides: rows of two integers, their checks. -/
namespace Go.Proofs.YtdfpadokepmknaaGreatDoor
open Go Go.Ab Go.Fl
attribute [local irreducible] SeqQ BlkQ LpQ RetQ Wc Wo WD WX Op1 Op1q Op1a Cf Cl From
attribute [local irreducible] Ieee.Format.order Ieee.Format.read Ieee.Format.nearest Ieee.Format.write Ieee.Format.mul Ieee.Format.div Ieee.Datum.order Ieee.Datum.integral smpE smp smpW K J U sumN lchk tchk trE hdrE appL undL undA undI wr ghoL rnd mulL dghL dghA rngE notN innL lowN lowD madeE pairE subL subF anyLarge subE remE difL
set_option maxRecDepth 10000
variable {G : Base} {h : H}

def tidC (t : Int × Int) : List Value := [.int .i64 t.1, .int .i64 t.2]
theorem tid_drop : ∀ (ts : List (Int × Int)) (k : Nat) (hk : k < ts.length), (ts.flatMap tidC).drop (k * 2) = tidC (ts[k]) ++ (ts.drop (k + 1)).flatMap tidC
  | t :: ts, 0, _ => by simp
  | t :: ts, k + 1, hk => by
    have ih := tid_drop ts k (by simpa using hk)
    have e : ((t :: ts).flatMap tidC).drop ((k + 1) * 2) = (ts.flatMap tidC).drop (k * 2) := by
      rw [List.flatMap_cons, show (k + 1) * 2 = (tidC t).length + k * 2 by simp [tidC]; omega, List.drop_append]
      simp
    rw [e, ih]; rfl
theorem cells_left {G : Base} {h : H} {a : Addr} {x y : List Value} (c : Cells G h a (x ++ y)) : Cells G h a x := ⟨c.lt, fun i v q => c.get i v (by rw [List.getElem?_append_left (List.getElem?_eq_some_iff.1 q).1]; exact q), c.spot, c.own⟩
theorem tid_len (ts : List (Int × Int)) : (ts.flatMap tidC).length = ts.length * 2 := by
  induction ts with
  | nil => rfl
  | cons t ts ih => rw [List.flatMap_cons, List.length_append, ih]; simp [tidC]; omega
theorem tid_at {v : Value} {n : Nat} {ts : List (Int × Int)} (s : Sl G h 2 v n (ts.flatMap tidC)) {st et : TypeId} (hu : Tryz.prog.underlying st = some (.slice et)) (hz : tsz Tryz.prog et = some 2) {i : Int} {q : Nat} (hq : q < n) (hi : i = (q : Int)) :
    ∃ ad, aindexAddr Tryz.prog st v (.int .i64 i) = some (.pointer (some ad)) ∧ Cells G h ad [.int .i64 (ts.getD q (0, 0)).1, .int .i64 (ts.getD q (0, 0)).2] := by
  have hl := s.length
  rw [tid_len] at hl
  obtain ⟨ad, h1, h2⟩ := s.addr (M := mz G) hu (es := 2) hz (i := i) (k := .i64) (by omega) (by omega)
  rw [show i.toNat * 2 = q * 2 by omega, tid_drop ts q (by omega)] at h2
  refine ⟨ad, h1, ?_⟩
  have := cells_left h2
  rw [show ts.getD q (0, 0) = ts[q]'(by omega) by simp [List.getD, List.getElem?_eq_getElem (show q < ts.length by omega)]]
  exact this
/-- The first error of a row. -/
def rowE (t : Int × Int) : Int := firstNZ [rngE t.1 0 100000, rngE t.2 (-64) 64]
theorem c155 (x : Int) : Cl (mz G) (.func (.func 155) #[] #[]) [.int .i64 x] h (.bool false) h := by
  refine cl_of_cf (cf_enter0 6 [.tmp 2] Tryz.func155 rfl rfl rfl rfl ?_)
  repeat' (first | with_reducible refine wo_nil ?_ | ((with_reducible refine wo_any ?_); first | ((with_reducible refine ik_move ?_); refine wo_op rfl (op_move rfl) rfl rfl ?_) | ((with_reducible refine ik_assign ?_); refine wo_op rfl (op_assign rfl) rfl rfl ?_) | ((with_reducible refine ik_bin ?_); refine wo_op rfl (op_neq rfl rfl) rfl rfl ?_)) | with_reducible refine sq_norm ?_ | with_reducible refine wc_seq ?_ | with_reducible refine wc_region ?_ | with_reducible refine wc_ret ?_)
  exact rq1 rfl ⟨by simp, rfl⟩
theorem c134 (x y : Int) : Cl (mz G) (.func (.func 134) #[] #[]) [.int .i64 x, .int .i64 y] h (.int .i64 (if x < y then -1 else if y < x then 1 else 0)) h := by
  refine cl_of_cf (cf_enter0 20 [.tmp 4] Tryz.func134 rfl rfl rfl rfl ?_)
  repeat' (first | with_reducible refine wo_nil ?_ | ((with_reducible refine wo_any ?_); first | ((with_reducible refine ik_move ?_); refine wo_op rfl (op_move rfl) rfl rfl ?_) | ((with_reducible refine ik_assign ?_); refine wo_op rfl (op_assign rfl) rfl rfl ?_) | ((with_reducible refine ik_bin ?_); first | refine wo_op rfl (op_lss rfl rfl) rfl rfl ?_ | refine wo_op rfl (op_gtr rfl rfl) rfl rfl ?_) | ((with_reducible refine ik_callF (f := 155) ?_); refine wo_op rfl (op_call rfl rfl (c155 _)) rfl rfl ?_)) | with_reducible refine sq_norm ?_ | with_reducible refine wc_seq ?_ | with_reducible refine wc_region ?_ | with_reducible refine wc_skip ?_ | with_reducible refine wc_ret ?_ | with_reducible refine sq_ret ?_ | refine wc_iff rfl ?_ | (refine wc_if rfl (fun hb => ?_) (fun hb => ?_) <;> (try simp only [decide_eq_true_eq, decide_eq_false_iff_not, Bool.not_eq_true', Bool.not_eq_false', Int.not_lt, Int.not_le, Decidable.not_not, not_true_eq_false, not_false_eq_true, beq_self_eq_true, reduceCtorEq] at hb) <;> (try (exfalso; omega))))
  all_goals refine rq1 rfl ⟨?_, rfl⟩
  all_goals first
    | rw [if_pos (by omega)]
    | rw [if_neg (by omega), if_pos (by omega)]
    | rw [if_neg (by omega), if_neg (by omega)]
theorem c100 (x : Int) : Cl (mz G) (.func (.func 100) #[] #[]) [.int .i64 x] h (.int .i64 (rngE x 0 100000)) h := by
  refine cl_of_cf (cf_enter0 5 [.tmp 2] Tryz.func100 rfl rfl rfl rfl ?_)
  repeat' (first | with_reducible refine wo_nil ?_ | ((with_reducible refine wo_any ?_); first | ((with_reducible refine ik_move ?_); refine wo_op rfl (op_move rfl) rfl rfl ?_) | ((with_reducible refine ik_assign ?_); refine wo_op rfl (op_assign rfl) rfl rfl ?_) | ((with_reducible refine ik_callF (f := 89) ?_); refine wo_op rfl (op_call rfl rfl (c89 x 0 100000)) rfl rfl ?_)) | with_reducible refine sq_norm ?_ | with_reducible refine wc_seq ?_ | with_reducible refine wc_region ?_ | with_reducible refine wc_ret ?_)
  exact rq1 rfl ⟨rfl, rfl⟩
theorem c103 {a b c d : Int} (hw : Wf h) : Cf (mz G) (.func (.func 103) #[] #[]) [.agg ⟨[.int .i64 a, .int .i64 b]⟩, .agg ⟨[.int .i64 c, .int .i64 d]⟩] h fun r h' => r = .int .i64 (if a < c then -1 else if c < a then 1 else 0) ∧ Grow h h' := by
  refine cf_enter0 10 [.tmp 4] Tryz.func103 rfl rfl rfl rfl ?_
  repeat' (first | with_reducible refine wo_nil ?_ | ((with_reducible refine wo_any ?_); first | ((with_reducible refine ik_assign ?_); refine wo_op rfl (op_assign rfl) rfl rfl ?_) | ((with_reducible refine ik_box ?_); refine wo_op rfl (op_boxAgg rfl zs103 rfl) rfl rfl ?_) | ((with_reducible refine ik_fieldAddr ?_); refine wo_op rfl (op_fieldAddr (o := 0) rfl Tryz.underlying103 rfl zs3 rfl) rfl rfl ?_) | ((with_reducible refine ik_load ?_); refine wo_op rfl (op_ldAt rfl at_A Tryz.underlying3 rfl rfl) rfl rfl ?_) | ((with_reducible refine ik_callF (f := 134) ?_); refine wo_op rfl (op_call rfl rfl (c134 _ _)) rfl rfl ?_)) | with_reducible refine sq_norm ?_ | with_reducible refine wc_seq ?_ | with_reducible refine wc_region ?_ | with_reducible refine wc_ret ?_)
  exact rq1 rfl ⟨rfl, gr_A⟩
theorem c104 {a b : Int} (hw : Wf h) : Cf (mz G) (.func (.func 104) #[] #[]) [.agg ⟨[.int .i64 a, .int .i64 b]⟩] h fun r h' => r = .int .i64 (rowE (a, b)) ∧ Grow h h' := by
  have q72 := fun (h' : H) (v : Value) (s : Sl G h' 1 v 2 ([rngE a 0 100000, rngE b (-64) 64].map (.int .i64))) => c72 s (by omega)
  refine cf_enter0 11 [.tmp 2] Tryz.func104 rfl rfl rfl rfl ?_
  repeat' (first | with_reducible refine wo_nil ?_ | ((with_reducible refine wo_any ?_); first | ((with_reducible refine ik_assign ?_); refine wo_op rfl (op_assign rfl) rfl rfl ?_) | ((with_reducible refine ik_box ?_); refine wo_op rfl (op_boxAgg rfl zs103 rfl) rfl rfl ?_)) | ((with_reducible refine xk_any ?_); first | ((with_reducible refine xk_as0 ?_); first | ((with_reducible refine xk_fieldAddr ?_); first | refine wx_q (wt_none rfl) rfl rfl (op_q rfl (op_fieldAddr (o := 0) rfl Tryz.underlying103 rfl zs3 rfl)) rfl rfl rfl ?_ | refine wx_q (wt_none rfl) rfl rfl (op_q rfl (op_fieldAddr (o := 1) rfl Tryz.underlying103 rfl zs3 rfl)) rfl rfl rfl ?_) | ((with_reducible refine xk_load ?_); refine wx_h0 (wt_none rfl) rfl (op_q rfl (op_ldAt rfl at_A Tryz.underlying3 rfl rfl)) rfl rfl rfl ?_) | ((with_reducible refine xk_buildSlice ?_); refine wx_a0 (wt_none rfl) rfl (oa_buildSlice rfl Tryz.underlying163 zs29 zz29 rfl rfl) rfl rfl ?_) | ((with_reducible refine xk_callF (f := 100) ?_); refine wx_ee (wt_none rfl) rfl rfl (op_call rfl rfl (c100 _)) rfl rfl ?_) | ((with_reducible refine xk_callF (f := 89) ?_); refine wx_ee (wt_none rfl) rfl rfl (op_call rfl rfl (c89 _ _ _)) rfl rfl ?_)) | ((with_reducible refine xk_assign ?_); refine wx_q (wt_none rfl) rfl rfl (op_q rfl (op_assign rfl)) rfl rfl rfl ?_) | ((with_reducible refine xk_callv ?_); ((with_reducible refine xk_as1 ?_); refine wx_e1 (wt_none rfl) rfl rfl rfl (op_call rfl rfl (q72 _ _ (Sl.ofAt (show At _ _ (.cells [.int .i64 (rngE a 0 100000), .int .i64 (rngE b (-64) 64)] 29 1 false) from at_A) rfl (Nat.le_refl _)))) rfl rfl ?_)) | refine wx_niln ?_ ?_ rfl rfl ?_) | with_reducible exact obl_nil | with_reducible refine obl_cons ?_ ?_ | ((with_reducible refine ik_obs ?_); first | exact obs_nil | refine obs_skip rfl ?_ | refine obs_chkn rfl rfl (op_q rfl (op_ldAt rfl at_A Tryz.underlying3 rfl (by rfl))) ?_) | with_reducible exact stk_nil | with_reducible refine stk_cons ?_ ?_ | ((with_reducible refine ik_stk ?_); first | exact stk_abs rfl rfl | exact stk_freeB rfl rfl wf_A gr_B) | with_reducible refine sq_norm ?_ | with_reducible refine wc_seq ?_ | with_reducible refine wc_region ?_ | with_reducible refine wc_ret ?_ | refine wc_drawB (id := 1) 9 [0, 1, 3, 0, 8, 31, 63, 127, 255] [0, 1, 2, 3, 4, 5, 6, 7, 8] (by kernel_rfl) (by kernel_rfl) rfl rfl ?_)
  exact rq1 rfl ⟨rfl, gr_A⟩
theorem c55 {a : Option Addr} {n c : Nat} : Cl (mz G) (.func (.func 55) #[] #[]) [.slice a n c] h (.bool (decide (n ≤ 4 ∨ n = 17))) h := by
  refine cl_of_cf (cf_enter0 11 [.tmp 2] Tryz.func55 rfl rfl rfl rfl ?_)
  repeat' (first | with_reducible refine wo_nil ?_ | ((with_reducible refine wo_any ?_); first | ((with_reducible refine ik_move ?_); refine wo_op rfl (op_move rfl) rfl rfl ?_) | ((with_reducible refine ik_assign ?_); refine wo_op rfl (op_assign rfl) rfl rfl ?_) | ((with_reducible refine ik_callb ?_); refine wo_op rfl (op_lenSl rfl Tryz.underlying84) rfl rfl ?_) | ((with_reducible refine ik_bin ?_); refine wo_op rfl (op_leq rfl rfl) rfl rfl ?_) | ((with_reducible refine ik_pick ?_); first | refine wo_op rfl (op_pickt rfl rfl) rfl rfl ?_ | refine wo_op rfl (op_pickf rfl rfl) rfl rfl ?_) | ((with_reducible refine ik_g ?_); first | refine wo_gskip rfl rfl rfl rfl rfl rfl ?_ | ((with_reducible refine ig_move ?_); refine wo_grun rfl rfl rfl (op_move rfl) rfl rfl ?_) | ((with_reducible refine ig_callb ?_); refine wo_grun rfl rfl rfl (op_lenSl rfl Tryz.underlying84) rfl rfl ?_) | ((with_reducible refine ig_bin ?_); refine wo_grun rfl rfl rfl (op_eql rfl rfl) rfl rfl ?_) | (refine wo_gsplit rfl rfl rfl (fun hb => ?_) (fun hb => ?_) <;> (try simp only [decide_eq_true_eq, decide_eq_false_iff_not, Bool.not_eq_true', Bool.not_eq_false', Int.not_lt, Int.not_le, Decidable.not_not, not_true_eq_false, not_false_eq_true, beq_self_eq_true, reduceCtorEq] at hb) <;> (try (exfalso; omega))))) | with_reducible refine sq_norm ?_ | with_reducible refine wc_seq ?_ | with_reducible refine wc_region ?_ | with_reducible refine wc_ret ?_)
  all_goals refine rq1 rfl ⟨?_, rfl⟩
  all_goals first
    | rw [decide_eq_true (by omega)]
    | rw [decide_eq_false (by omega)]
    | (congr 1; rw [decide_eq_decide]; omega)
end Go.Proofs.YtdfpadokepmknaaGreatDoor

/- Tides: copies of rows, the check of their order. -/
namespace Go.Proofs.YtdfpadokepmknaaGreatDoor
open Go Go.Ab Go.Fl
attribute [local irreducible] SeqQ BlkQ LpQ RetQ Wc Wo WD WX Op1 Op1q Op1a Cf Cl From
attribute [local irreducible] Ieee.Format.order Ieee.Format.read Ieee.Format.nearest Ieee.Format.write Ieee.Format.mul Ieee.Format.div Ieee.Datum.order Ieee.Datum.integral smpE smp smpW K J U sumN lchk tchk trE hdrE appL undL undA undI wr ghoL rnd mulL dghL dghA rngE notN innL lowN lowD madeE pairE subL subF anyLarge subE remE difL rowE
set_option maxRecDepth 10000
variable {G : Base} {h : H}

theorem tid_step (ts : List (Int × Int)) {k : Nat} (hk : k < ts.length) : (ts.take k).flatMap tidC ++ [.int .i64 (ts.getD k (0, 0)).1, .int .i64 (ts.getD k (0, 0)).2] = (ts.take (k + 1)).flatMap tidC := by
  rw [List.take_succ_eq_append_getElem hk, List.flatMap_append, show ts.getD k (0, 0) = ts[k] by simp [List.getD, List.getElem?_eq_getElem hk]]
  simp [tidC]
set_option maxHeartbeats 2000000 in
theorem c57 {v : Value} {n : Nat} {ts : List (Int × Int)} (s : Sl G h 2 v n (ts.flatMap tidC)) (hn : n < 1000000) (hw : Wf h) : Cf (mz G) (.func (.func 57) #[] #[]) [v] h fun r h' => (∃ a c, r = .slice a n c ∧ Sl G h' 2 (.slice a n c) n (ts.flatMap tidC)) ∧ Grow h h' := by
  obtain ⟨a, c, rfl⟩ := s.form
  have hl := s.length
  rw [tid_len] at hl
  refine cf_enter0 18 [.tmp 2] Tryz.func57 rfl rfl rfl rfl ?_
  repeat' (first | with_reducible refine wo_nil ?_ | ((with_reducible refine wo_any ?_); first | ((with_reducible refine ik_move ?_); refine wo_op rfl (op_move rfl) rfl rfl ?_) | ((with_reducible refine ik_assign ?_); refine wo_op rfl (op_assign rfl) rfl rfl ?_) | ((with_reducible refine ik_callb ?_); refine wo_op rfl (op_lenSl rfl Tryz.underlying84) rfl rfl ?_)) | with_reducible refine sq_norm ?_ | with_reducible refine wc_seq ?_ | with_reducible refine wc_region ?_ | with_reducible refine wc_block ?_)
  refine wc_loop (fun p : Nat × Value => n - p.1) (fun p => [(3, p.2), (6, .slice a n c), (7, .int .i64 n), (8, .int .i64 (p.1 : Nat))]) (fun p h' => (Wf h' ∧ Ow h h' 103 2 p.2 p.1 ((ts.take p.1).flatMap tidC)) ∧ p.1 ≤ n) (0, .slice none 0 0) (within_lk ⟨rfl, rfl, rfl, rfl, trivial⟩) ⟨⟨wf_A, .nil gr_A⟩, Nat.zero_le _⟩ ?_
  rintro ⟨k, r⟩ h1 ⟨⟨w1, ow⟩, hk⟩
  simp only at ow hk ⊢
  have g1 := ow.grow
  have n1 := g1.nx
  by_cases hlt : k < n
  · obtain ⟨ad, i1, i3⟩ := tid_at (s.grow g1) Tryz.underlying84 zs137 (i := (k : Int)) hlt rfl
    have hst := tid_step ts (k := k) (by omega)
    obtain ⟨x, hx⟩ : ∃ x, (ts.getD k (0, 0)).1 = x := ⟨_, rfl⟩
    obtain ⟨y, hy⟩ : ∃ y, (ts.getD k (0, 0)).2 = y := ⟨_, rfl⟩
    rw [hx, hy] at i3 hst
    have gbox : Grow h1 ((h1.push (.cells [.int .i64 0, .int .i64 0] 137 2 false)).set h1.nx (.cells [.int .i64 x, .int .i64 y] 137 2 false)) := gr_A
    have wbox : Wf ((h1.push (.cells [.int .i64 0, .int .i64 0] 137 2 false)).set h1.nx (.cells [.int .i64 x, .int .i64 y] 137 2 false)) := wf_A
    obtain ⟨r2, h4, hap, ow3, _, hwf, _⟩ := append_ow (M := mz G) (st := 87) (xt := 87) (new := [.int .i64 x, .int .i64 y]) (m := 1) Tryz.underlying87 Tryz.underlying87 rfl zs103 zb103 zz103 rfl (ow.next (gbox.push (.cells [.int .i64 x, .int .i64 y] 103 2 false))) (Sl.ofAt (At.new _ _) rfl (Nat.le_refl _)) rfl (by omega)
    rw [hst] at ow3
    repeat' (first | with_reducible refine wo_nil ?_ | ((with_reducible refine wo_any ?_); first | ((with_reducible refine ik_move ?_); refine wo_op rfl (op_move rfl) rfl rfl ?_) | ((with_reducible refine ik_assign ?_); refine wo_op rfl (op_assign rfl) rfl rfl ?_) | ((with_reducible refine ik_indexAddr ?_); refine wo_op rfl (op_indexAddr rfl rfl i1) rfl rfl ?_) | ((with_reducible refine ik_load ?_); first | refine wo_op rfl (op_ldCells rfl Tryz.underlying137 rfl zs137 i3.all) rfl rfl ?_ | refine wo_op rfl (op_ldAgg rfl at_A Tryz.underlying137 rfl zs137 rfl rfl) rfl rfl ?_) | ((with_reducible refine ik_callb ?_); refine wo_op rfl (op_append rfl rfl hap) rfl rfl ?_) | ((with_reducible refine ik_bin ?_); first | refine wo_op rfl (op_lss rfl rfl) rfl rfl ?_ | refine wo_op rfl (op_add' rfl rfl (w64 (by omega) (by omega))) rfl rfl ?_) | ((with_reducible refine ik_alloc ?_); refine wo_op rfl (op_alloc zz137 zs137 rfl rfl rfl) rfl rfl ?_) | ((with_reducible refine ik_store ?_); refine wo_op0 rfl (op_stAgg rfl rfl at_A zs137 rfl rfl rfl rfl) rfl ?_) | ((with_reducible refine ik_buildSlice ?_); refine wo_op rfl (op_buildSl rfl Tryz.underlying87 zs103 zz103 rfl rfl) rfl rfl ?_)) | with_reducible refine sq_norm ?_ | with_reducible refine wc_seq ?_ | with_reducible refine wc_region ?_ | with_reducible refine wc_skip ?_ | with_reducible refine wc_block ?_ | with_reducible refine bq_norm ?_ | (refine wc_if rfl (fun hb => ?_) (fun hb => dead_A hb); (try simp only [decide_eq_true_eq, decide_eq_false_iff_not, Bool.not_eq_true', Bool.not_eq_false', Int.not_lt, Int.not_le, Decidable.not_not, not_true_eq_false, not_false_eq_true, beq_self_eq_true, reduceCtorEq] at hb)))
    exact lq_norm (k + 1, r2) (by simp only; omega) (within_lk ⟨rfl, rfl, rfl, rfl, trivial⟩) ⟨⟨hwf (wbox.push _), ow3⟩, by simp only; omega⟩
  · have hin : k = n := by omega
    subst hin
    have hs := ow.sl (G := G)
    rw [List.take_of_length_le (by omega)] at hs
    obtain ⟨a2, c2, rfl⟩ := hs.form
    repeat' (first | with_reducible refine wo_nil ?_ | ((with_reducible refine wo_any ?_); first | ((with_reducible refine ik_move ?_); refine wo_op rfl (op_move rfl) rfl rfl ?_) | ((with_reducible refine ik_assign ?_); refine wo_op rfl (op_assign rfl) rfl rfl ?_) | ((with_reducible refine ik_bin ?_); refine wo_op rfl (op_lss rfl rfl) rfl rfl ?_)) | with_reducible refine sq_norm ?_ | with_reducible refine wc_seq ?_ | with_reducible refine wc_region ?_ | with_reducible refine wc_ret ?_ | with_reducible refine wc_exit ?_ | with_reducible refine sq_exit ?_ | with_reducible refine lq_exit ?_ | refine bq_eq rfl ?_ | (refine wc_if rfl (fun hb => dead_A hb) (fun hb => ?_); (try simp only [decide_eq_true_eq, decide_eq_false_iff_not, Bool.not_eq_true', Bool.not_eq_false', Int.not_lt, Int.not_le, Decidable.not_not, not_true_eq_false, not_false_eq_true, beq_self_eq_true, reduceCtorEq] at hb)))
    exact rq1 rfl ⟨⟨a2, c2, rfl, hs⟩, g1⟩
/-- The first value that isn't 0. -/
def errN (f : Nat → Int) : Nat → Int
  | 0 => 0
  | k + 1 => if errN f k ≠ 0 then errN f k else f k
theorem errN_hit {f : Nat → Int} {k n : Nat} (hk : k ≤ n) (h : errN f k ≠ 0) : errN f n = errN f k := by
  induction n with
  | zero => have : k = 0 := by omega
            rw [this]
  | succ n ih =>
    by_cases q : k = n + 1
    · rw [q]
    · have := ih (by omega)
      show (if errN f n ≠ 0 then errN f n else f n) = errN f k
      rw [this, if_pos h]
theorem errN_next {f : Nat → Int} {k : Nat} (h : errN f k = 0) : errN f (k + 1) = f k := by
  show (if errN f k ≠ 0 then errN f k else f k) = f k
  rw [if_neg (by omega)]
def tdG (ts : List (Int × Int)) (i : Nat) : Int × Int := ts.getD i (0, 0)
def errT (ts : List (Int × Int)) (i : Nat) : Int := if rowE (tdG ts i) ≠ 0 then rowE (tdG ts i) else if 0 < i ∧ (tdG ts i).1 ≤ (tdG ts (i - 1)).1 then 11 else 0
def tidE (ts : List (Int × Int)) : Int := if ts.length = 0 then 12 else if 16 < ts.length then 5 else errN (errT ts) ts.length
theorem tidE_hit {ts : List (Int × Int)} {k n : Nat} (hl : n = ts.length) (h0 : ¬n = 0) (h1 : ¬16 < n) (hk : k < n) (hz : errN (errT ts) k = 0) (he : errT ts k ≠ 0) : tidE ts = errT ts k := by
  unfold tidE
  rw [if_neg (by omega), if_neg (by omega)]
  have := errN_next hz
  rw [errN_hit (show k + 1 ≤ ts.length by omega) (by rw [this]; exact he), this]
theorem tidE_end {ts : List (Int × Int)} {n : Nat} (hl : n = ts.length) (h0 : ¬n = 0) (h1 : ¬16 < n) (hz : errN (errT ts) n = 0) : tidE ts = 0 := by
  unfold tidE
  rw [if_neg (by omega), if_neg (by omega), ← hl, hz]
set_option maxHeartbeats 4000000 in
theorem c58 {v : Value} {n : Nat} {ts : List (Int × Int)} (s : Sl G h 2 v n (ts.flatMap tidC)) (hn : n < 1000000) (hw : Wf h) : Cf (mz G) (.func (.func 58) #[] #[]) [v] h fun r h' => r = .int .i64 (tidE ts) ∧ Grow h h' := by
  obtain ⟨a, c, rfl⟩ := s.form
  have hl := s.length
  rw [tid_len] at hl
  have hl : n = ts.length := by omega
  by_cases h0 : n = 0
  · have : tidE ts = 12 := by unfold tidE; rw [if_pos (by omega)]
    rw [this]
    refine cf_enter0 50 [.tmp 2] Tryz.func58 rfl rfl rfl rfl ?_
    repeat' (first | with_reducible refine wo_nil ?_ | ((with_reducible refine wo_any ?_); first | ((with_reducible refine ik_move ?_); refine wo_op rfl (op_move rfl) rfl rfl ?_) | ((with_reducible refine ik_assign ?_); refine wo_op rfl (op_assign rfl) rfl rfl ?_) | ((with_reducible refine ik_callb ?_); refine wo_op rfl (op_lenSl rfl Tryz.underlying84) rfl rfl ?_) | ((with_reducible refine ik_bin ?_); refine wo_op rfl (op_eql rfl rfl) rfl rfl ?_)) | with_reducible refine sq_norm ?_ | with_reducible refine wc_seq ?_ | with_reducible refine wc_region ?_ | with_reducible refine wc_ret ?_ | with_reducible refine sq_ret ?_ | (refine wc_if rfl (fun hb => ?_) (fun hb => ?_) <;> (try simp only [decide_eq_true_eq, decide_eq_false_iff_not, Bool.not_eq_true', Bool.not_eq_false', Int.not_lt, Int.not_le, Decidable.not_not, not_true_eq_false, not_false_eq_true, beq_self_eq_true, reduceCtorEq] at hb) <;> (try (exfalso; omega))))
    exact rq1 rfl ⟨rfl, gr_A⟩
  by_cases h1 : 16 < n
  · have : tidE ts = 5 := by unfold tidE; rw [if_neg (by omega), if_pos (by omega)]
    rw [this]
    refine cf_enter0 50 [.tmp 2] Tryz.func58 rfl rfl rfl rfl ?_
    repeat' (first | with_reducible refine wo_nil ?_ | ((with_reducible refine wo_any ?_); first | ((with_reducible refine ik_move ?_); refine wo_op rfl (op_move rfl) rfl rfl ?_) | ((with_reducible refine ik_assign ?_); refine wo_op rfl (op_assign rfl) rfl rfl ?_) | ((with_reducible refine ik_callb ?_); refine wo_op rfl (op_lenSl rfl Tryz.underlying84) rfl rfl ?_) | ((with_reducible refine ik_bin ?_); first | refine wo_op rfl (op_eql rfl rfl) rfl rfl ?_ | refine wo_op rfl (op_gtr rfl rfl) rfl rfl ?_)) | with_reducible refine sq_norm ?_ | with_reducible refine wc_seq ?_ | with_reducible refine wc_region ?_ | with_reducible refine wc_skip ?_ | with_reducible refine wc_ret ?_ | with_reducible refine sq_ret ?_ | (refine wc_if rfl (fun hb => ?_) (fun hb => ?_) <;> (try simp only [decide_eq_true_eq, decide_eq_false_iff_not, Bool.not_eq_true', Bool.not_eq_false', Int.not_lt, Int.not_le, Decidable.not_not, not_true_eq_false, not_false_eq_true, beq_self_eq_true, reduceCtorEq] at hb) <;> (try (exfalso; omega))))
    exact rq1 rfl ⟨rfl, gr_A⟩
  refine cf_enter0 50 [.tmp 2] Tryz.func58 rfl rfl rfl rfl ?_
  repeat' (first | with_reducible refine wo_nil ?_ | ((with_reducible refine wo_any ?_); first | ((with_reducible refine ik_move ?_); refine wo_op rfl (op_move rfl) rfl rfl ?_) | ((with_reducible refine ik_assign ?_); refine wo_op rfl (op_assign rfl) rfl rfl ?_) | ((with_reducible refine ik_callb ?_); refine wo_op rfl (op_lenSl rfl Tryz.underlying84) rfl rfl ?_) | ((with_reducible refine ik_bin ?_); first | refine wo_op rfl (op_eql rfl rfl) rfl rfl ?_ | refine wo_op rfl (op_gtr rfl rfl) rfl rfl ?_)) | with_reducible refine sq_norm ?_ | with_reducible refine wc_seq ?_ | with_reducible refine wc_region ?_ | with_reducible refine wc_skip ?_ | with_reducible refine wc_block ?_ | (refine wc_if rfl (fun hb => ?_) (fun hb => ?_) <;> (try simp only [decide_eq_true_eq, decide_eq_false_iff_not, Bool.not_eq_true', Bool.not_eq_false', Int.not_lt, Int.not_le, Decidable.not_not, not_true_eq_false, not_false_eq_true, beq_self_eq_true, reduceCtorEq] at hb) <;> (try (exfalso; omega))))
  refine wc_loop (fun k => n - k) (fun k : Nat => [(0, .slice a n c), (3, .int .i64 k)]) (fun k h' => (Wf h' ∧ Grow h h') ∧ k ≤ n ∧ errN (errT ts) k = 0) 0 (within_lk ⟨rfl, rfl, trivial⟩) ⟨⟨wf_A, gr_A⟩, Nat.zero_le _, rfl⟩ ?_
  rintro k h1 ⟨⟨w1, g1⟩, hk, hz⟩
  have n1 := g1.nx
  by_cases hlt : k < n
  · obtain ⟨ad, i1, i3⟩ := tid_at (s.grow g1) Tryz.underlying84 zs137 (i := (k : Int)) hlt rfl
    have hit := tidE_hit hl h0 (by assumption) hlt hz
    have nxt := errN_next hz
    obtain ⟨x, hx⟩ : ∃ x, (ts.getD k (0, 0)).1 = x := ⟨_, rfl⟩
    obtain ⟨y, hy⟩ : ∃ y, (ts.getD k (0, 0)).2 = y := ⟨_, rfl⟩
    have hR : rowE (tdG ts k) = firstNZ [rngE x 0 100000, rngE y (-64) 64] := by unfold rowE tdG; rw [hx, hy]
    rw [hx, hy] at i3
    have f0 := i3.get 0 _ rfl
    have f1 := i3.get 1 _ rfl
    have q23 := fun (h' : H) (v : Value) (u : Sl G h' 1 v 2 ([rngE x 0 100000, rngE y (-64) 64].map (.int .i64))) => c23 u (by omega)
    rw [← hR] at q23
    by_cases he : rowE (tdG ts k) = 0
    · rw [he] at q23
      repeat' (first | with_reducible refine wo_nil ?_ | ((with_reducible refine wo_any ?_); first | ((with_reducible refine ik_move ?_); refine wo_op rfl (op_move rfl) rfl rfl ?_) | ((with_reducible refine ik_callb ?_); refine wo_op rfl (op_lenSl rfl Tryz.underlying84) rfl rfl ?_) | ((with_reducible refine ik_bin ?_); first | refine wo_op rfl (op_lss rfl rfl) rfl rfl ?_ | refine wo_op rfl (op_neq rfl rfl) rfl rfl ?_)) | ((with_reducible refine xk_any ?_); first | ((with_reducible refine xk_as0 ?_); first | ((with_reducible refine xk_move ?_); refine wx_q (wt_none rfl) rfl rfl (op_q rfl (op_move rfl)) rfl rfl rfl ?_) | ((with_reducible refine xk_indexAddr ?_); refine wx_q (wt_none rfl) rfl rfl (op_q rfl (op_indexAddr rfl rfl i1)) rfl rfl rfl ?_) | ((with_reducible refine xk_load ?_); first | refine wx_h0 (wt_none rfl) rfl (op_q rfl (op_ldCell rfl Tryz.underlying3 rfl f0)) rfl rfl rfl ?_ | refine wx_h0 (wt_none rfl) rfl (op_q rfl (op_ldCell rfl Tryz.underlying3 rfl f1)) rfl rfl rfl ?_) | ((with_reducible refine xk_fieldAddr ?_); first | refine wx_q (wt_none rfl) rfl rfl (op_q rfl (op_fieldAddr (o := 0) rfl Tryz.underlying137 rfl zs3 rfl)) rfl rfl rfl ?_ | refine wx_q (wt_none rfl) rfl rfl (op_q rfl (op_fieldAddr (o := 1) rfl Tryz.underlying137 rfl zs3 rfl)) rfl rfl rfl ?_) | ((with_reducible refine xk_buildSlice ?_); refine wx_a0 (wt_none rfl) rfl (oa_buildSlice rfl Tryz.underlying22 zs3 zz3 rfl rfl) rfl rfl ?_) | ((with_reducible refine xk_callF (f := 36) ?_); refine wx_ee (wt_none rfl) rfl rfl (op_call rfl rfl (c36 _ _ _)) rfl rfl ?_)) | ((with_reducible refine xk_assign ?_); refine wx_q (wt_none rfl) rfl rfl (op_q rfl (op_assign rfl)) rfl rfl rfl ?_) | ((with_reducible refine xk_callv ?_); ((with_reducible refine xk_as1 ?_); refine wx_e1 (wt_none rfl) rfl rfl rfl (op_call rfl rfl (q23 _ _ (Sl.ofAt (show At _ _ (.cells [.int .i64 (rngE x 0 100000), .int .i64 (rngE y (-64) 64)] 3 1 false) from at_A) rfl (Nat.le_refl _)))) rfl rfl ?_)) | refine wx_niln ?_ ?_ rfl rfl ?_) | with_reducible exact obl_nil | with_reducible refine obl_cons ?_ ?_ | ((with_reducible refine ik_obs ?_); first | exact obs_nil | refine obs_skip rfl ?_ | refine obs_chkn rfl rfl (op_q rfl (op_ldCell rfl Tryz.underlying3 rfl f0)) ?_ | refine obs_chkn rfl rfl (op_q rfl (op_ldCell rfl Tryz.underlying3 rfl f1)) ?_) | with_reducible exact stk_nil | with_reducible refine stk_cons ?_ ?_ | ((with_reducible refine ik_stk ?_); first | exact stk_abs rfl rfl | exact stk_freeB rfl rfl wf_A gr_B) | with_reducible refine sq_norm ?_ | with_reducible refine wc_seq ?_ | with_reducible refine wc_region ?_ | with_reducible refine wc_skip ?_ | with_reducible refine wc_block ?_ | refine wc_iff rfl ?_ | (refine wc_if rfl (fun hb => ?_) (fun hb => ?_) <;> (try simp only [decide_eq_true_eq, decide_eq_false_iff_not, Bool.not_eq_true', Bool.not_eq_false', Int.not_lt, Int.not_le, Decidable.not_not, not_true_eq_false, not_false_eq_true, beq_self_eq_true, reduceCtorEq] at hb) <;> (try (exfalso; omega))) | refine wc_drawB (id := 8) 15 [0, 0, 3, 7, 15, 31, 0, 0, 192, 448, 960, 2047, 4095, 8191, 16383] [0, 1, 2, 3, 4, 5, 6, 7, 8, 9, 10, 11, 12, 13, 14] (by kernel_rfl) (by kernel_rfl) rfl rfl ?_)
      refine wc_cut (ι := Unit) (fun _ => [(0, .slice a n c), (3, .int .i64 k)]) (fun _ h' => Wf h' ∧ Grow h h') () (within_lk ⟨rfl, rfl, trivial⟩) ⟨wf_A, gr_A⟩ ?_
      rintro _ h2 ⟨w2, g2⟩
      have n2 := g2.nx
      obtain ⟨ad, i1, i3⟩ := tid_at (s.grow g2) Tryz.underlying84 zs137 (i := (k : Int)) hlt rfl
      rw [hx, hy] at i3
      have f0 := i3.get 0 _ rfl
      by_cases hk0 : 0 < k
      · obtain ⟨bd, j1, j3⟩ := tid_at (s.grow g2) Tryz.underlying84 zs137 (i := (k : Int) - 1) (q := k - 1) (by omega) (by omega)
        obtain ⟨z, hzz⟩ : ∃ z, (ts.getD (k - 1) (0, 0)).1 = z := ⟨_, rfl⟩
        obtain ⟨z2, hz2⟩ : ∃ z, (ts.getD (k - 1) (0, 0)).2 = z := ⟨_, rfl⟩
        rw [hzz, hz2] at j3
        have e0 := j3.get 0 _ rfl
        have hE : errT ts k = if x ≤ z then 11 else 0 := by
          unfold errT
          rw [if_neg (by omega)]
          unfold tdG
          rw [hx, hzz]
          by_cases q : x ≤ z
          · rw [if_pos q, if_pos ⟨hk0, q⟩]
          · rw [if_neg q, if_neg (fun p => q p.2)]
        by_cases q : x ≤ z
        · rw [if_pos q] at hE
          have hT := hit (by rw [hE]; decide)
          rw [hT, hE]
          repeat' (first | with_reducible refine wo_nil ?_ | ((with_reducible refine wo_any ?_); ((with_reducible refine ik_assign ?_); refine wo_op rfl (op_assign rfl) rfl rfl ?_)) | ((with_reducible refine xk_any ?_); ((with_reducible refine xk_as0 ?_); first | ((with_reducible refine xk_move ?_); refine wx_q (wt_none rfl) rfl rfl (op_q rfl (op_move rfl)) rfl rfl rfl ?_) | ((with_reducible refine xk_bin ?_); refine wx_q (wt_none rfl) rfl rfl (op_q rfl (op_gtr rfl rfl)) rfl rfl rfl ?_) | ((with_reducible refine xk_pick ?_); refine wx_q (wt_none rfl) rfl rfl (op_q rfl (op_pickt rfl rfl)) rfl rfl rfl ?_) | ((with_reducible refine xk_g ?_); first | ((with_reducible refine xg_move ?_); refine wx_q (wt_run rfl rfl rfl) rfl rfl (op_q rfl (op_move rfl)) rfl rfl rfl ?_) | ((with_reducible refine xg_indexAddr ?_); first | refine wx_q (wt_run rfl rfl rfl) rfl rfl (op_q rfl (op_indexAddr rfl rfl i1)) rfl rfl rfl ?_ | refine wx_q (wt_run rfl rfl rfl) rfl rfl (op_q rfl (op_indexAddr rfl rfl j1)) rfl rfl rfl ?_) | ((with_reducible refine xg_load ?_); first | refine wx_h0 (wt_run rfl rfl rfl) rfl (op_q rfl (op_ldCell rfl Tryz.underlying3 rfl f0)) rfl rfl rfl ?_ | refine wx_h0 (wt_run rfl rfl rfl) rfl (op_q rfl (op_ldCell rfl Tryz.underlying3 rfl e0)) rfl rfl rfl ?_) | ((with_reducible refine xg_bin ?_); first | refine wx_q (wt_run rfl rfl rfl) rfl rfl (op_q rfl (op_sub' rfl rfl (w64 (by omega) (by omega)))) rfl rfl rfl ?_ | refine wx_q (wt_run rfl rfl rfl) rfl rfl (op_q rfl (op_leq rfl rfl)) rfl rfl rfl ?_) | ((with_reducible refine xg_fieldAddr ?_); refine wx_q (wt_run rfl rfl rfl) rfl rfl (op_q rfl (op_fieldAddr (o := 0) rfl Tryz.underlying137 rfl zs3 rfl)) rfl rfl rfl ?_) | (refine wx_split rfl rfl rfl (fun hb => ?_) (fun hb => ?_) <;> (try simp only [decide_eq_true_eq, decide_eq_false_iff_not, Bool.not_eq_true', Bool.not_eq_false', Int.not_lt, Int.not_le, Decidable.not_not, not_true_eq_false, not_false_eq_true, beq_self_eq_true, reduceCtorEq] at hb) <;> (try (exfalso; omega)))) | with_reducible refine wx_nil0 ?_ ?_)) | with_reducible exact obl_nil | with_reducible refine obl_cons ?_ ?_ | ((with_reducible refine ik_obs ?_); first | exact obs_nil | refine obs_chkn rfl rfl (op_q rfl (op_ldCell rfl Tryz.underlying3 rfl f0)) ?_ | refine obs_chkn rfl rfl (op_q rfl (op_ldCell rfl Tryz.underlying3 rfl e0)) ?_) | with_reducible refine sq_norm ?_ | with_reducible refine wc_seq ?_ | with_reducible refine wc_region ?_ | with_reducible refine wc_ret ?_ | with_reducible refine bq_ret ?_ | with_reducible refine sq_ret ?_ | with_reducible refine lq_ret ?_ | (refine wc_if rfl (fun hb => ?_) (fun hb => ?_) <;> (try simp only [decide_eq_true_eq, decide_eq_false_iff_not, Bool.not_eq_true', Bool.not_eq_false', Int.not_lt, Int.not_le, Decidable.not_not, not_true_eq_false, not_false_eq_true, beq_self_eq_true, reduceCtorEq] at hb) <;> (try (exfalso; omega))) | refine wc_drawB (id := 11) 16 [0, 1, 3, 7, 7, 31, 63, 127, 7, 7, 519, 1799, 3847, 7943, 16383, 32767] [0, 1, 2, 3, 4, 5, 6, 7, 8, 9, 10, 11, 12, 13, 14, 15] (by kernel_rfl) (by kernel_rfl) rfl rfl ?_)
          all_goals exact rq1 rfl ⟨rfl, gr_A⟩
        · rw [if_neg q] at hE
          rw [hE] at nxt
          repeat' (first | with_reducible refine wo_nil ?_ | ((with_reducible refine wo_any ?_); first | ((with_reducible refine ik_move ?_); refine wo_op rfl (op_move rfl) rfl rfl ?_) | ((with_reducible refine ik_assign ?_); refine wo_op rfl (op_assign rfl) rfl rfl ?_) | ((with_reducible refine ik_bin ?_); refine wo_op rfl (op_add' rfl rfl (w64 (by omega) (by omega))) rfl rfl ?_)) | ((with_reducible refine xk_any ?_); ((with_reducible refine xk_as0 ?_); first | ((with_reducible refine xk_move ?_); refine wx_q (wt_none rfl) rfl rfl (op_q rfl (op_move rfl)) rfl rfl rfl ?_) | ((with_reducible refine xk_bin ?_); refine wx_q (wt_none rfl) rfl rfl (op_q rfl (op_gtr rfl rfl)) rfl rfl rfl ?_) | ((with_reducible refine xk_pick ?_); refine wx_q (wt_none rfl) rfl rfl (op_q rfl (op_pickt rfl rfl)) rfl rfl rfl ?_) | ((with_reducible refine xk_g ?_); first | ((with_reducible refine xg_move ?_); refine wx_q (wt_run rfl rfl rfl) rfl rfl (op_q rfl (op_move rfl)) rfl rfl rfl ?_) | ((with_reducible refine xg_indexAddr ?_); first | refine wx_q (wt_run rfl rfl rfl) rfl rfl (op_q rfl (op_indexAddr rfl rfl i1)) rfl rfl rfl ?_ | refine wx_q (wt_run rfl rfl rfl) rfl rfl (op_q rfl (op_indexAddr rfl rfl j1)) rfl rfl rfl ?_) | ((with_reducible refine xg_load ?_); first | refine wx_h0 (wt_run rfl rfl rfl) rfl (op_q rfl (op_ldCell rfl Tryz.underlying3 rfl f0)) rfl rfl rfl ?_ | refine wx_h0 (wt_run rfl rfl rfl) rfl (op_q rfl (op_ldCell rfl Tryz.underlying3 rfl e0)) rfl rfl rfl ?_) | ((with_reducible refine xg_bin ?_); first | refine wx_q (wt_run rfl rfl rfl) rfl rfl (op_q rfl (op_sub' rfl rfl (w64 (by omega) (by omega)))) rfl rfl rfl ?_ | refine wx_q (wt_run rfl rfl rfl) rfl rfl (op_q rfl (op_leq rfl rfl)) rfl rfl rfl ?_) | ((with_reducible refine xg_fieldAddr ?_); refine wx_q (wt_run rfl rfl rfl) rfl rfl (op_q rfl (op_fieldAddr (o := 0) rfl Tryz.underlying137 rfl zs3 rfl)) rfl rfl rfl ?_) | (refine wx_split rfl rfl rfl (fun hb => ?_) (fun hb => ?_) <;> (try simp only [decide_eq_true_eq, decide_eq_false_iff_not, Bool.not_eq_true', Bool.not_eq_false', Int.not_lt, Int.not_le, Decidable.not_not, not_true_eq_false, not_false_eq_true, beq_self_eq_true, reduceCtorEq] at hb) <;> (try (exfalso; omega)))) | with_reducible refine wx_nil0 ?_ ?_)) | with_reducible exact obl_nil | with_reducible refine obl_cons ?_ ?_ | ((with_reducible refine ik_obs ?_); first | exact obs_nil | refine obs_chkn rfl rfl (op_q rfl (op_ldCell rfl Tryz.underlying3 rfl f0)) ?_ | refine obs_chkn rfl rfl (op_q rfl (op_ldCell rfl Tryz.underlying3 rfl e0)) ?_) | with_reducible refine sq_norm ?_ | with_reducible refine wc_region ?_ | with_reducible refine wc_skip ?_ | with_reducible refine bq_norm ?_ | (refine wc_if rfl (fun hb => ?_) (fun hb => ?_) <;> (try simp only [decide_eq_true_eq, decide_eq_false_iff_not, Bool.not_eq_true', Bool.not_eq_false', Int.not_lt, Int.not_le, Decidable.not_not, not_true_eq_false, not_false_eq_true, beq_self_eq_true, reduceCtorEq] at hb) <;> (try (exfalso; omega))) | refine wc_drawB (id := 11) 16 [0, 1, 3, 7, 7, 31, 63, 127, 7, 7, 519, 1799, 3847, 7943, 16383, 32767] [0, 1, 2, 3, 4, 5, 6, 7, 8, 9, 10, 11, 12, 13, 14, 15] (by kernel_rfl) (by kernel_rfl) rfl rfl ?_)
          all_goals exact lq_norm (k + 1) (by omega) (within_lk ⟨rfl, rfl, trivial⟩) ⟨⟨wf_A, gr_A⟩, by omega, nxt⟩
      · have hE : errT ts k = 0 := by
          unfold errT
          rw [if_neg (by omega), if_neg (by omega)]
        rw [hE] at nxt
        repeat' (first | with_reducible refine wo_nil ?_ | ((with_reducible refine wo_any ?_); first | ((with_reducible refine ik_move ?_); refine wo_op rfl (op_move rfl) rfl rfl ?_) | ((with_reducible refine ik_assign ?_); refine wo_op rfl (op_assign rfl) rfl rfl ?_) | ((with_reducible refine ik_bin ?_); refine wo_op rfl (op_add' rfl rfl (w64 (by omega) (by omega))) rfl rfl ?_)) | ((with_reducible refine xk_any ?_); ((with_reducible refine xk_as0 ?_); first | ((with_reducible refine xk_move ?_); refine wx_q (wt_none rfl) rfl rfl (op_q rfl (op_move rfl)) rfl rfl rfl ?_) | ((with_reducible refine xk_bin ?_); refine wx_q (wt_none rfl) rfl rfl (op_q rfl (op_gtr rfl rfl)) rfl rfl rfl ?_) | ((with_reducible refine xk_pick ?_); refine wx_q (wt_none rfl) rfl rfl (op_q rfl (op_pickf rfl rfl)) rfl rfl rfl ?_) | ((with_reducible refine xk_g ?_); first | refine wx_s (wt_skip rfl rfl rfl rfl) rfl rfl ?_ | (refine wx_split rfl rfl rfl (fun hb => ?_) (fun hb => ?_) <;> (try simp only [decide_eq_true_eq, decide_eq_false_iff_not, Bool.not_eq_true', Bool.not_eq_false', Int.not_lt, Int.not_le, Decidable.not_not, not_true_eq_false, not_false_eq_true, beq_self_eq_true, reduceCtorEq] at hb) <;> (try (exfalso; omega)))) | with_reducible refine wx_nil0 ?_ ?_)) | with_reducible exact obl_nil | with_reducible refine sq_norm ?_ | with_reducible refine wc_region ?_ | with_reducible refine wc_skip ?_ | with_reducible refine bq_norm ?_ | refine wc_iff rfl ?_ | refine wc_drawB (id := 11) 16 [0, 1, 3, 7, 7, 31, 63, 127, 7, 7, 519, 1799, 3847, 7943, 16383, 32767] [0, 1, 2, 3, 4, 5, 6, 7, 8, 9, 10, 11, 12, 13, 14, 15] (by kernel_rfl) (by kernel_rfl) rfl rfl ?_)
        all_goals exact lq_norm (k + 1) (by omega) (within_lk ⟨rfl, rfl, trivial⟩) ⟨⟨wf_A, gr_A⟩, by omega, nxt⟩
    · have hE : errT ts k = rowE (tdG ts k) := by unfold errT; rw [if_pos he]
      have hT := hit (by rw [hE]; exact he)
      rw [hE] at hT
      obtain ⟨E, hEE⟩ : ∃ E, rowE (tdG ts k) = E := ⟨_, rfl⟩
      rw [hEE] at q23 hT he
      rw [hT]
      repeat' (first | with_reducible refine wo_nil ?_ | ((with_reducible refine wo_any ?_); first | ((with_reducible refine ik_move ?_); refine wo_op rfl (op_move rfl) rfl rfl ?_) | ((with_reducible refine ik_assign ?_); refine wo_op rfl (op_assign rfl) rfl rfl ?_) | ((with_reducible refine ik_callb ?_); refine wo_op rfl (op_lenSl rfl Tryz.underlying84) rfl rfl ?_) | ((with_reducible refine ik_bin ?_); first | refine wo_op rfl (op_lss rfl rfl) rfl rfl ?_ | refine wo_op rfl (op_neq rfl rfl) rfl rfl ?_)) | ((with_reducible refine xk_any ?_); first | ((with_reducible refine xk_as0 ?_); first | ((with_reducible refine xk_move ?_); refine wx_q (wt_none rfl) rfl rfl (op_q rfl (op_move rfl)) rfl rfl rfl ?_) | ((with_reducible refine xk_indexAddr ?_); refine wx_q (wt_none rfl) rfl rfl (op_q rfl (op_indexAddr rfl rfl i1)) rfl rfl rfl ?_) | ((with_reducible refine xk_load ?_); first | refine wx_h0 (wt_none rfl) rfl (op_q rfl (op_ldCell rfl Tryz.underlying3 rfl f0)) rfl rfl rfl ?_ | refine wx_h0 (wt_none rfl) rfl (op_q rfl (op_ldCell rfl Tryz.underlying3 rfl f1)) rfl rfl rfl ?_) | ((with_reducible refine xk_fieldAddr ?_); first | refine wx_q (wt_none rfl) rfl rfl (op_q rfl (op_fieldAddr (o := 0) rfl Tryz.underlying137 rfl zs3 rfl)) rfl rfl rfl ?_ | refine wx_q (wt_none rfl) rfl rfl (op_q rfl (op_fieldAddr (o := 1) rfl Tryz.underlying137 rfl zs3 rfl)) rfl rfl rfl ?_) | ((with_reducible refine xk_buildSlice ?_); refine wx_a0 (wt_none rfl) rfl (oa_buildSlice rfl Tryz.underlying22 zs3 zz3 rfl rfl) rfl rfl ?_) | ((with_reducible refine xk_callF (f := 36) ?_); refine wx_ee (wt_none rfl) rfl rfl (op_call rfl rfl (c36 _ _ _)) rfl rfl ?_)) | ((with_reducible refine xk_assign ?_); refine wx_q (wt_none rfl) rfl rfl (op_q rfl (op_assign rfl)) rfl rfl rfl ?_) | ((with_reducible refine xk_callv ?_); ((with_reducible refine xk_as1 ?_); refine wx_e1 (wt_none rfl) rfl rfl rfl (op_call rfl rfl (q23 _ _ (Sl.ofAt (show At _ _ (.cells [.int .i64 (rngE x 0 100000), .int .i64 (rngE y (-64) 64)] 3 1 false) from at_A) rfl (Nat.le_refl _)))) rfl rfl ?_)) | refine wx_niln ?_ ?_ rfl rfl ?_) | with_reducible exact obl_nil | with_reducible refine obl_cons ?_ ?_ | ((with_reducible refine ik_obs ?_); first | exact obs_nil | refine obs_skip rfl ?_ | refine obs_chkn rfl rfl (op_q rfl (op_ldCell rfl Tryz.underlying3 rfl f0)) ?_ | refine obs_chkn rfl rfl (op_q rfl (op_ldCell rfl Tryz.underlying3 rfl f1)) ?_) | with_reducible exact stk_nil | with_reducible refine stk_cons ?_ ?_ | ((with_reducible refine ik_stk ?_); first | exact stk_abs rfl rfl | exact stk_freeB rfl rfl wf_A gr_B) | with_reducible refine sq_norm ?_ | with_reducible refine wc_seq ?_ | with_reducible refine wc_region ?_ | with_reducible refine wc_skip ?_ | with_reducible refine wc_ret ?_ | with_reducible refine wc_block ?_ | with_reducible refine bq_ret ?_ | with_reducible refine sq_ret ?_ | with_reducible refine lq_ret ?_ | (refine wc_if rfl (fun hb => ?_) (fun hb => dead_A hb); (try simp only [decide_eq_true_eq, decide_eq_false_iff_not, Bool.not_eq_true', Bool.not_eq_false', Int.not_lt, Int.not_le, Decidable.not_not, not_true_eq_false, not_false_eq_true, beq_self_eq_true, reduceCtorEq] at hb)) | refine wc_drawB (id := 8) 15 [0, 0, 3, 7, 15, 31, 0, 0, 192, 448, 960, 2047, 4095, 8191, 16383] [0, 1, 2, 3, 4, 5, 6, 7, 8, 9, 10, 11, 12, 13, 14] (by kernel_rfl) (by kernel_rfl) rfl rfl ?_)
      exact rq1 rfl ⟨rfl, gr_A⟩
  · repeat' (first | with_reducible refine wo_nil ?_ | ((with_reducible refine wo_any ?_); first | ((with_reducible refine ik_move ?_); refine wo_op rfl (op_move rfl) rfl rfl ?_) | ((with_reducible refine ik_assign ?_); refine wo_op rfl (op_assign rfl) rfl rfl ?_) | ((with_reducible refine ik_callb ?_); refine wo_op rfl (op_lenSl rfl Tryz.underlying84) rfl rfl ?_) | ((with_reducible refine ik_bin ?_); refine wo_op rfl (op_lss rfl rfl) rfl rfl ?_)) | with_reducible refine sq_norm ?_ | with_reducible refine wc_seq ?_ | with_reducible refine wc_region ?_ | with_reducible refine wc_ret ?_ | with_reducible refine wc_exit ?_ | with_reducible refine sq_exit ?_ | with_reducible refine lq_exit ?_ | refine bq_eq rfl ?_ | (refine wc_if rfl (fun hb => ?_) (fun hb => ?_) <;> (try simp only [decide_eq_true_eq, decide_eq_false_iff_not, Bool.not_eq_true', Bool.not_eq_false', Int.not_lt, Int.not_le, Decidable.not_not, not_true_eq_false, not_false_eq_true, beq_self_eq_true, reduceCtorEq] at hb) <;> (try (exfalso; omega))))
    have hin : k = n := by omega
    subst hin
    rw [tidE_end hl h0 (by assumption) hz]
    exact rq1 rfl ⟨rfl, gr_A⟩
end Go.Proofs.YtdfpadokepmknaaGreatDoor

/- Tides: the check of their order by the program. -/
namespace Go.Proofs.YtdfpadokepmknaaGreatDoor
open Go Go.Ab Go.Fl
attribute [local irreducible] SeqQ BlkQ LpQ RetQ Wc Wo WD WX Op1 Op1q Op1a Cf Cl From
attribute [local irreducible] Ieee.Format.order Ieee.Format.read Ieee.Format.nearest Ieee.Format.write Ieee.Format.mul Ieee.Format.div Ieee.Datum.order Ieee.Datum.integral smpE smp smpW K J U sumN lchk tchk trE hdrE appL undL undA undI wr ghoL rnd mulL dghL dghA rngE notN innL lowN lowD madeE pairE subL subF anyLarge subE remE difL rowE tidE errT
set_option maxRecDepth 10000
variable {G : Base} {h : H}

theorem errT_a {ts : List (Int × Int)} {k : Nat} (h : rowE (tdG ts k) ≠ 0) : errT ts k = rowE (tdG ts k) := by unfold errT; rw [if_pos h]
theorem errT_b {ts : List (Int × Int)} {k : Nat} (h : rowE (tdG ts k) = 0) (hk : 0 < k) : errT ts k = if (tdG ts k).1 ≤ (tdG ts (k - 1)).1 then 11 else 0 := by
  unfold errT
  rw [if_neg (by omega)]
  by_cases q : (tdG ts k).1 ≤ (tdG ts (k - 1)).1
  · rw [if_pos q, if_pos ⟨hk, q⟩]
  · rw [if_neg q, if_neg (fun p => q p.2)]
theorem errT_c {ts : List (Int × Int)} {k : Nat} (h : rowE (tdG ts k) = 0) (hk : ¬0 < k) : errT ts k = 0 := by
  unfold errT
  rw [if_neg (by omega), if_neg (by omega)]
theorem cmp_le (x z : Int) : (decide ((if x < z then (-1 : Int) else if z < x then 1 else 0) ≤ 0)) = decide (x ≤ z) := by
  by_cases q : x < z
  · rw [if_pos q, decide_eq_true (by omega), decide_eq_true (by omega)]
  · rw [if_neg q]
    by_cases r : z < x
    · rw [if_pos r, decide_eq_false (by omega), decide_eq_false (by omega)]
    · rw [if_neg r, decide_eq_true (by omega), decide_eq_true (by omega)]
set_option maxHeartbeats 4000000 in
theorem c102 {v : Value} {n : Nat} {ts : List (Int × Int)} (s : Sl G h 2 v n (ts.flatMap tidC)) (hn0 : ¬n = 0) (hn : ¬16 < n) (hw : Wf h) : Cf (mz G) (.func (.func 102) #[] #[]) [v, .func (.func 103) #[] #[], .func (.func 104) #[] #[]] h fun r h' => r = .int .i64 (tidE ts) ∧ Grow h h' := by
  obtain ⟨a, c, rfl⟩ := s.form
  have hl := s.length
  rw [tid_len] at hl
  have hl : n = ts.length := by omega
  refine cf_enter0 37 [.tmp 6] Tryz.func102 rfl rfl rfl rfl ?_
  repeat' (first | with_reducible refine wo_nil ?_ | ((with_reducible refine wo_any ?_); first | ((with_reducible refine ik_move ?_); refine wo_op rfl (op_move rfl) rfl rfl ?_) | ((with_reducible refine ik_assign ?_); refine wo_op rfl (op_assign rfl) rfl rfl ?_) | ((with_reducible refine ik_callb ?_); refine wo_op rfl (op_lenSl rfl Tryz.underlying87) rfl rfl ?_)) | with_reducible refine sq_norm ?_ | with_reducible refine wc_seq ?_ | with_reducible refine wc_region ?_ | with_reducible refine wc_block ?_)
  refine wc_loop (fun k => n - k) (fun k : Nat => [(0, .slice a n c), (1, .func (.func 103) #[] #[]), (2, .func (.func 104) #[] #[]), (10, .slice a n c), (11, .int .i64 n), (12, .int .i64 k)]) (fun k h' => (Wf h' ∧ Grow h h') ∧ k ≤ n ∧ errN (errT ts) k = 0) 0 (within_lk ⟨rfl, rfl, rfl, rfl, rfl, rfl, trivial⟩) ⟨⟨wf_A, gr_A⟩, Nat.zero_le _, rfl⟩ ?_
  rintro k h1 ⟨⟨w1, g1⟩, hk, hz⟩
  have n1 := g1.nx
  by_cases hlt : k < n
  · obtain ⟨ad, i1, i3⟩ := tid_at (s.grow g1) Tryz.underlying87 zs103 (i := (k : Int)) hlt rfl
    have hit := tidE_hit hl hn0 hn hlt hz
    have nxt := errN_next hz
    have eb := errT_b (ts := ts) (k := k)
    obtain ⟨x, hx⟩ : ∃ x, (ts.getD k (0, 0)).1 = x := ⟨_, rfl⟩
    obtain ⟨y, hy⟩ : ∃ y, (ts.getD k (0, 0)).2 = y := ⟨_, rfl⟩
    have hxy : tdG ts k = (x, y) := by rw [← hx, ← hy]; rfl
    rw [hx, hy] at i3
    have q104 := fun (h' : H) (w' : Wf h') => c104 (G := G) (h := h') (a := x) (b := y) w'
    rw [← hxy] at q104
    by_cases he : rowE (tdG ts k) = 0
    · rw [he] at q104
      repeat' (first | with_reducible refine wo_nil ?_ | ((with_reducible refine wo_any ?_); first | ((with_reducible refine ik_move ?_); refine wo_op rfl (op_move rfl) rfl rfl ?_) | ((with_reducible refine ik_assign ?_); refine wo_op rfl (op_assign rfl) rfl rfl ?_) | ((with_reducible refine ik_indexAddr ?_); refine wo_op rfl (op_indexAddr rfl rfl i1) rfl rfl ?_) | ((with_reducible refine ik_load ?_); first | refine wo_op rfl (op_ldCells rfl Tryz.underlying103 rfl zs103 i3.all) rfl rfl ?_ | refine wo_op rfl (op_ldAgg rfl at_A Tryz.underlying103 rfl zs103 rfl rfl) rfl rfl ?_) | ((with_reducible refine ik_bin ?_); first | refine wo_op rfl (op_lss rfl rfl) rfl rfl ?_ | refine wo_op rfl (op_neq rfl rfl) rfl rfl ?_) | ((with_reducible refine ik_alloc ?_); refine wo_op rfl (op_alloc zz103 zs103 rfl rfl rfl) rfl rfl ?_) | ((with_reducible refine ik_store ?_); refine wo_op0 rfl (op_stAgg rfl rfl at_A zs103 rfl rfl rfl rfl) rfl ?_) | ((with_reducible refine ik_callv ?_); (refine wo_call rfl rfl rfl rfl ((q104 _ wf_A)) rfl rfl ?_; rintro _ _ ⟨rfl, hq⟩; all_goals ((try (have hqn := hq.nx)); (try simp only [H.nx_push, H.nx_set, H.nx_bump] at hqn))))) | with_reducible refine sq_norm ?_ | with_reducible refine wc_seq ?_ | with_reducible refine wc_region ?_ | with_reducible refine wc_skip ?_ | with_reducible refine wc_block ?_ | refine wc_iff rfl ?_ | (refine wc_if rfl (fun hb => ?_) (fun hb => ?_) <;> (try simp only [decide_eq_true_eq, decide_eq_false_iff_not, Bool.not_eq_true', Bool.not_eq_false', Int.not_lt, Int.not_le, Decidable.not_not, not_true_eq_false, not_false_eq_true, beq_self_eq_true, reduceCtorEq] at hb) <;> (try (exfalso; omega))))
      refine wc_cut (ι := Nat) (fun B => [(0, .slice a n c), (1, .func (.func 103) #[] #[]), (2, .func (.func 104) #[] #[]), (7, .int .i64 k), (8, .pointer (some ⟨B, 0, some 0⟩)), (10, .slice a n c), (11, .int .i64 n), (12, .int .i64 k)]) (fun B h' => (Wf h' ∧ Grow h h') ∧ At h' B (.cells [.int .i64 x, .int .i64 y] 103 2 false)) _ (within_lk ⟨rfl, rfl, rfl, rfl, rfl, rfl, rfl, rfl, trivial⟩) ⟨⟨wf_A, gr_A⟩, at_A⟩ ?_
      rintro B h2 ⟨⟨w2, g2⟩, aB⟩
      have n2 := g2.nx
      have lB := aB.lt
      by_cases hk0 : 0 < k
      · obtain ⟨bd, j1, j3⟩ := tid_at (s.grow g2) Tryz.underlying87 zs103 (i := (k : Int) - 1) (q := k - 1) (by omega) (by omega)
        have hE := eb he hk0
        obtain ⟨z, hzz⟩ : ∃ z, (ts.getD (k - 1) (0, 0)).1 = z := ⟨_, rfl⟩
        obtain ⟨z2, hz2⟩ : ∃ z, (ts.getD (k - 1) (0, 0)).2 = z := ⟨_, rfl⟩
        have hzy : tdG ts (k - 1) = (z, z2) := by rw [← hzz, ← hz2]; rfl
        rw [hzz, hz2] at j3
        rw [hxy, hzy] at hE
        simp only at hE
        have q103 := fun (h' : H) (w' : Wf h') => c103 (G := G) (h := h') (a := x) (b := y) (c := z) (d := z2) w'
        obtain ⟨C, hC⟩ : ∃ C, (if x < z then (-1 : Int) else if z < x then 1 else 0) = C := ⟨_, rfl⟩
        have hcl := cmp_le x z
        rw [hC] at q103 hcl
        by_cases q : x ≤ z
        · rw [if_pos q] at hE
          have hT := hit (by rw [hE]; decide)
          rw [hT, hE]
          have hC0 : C ≤ 0 := of_decide_eq_true (by rw [hcl]; exact decide_eq_true q)
          repeat' (first | with_reducible refine wo_nil ?_ | ((with_reducible refine wo_any ?_); ((with_reducible refine ik_assign ?_); refine wo_op rfl (op_assign rfl) rfl rfl ?_)) | ((with_reducible refine xk_any ?_); ((with_reducible refine xk_as0 ?_); first | ((with_reducible refine xk_move ?_); refine wx_q (wt_none rfl) rfl rfl (op_q rfl (op_move rfl)) rfl rfl rfl ?_) | ((with_reducible refine xk_bin ?_); refine wx_q (wt_none rfl) rfl rfl (op_q rfl (op_gtr rfl rfl)) rfl rfl rfl ?_) | ((with_reducible refine xk_pick ?_); refine wx_q (wt_none rfl) rfl rfl (op_q rfl (op_pickt rfl rfl)) rfl rfl rfl ?_) | ((with_reducible refine xk_g ?_); first | ((with_reducible refine xg_move ?_); refine wx_q (wt_run rfl rfl rfl) rfl rfl (op_q rfl (op_move rfl)) rfl rfl rfl ?_) | ((with_reducible refine xg_indexAddr ?_); refine wx_q (wt_run rfl rfl rfl) rfl rfl (op_q rfl (op_indexAddr rfl rfl j1)) rfl rfl rfl ?_) | ((with_reducible refine xg_load ?_); first | refine wx_h0 (wt_run rfl rfl rfl) rfl (op_q rfl (op_ldCells rfl Tryz.underlying103 rfl zs103 j3.all)) rfl rfl rfl ?_ | refine wx_h0 (wt_run rfl rfl rfl) rfl (op_q rfl (op_ldAgg rfl at_A Tryz.underlying103 rfl zs103 rfl rfl)) rfl rfl rfl ?_) | ((with_reducible refine xg_bin ?_); first | refine wx_q (wt_run rfl rfl rfl) rfl rfl (op_q rfl (op_sub' rfl rfl (w64 (by omega) (by omega)))) rfl rfl rfl ?_ | refine wx_q (wt_run rfl rfl rfl) rfl rfl (op_q rfl (op_leq rfl rfl)) rfl rfl rfl ?_) | ((with_reducible refine xg_callv ?_); (refine wx_call0 (wt_run rfl rfl rfl) rfl rfl rfl rfl ((q103 _ wf_A)) rfl rfl ?_; rintro _ _ ⟨rfl, hq⟩; all_goals ((try (have hqn := hq.nx)); (try simp only [H.nx_push, H.nx_set, H.nx_bump] at hqn)))) | (refine wx_split rfl rfl rfl (fun hb => ?_) (fun hb => ?_) <;> (try simp only [decide_eq_true_eq, decide_eq_false_iff_not, Bool.not_eq_true', Bool.not_eq_false', Int.not_lt, Int.not_le, Decidable.not_not, not_true_eq_false, not_false_eq_true, beq_self_eq_true, reduceCtorEq] at hb) <;> (try (exfalso; omega)))) | with_reducible refine wx_nil0 ?_ ?_)) | with_reducible exact obl_nil | with_reducible refine obl_cons ?_ ?_ | ((with_reducible refine ik_obs ?_); first | exact obs_nil | refine obs_skip rfl ?_ | refine obs_chkn rfl rfl (op_q rfl (op_ldCells rfl Tryz.underlying103 rfl zs103 j3.all)) ?_ | refine obs_chkn rfl rfl (op_q rfl (op_ldAgg rfl at_A Tryz.underlying103 rfl zs103 (by rfl) rfl)) ?_) | with_reducible refine sq_norm ?_ | with_reducible refine wc_seq ?_ | with_reducible refine wc_region ?_ | with_reducible refine wc_ret ?_ | with_reducible refine bq_ret ?_ | with_reducible refine sq_ret ?_ | with_reducible refine lq_ret ?_ | (refine wc_if rfl (fun hb => ?_) (fun hb => ?_) <;> (try simp only [decide_eq_true_eq, decide_eq_false_iff_not, Bool.not_eq_true', Bool.not_eq_false', Int.not_lt, Int.not_le, Decidable.not_not, not_true_eq_false, not_false_eq_true, beq_self_eq_true, reduceCtorEq] at hb) <;> (try (exfalso; omega))) | refine wc_drawB (id := 7) 13 [0, 1, 3, 7, 7, 7, 7, 71, 231, 487, 1023, 2047, 4095] [0, 1, 2, 3, 4, 5, 6, 7, 8, 9, 10, 11, 12] (by kernel_rfl) (by kernel_rfl) rfl rfl ?_)
          all_goals exact rq1 rfl ⟨rfl, gr_A⟩
        · rw [if_neg q] at hE
          rw [hE] at nxt
          have hC0 : ¬C ≤ 0 := of_decide_eq_false (by rw [hcl]; exact decide_eq_false q)
          repeat' (first | with_reducible refine wo_nil ?_ | ((with_reducible refine wo_any ?_); first | ((with_reducible refine ik_move ?_); refine wo_op rfl (op_move rfl) rfl rfl ?_) | ((with_reducible refine ik_bin ?_); refine wo_op rfl (op_add' rfl rfl (w64 (by omega) (by omega))) rfl rfl ?_)) | ((with_reducible refine xk_any ?_); ((with_reducible refine xk_as0 ?_); first | ((with_reducible refine xk_move ?_); refine wx_q (wt_none rfl) rfl rfl (op_q rfl (op_move rfl)) rfl rfl rfl ?_) | ((with_reducible refine xk_bin ?_); refine wx_q (wt_none rfl) rfl rfl (op_q rfl (op_gtr rfl rfl)) rfl rfl rfl ?_) | ((with_reducible refine xk_pick ?_); refine wx_q (wt_none rfl) rfl rfl (op_q rfl (op_pickt rfl rfl)) rfl rfl rfl ?_) | ((with_reducible refine xk_g ?_); first | ((with_reducible refine xg_move ?_); refine wx_q (wt_run rfl rfl rfl) rfl rfl (op_q rfl (op_move rfl)) rfl rfl rfl ?_) | ((with_reducible refine xg_indexAddr ?_); refine wx_q (wt_run rfl rfl rfl) rfl rfl (op_q rfl (op_indexAddr rfl rfl j1)) rfl rfl rfl ?_) | ((with_reducible refine xg_load ?_); first | refine wx_h0 (wt_run rfl rfl rfl) rfl (op_q rfl (op_ldCells rfl Tryz.underlying103 rfl zs103 j3.all)) rfl rfl rfl ?_ | refine wx_h0 (wt_run rfl rfl rfl) rfl (op_q rfl (op_ldAgg rfl at_A Tryz.underlying103 rfl zs103 rfl rfl)) rfl rfl rfl ?_) | ((with_reducible refine xg_bin ?_); first | refine wx_q (wt_run rfl rfl rfl) rfl rfl (op_q rfl (op_sub' rfl rfl (w64 (by omega) (by omega)))) rfl rfl rfl ?_ | refine wx_q (wt_run rfl rfl rfl) rfl rfl (op_q rfl (op_leq rfl rfl)) rfl rfl rfl ?_) | ((with_reducible refine xg_callv ?_); (refine wx_call0 (wt_run rfl rfl rfl) rfl rfl rfl rfl ((q103 _ wf_A)) rfl rfl ?_; rintro _ _ ⟨rfl, hq⟩; all_goals ((try (have hqn := hq.nx)); (try simp only [H.nx_push, H.nx_set, H.nx_bump] at hqn)))) | (refine wx_split rfl rfl rfl (fun hb => ?_) (fun hb => ?_) <;> (try simp only [decide_eq_true_eq, decide_eq_false_iff_not, Bool.not_eq_true', Bool.not_eq_false', Int.not_lt, Int.not_le, Decidable.not_not, not_true_eq_false, not_false_eq_true, beq_self_eq_true, reduceCtorEq] at hb) <;> (try (exfalso; omega)))) | with_reducible refine wx_nil0 ?_ ?_)) | with_reducible exact obl_nil | with_reducible refine obl_cons ?_ ?_ | ((with_reducible refine ik_obs ?_); first | exact obs_nil | refine obs_skip rfl ?_ | refine obs_chkn rfl rfl (op_q rfl (op_ldCells rfl Tryz.underlying103 rfl zs103 j3.all)) ?_ | refine obs_chkn rfl rfl (op_q rfl (op_ldAgg rfl at_A Tryz.underlying103 rfl zs103 (by rfl) rfl)) ?_) | with_reducible refine sq_norm ?_ | with_reducible refine wc_region ?_ | with_reducible refine wc_skip ?_ | with_reducible refine bq_norm ?_ | (refine wc_if rfl (fun hb => ?_) (fun hb => ?_) <;> (try simp only [decide_eq_true_eq, decide_eq_false_iff_not, Bool.not_eq_true', Bool.not_eq_false', Int.not_lt, Int.not_le, Decidable.not_not, not_true_eq_false, not_false_eq_true, beq_self_eq_true, reduceCtorEq] at hb) <;> (try (exfalso; omega))) | refine wc_drawB (id := 7) 13 [0, 1, 3, 7, 7, 7, 7, 71, 231, 487, 1023, 2047, 4095] [0, 1, 2, 3, 4, 5, 6, 7, 8, 9, 10, 11, 12] (by kernel_rfl) (by kernel_rfl) rfl rfl ?_)
          all_goals exact lq_norm (k + 1) (by omega) (within_lk ⟨rfl, rfl, rfl, rfl, rfl, rfl, trivial⟩) ⟨⟨wf_A, gr_A⟩, by omega, nxt⟩
      · have hE := errT_c he hk0
        rw [hE] at nxt
        repeat' (first | with_reducible refine wo_nil ?_ | ((with_reducible refine wo_any ?_); first | ((with_reducible refine ik_move ?_); refine wo_op rfl (op_move rfl) rfl rfl ?_) | ((with_reducible refine ik_bin ?_); refine wo_op rfl (op_add' rfl rfl (w64 (by omega) (by omega))) rfl rfl ?_)) | ((with_reducible refine xk_any ?_); ((with_reducible refine xk_as0 ?_); first | ((with_reducible refine xk_move ?_); refine wx_q (wt_none rfl) rfl rfl (op_q rfl (op_move rfl)) rfl rfl rfl ?_) | ((with_reducible refine xk_bin ?_); refine wx_q (wt_none rfl) rfl rfl (op_q rfl (op_gtr rfl rfl)) rfl rfl rfl ?_) | ((with_reducible refine xk_pick ?_); refine wx_q (wt_none rfl) rfl rfl (op_q rfl (op_pickf rfl rfl)) rfl rfl rfl ?_) | ((with_reducible refine xk_g ?_); first | refine wx_s (wt_skip rfl rfl rfl rfl) rfl rfl ?_ | (refine wx_split rfl rfl rfl (fun hb => ?_) (fun hb => ?_) <;> (try simp only [decide_eq_true_eq, decide_eq_false_iff_not, Bool.not_eq_true', Bool.not_eq_false', Int.not_lt, Int.not_le, Decidable.not_not, not_true_eq_false, not_false_eq_true, beq_self_eq_true, reduceCtorEq] at hb) <;> (try (exfalso; omega)))) | with_reducible refine wx_nil0 ?_ ?_)) | with_reducible exact obl_nil | with_reducible refine sq_norm ?_ | with_reducible refine wc_region ?_ | with_reducible refine wc_skip ?_ | with_reducible refine bq_norm ?_ | refine wc_iff rfl ?_ | refine wc_drawB (id := 7) 13 [0, 1, 3, 7, 7, 7, 7, 71, 231, 487, 1023, 2047, 4095] [0, 1, 2, 3, 4, 5, 6, 7, 8, 9, 10, 11, 12] (by kernel_rfl) (by kernel_rfl) rfl rfl ?_)
        all_goals exact lq_norm (k + 1) (by omega) (within_lk ⟨rfl, rfl, rfl, rfl, rfl, rfl, trivial⟩) ⟨⟨wf_A, gr_A⟩, by omega, nxt⟩
    · have hT := hit (by rw [errT_a he]; exact he)
      rw [errT_a he] at hT
      obtain ⟨E, hEE⟩ : ∃ E, rowE (tdG ts k) = E := ⟨_, rfl⟩
      rw [hEE] at q104 hT he
      rw [hT]
      repeat' (first | with_reducible refine wo_nil ?_ | ((with_reducible refine wo_any ?_); first | ((with_reducible refine ik_move ?_); refine wo_op rfl (op_move rfl) rfl rfl ?_) | ((with_reducible refine ik_assign ?_); refine wo_op rfl (op_assign rfl) rfl rfl ?_) | ((with_reducible refine ik_indexAddr ?_); refine wo_op rfl (op_indexAddr rfl rfl i1) rfl rfl ?_) | ((with_reducible refine ik_load ?_); first | refine wo_op rfl (op_ldCells rfl Tryz.underlying103 rfl zs103 i3.all) rfl rfl ?_ | refine wo_op rfl (op_ldAgg rfl at_A Tryz.underlying103 rfl zs103 rfl rfl) rfl rfl ?_) | ((with_reducible refine ik_bin ?_); first | refine wo_op rfl (op_lss rfl rfl) rfl rfl ?_ | refine wo_op rfl (op_neq rfl rfl) rfl rfl ?_) | ((with_reducible refine ik_alloc ?_); refine wo_op rfl (op_alloc zz103 zs103 rfl rfl rfl) rfl rfl ?_) | ((with_reducible refine ik_store ?_); refine wo_op0 rfl (op_stAgg rfl rfl at_A zs103 rfl rfl rfl rfl) rfl ?_) | ((with_reducible refine ik_callv ?_); (refine wo_call rfl rfl rfl rfl ((q104 _ wf_A)) rfl rfl ?_; rintro _ _ ⟨rfl, hq⟩; all_goals ((try (have hqn := hq.nx)); (try simp only [H.nx_push, H.nx_set, H.nx_bump] at hqn))))) | with_reducible refine sq_norm ?_ | with_reducible refine wc_seq ?_ | with_reducible refine wc_region ?_ | with_reducible refine wc_skip ?_ | with_reducible refine wc_ret ?_ | with_reducible refine wc_block ?_ | with_reducible refine bq_ret ?_ | with_reducible refine sq_ret ?_ | with_reducible refine lq_ret ?_ | (refine wc_if rfl (fun hb => ?_) (fun hb => dead_A hb); (try simp only [decide_eq_true_eq, decide_eq_false_iff_not, Bool.not_eq_true', Bool.not_eq_false', Int.not_lt, Int.not_le, Decidable.not_not, not_true_eq_false, not_false_eq_true, beq_self_eq_true, reduceCtorEq] at hb)))
      exact rq1 rfl ⟨rfl, gr_A⟩
  · repeat' (first | with_reducible refine wo_nil ?_ | ((with_reducible refine wo_any ?_); first | ((with_reducible refine ik_assign ?_); refine wo_op rfl (op_assign rfl) rfl rfl ?_) | ((with_reducible refine ik_bin ?_); refine wo_op rfl (op_lss rfl rfl) rfl rfl ?_)) | with_reducible refine sq_norm ?_ | with_reducible refine wc_seq ?_ | with_reducible refine wc_region ?_ | with_reducible refine wc_ret ?_ | with_reducible refine wc_exit ?_ | with_reducible refine sq_exit ?_ | with_reducible refine lq_exit ?_ | refine bq_eq rfl ?_ | (refine wc_if rfl (fun hb => ?_) (fun hb => ?_) <;> (try simp only [decide_eq_true_eq, decide_eq_false_iff_not, Bool.not_eq_true', Bool.not_eq_false', Int.not_lt, Int.not_le, Decidable.not_not, not_true_eq_false, not_false_eq_true, beq_self_eq_true, reduceCtorEq] at hb) <;> (try (exfalso; omega))))
    have hin : k = n := by omega
    subst hin
    rw [tidE_end hl hn0 hn hz]
    exact rq1 rfl ⟨rfl, gr_A⟩
theorem c60 {v : Value} {n : Nat} {ts : List (Int × Int)} (s : Sl G h 2 v n (ts.flatMap tidC)) (hw : Wf h) : Cf (mz G) (.func (.func 60) #[] #[]) [v] h fun r h' => r = .int .i64 (tidE ts) ∧ Grow h h' := by
  have q102 := fun (h' : H) (g : Grow h h') (p : ¬n = 0) (q : ¬16 < n) (w' : Wf h') => c102 (s.grow g) p q w'
  have hl := s.length
  rw [tid_len] at hl
  have hl : n = ts.length := by omega
  obtain ⟨a, c, rfl⟩ := s.form
  by_cases h0 : n = 0
  · have : tidE ts = 12 := by unfold tidE; rw [if_pos (by omega)]
    rw [this]
    have q86 : ∀ h : H, Cl (mz G) (.func (.func 86) #[] #[]) [.int .i64 n, .int .i64 16] h (.int .i64 12) h := fun h => by have := c86 (G := G) (h := h) n 16; unfold cntE at this; rwa [if_pos (by omega)] at this
    refine cf_enter0 12 [.tmp 2] Tryz.func60 rfl rfl rfl rfl ?_
    repeat' (first | with_reducible refine wo_nil ?_ | ((with_reducible refine wo_any ?_); first | ((with_reducible refine ik_move ?_); refine wo_op rfl (op_move rfl) rfl rfl ?_) | ((with_reducible refine ik_assign ?_); refine wo_op rfl (op_assign rfl) rfl rfl ?_) | ((with_reducible refine ik_callb ?_); refine wo_op rfl (op_lenSl rfl Tryz.underlying87) rfl rfl ?_) | ((with_reducible refine ik_bin ?_); refine wo_op rfl (op_neq rfl rfl) rfl rfl ?_) | ((with_reducible refine ik_callv ?_); refine wo_op rfl (op_call rfl rfl (q86 _)) rfl rfl ?_)) | with_reducible refine sq_norm ?_ | with_reducible refine wc_seq ?_ | with_reducible refine wc_region ?_ | with_reducible refine wc_ret ?_ | with_reducible refine sq_ret ?_ | refine wc_ift rfl ?_)
    exact rq1 rfl ⟨rfl, gr_A⟩
  by_cases h1 : 16 < n
  · have : tidE ts = 5 := by unfold tidE; rw [if_neg (by omega), if_pos (by omega)]
    rw [this]
    have q86 : ∀ h : H, Cl (mz G) (.func (.func 86) #[] #[]) [.int .i64 n, .int .i64 16] h (.int .i64 5) h := fun h => by have := c86 (G := G) (h := h) n 16; unfold cntE at this; rwa [if_neg (by omega), if_pos (by omega)] at this
    refine cf_enter0 12 [.tmp 2] Tryz.func60 rfl rfl rfl rfl ?_
    repeat' (first | with_reducible refine wo_nil ?_ | ((with_reducible refine wo_any ?_); first | ((with_reducible refine ik_move ?_); refine wo_op rfl (op_move rfl) rfl rfl ?_) | ((with_reducible refine ik_assign ?_); refine wo_op rfl (op_assign rfl) rfl rfl ?_) | ((with_reducible refine ik_callb ?_); refine wo_op rfl (op_lenSl rfl Tryz.underlying87) rfl rfl ?_) | ((with_reducible refine ik_bin ?_); refine wo_op rfl (op_neq rfl rfl) rfl rfl ?_) | ((with_reducible refine ik_callv ?_); refine wo_op rfl (op_call rfl rfl (q86 _)) rfl rfl ?_)) | with_reducible refine sq_norm ?_ | with_reducible refine wc_seq ?_ | with_reducible refine wc_region ?_ | with_reducible refine wc_ret ?_ | with_reducible refine sq_ret ?_ | refine wc_ift rfl ?_)
    exact rq1 rfl ⟨rfl, gr_A⟩
  have q86 : ∀ h : H, Cl (mz G) (.func (.func 86) #[] #[]) [.int .i64 n, .int .i64 16] h (.int .i64 0) h := fun h => by have := c86 (G := G) (h := h) n 16; unfold cntE at this; rwa [if_neg (by omega), if_neg (by omega)] at this
  refine cf_enter0 12 [.tmp 2] Tryz.func60 rfl rfl rfl rfl ?_
  repeat' (first | with_reducible refine wo_nil ?_ | ((with_reducible refine wo_any ?_); first | ((with_reducible refine ik_move ?_); refine wo_op rfl (op_move rfl) rfl rfl ?_) | ((with_reducible refine ik_assign ?_); refine wo_op rfl (op_assign rfl) rfl rfl ?_) | ((with_reducible refine ik_callb ?_); refine wo_op rfl (op_lenSl rfl Tryz.underlying87) rfl rfl ?_) | ((with_reducible refine ik_bin ?_); refine wo_op rfl (op_neq rfl rfl) rfl rfl ?_) | ((with_reducible refine ik_callv ?_); first | refine wo_op rfl (op_call rfl rfl (q86 _)) rfl rfl ?_ | (refine wo_call rfl rfl rfl rfl (q102 _ gr_A h0 h1 wf_A) rfl rfl ?_; rintro _ _ ⟨rfl, hq⟩; all_goals ((try (have hqn := hq.nx)); (try simp only [H.nx_push, H.nx_set, H.nx_bump] at hqn))))) | with_reducible refine sq_norm ?_ | with_reducible refine wc_seq ?_ | with_reducible refine wc_region ?_ | with_reducible refine wc_skip ?_ | with_reducible refine wc_ret ?_ | refine wc_iff rfl ?_)
  exact rq1 rfl ⟨rfl, gr_A⟩
end Go.Proofs.YtdfpadokepmknaaGreatDoor
