/- Survey: entries merged by the reference and by the program; a list of one's own shortened in place. -/
import Derived.Test.YtlioomhcdlicmaaGreatDoorC14
import Derived.Test.YtlioomhcdlicmaaGreatDoorC13
set_option linter.all false
/- Survey: entries merged by the reference; two ways to merge. -/
namespace Go.Proofs.YtlioomhcdlicmaaGreatDoor
open Go Go.Ab Go.Fl
attribute [local irreducible] SeqQ BlkQ LpQ RetQ Wc Wo WD WX Op1 Op1q Op1a Cf Cl From
attribute [local irreducible] Ieee.Format.order Ieee.Format.read Ieee.Format.nearest Ieee.Format.write Ieee.Format.mul Ieee.Format.div Ieee.Format.sqrt Ieee.Datum.order Ieee.Datum.integral K U rngE errN ptE firstNZ vesE watE sgE sgsE allE hitB sqD insB qsL lvl rn rl altB
set_option maxRecDepth 10000
variable {G : Base} {h : H}

/-- Entries merged from an entry on, from the left. -/
def lm (e : En) : List En → List En
  | [] => [e]
  | x :: l => if x.c = e.c ∧ x.f = e.t then lm ⟨e.f, x.t, e.c⟩ l else e :: lm x l
def mgL : List En → List En
  | [] => []
  | e :: l => lm e l
/-- Entries merged from the right. -/
def rm : List En → List En
  | [] => []
  | e :: l => match rm l with
    | [] => [e]
    | x :: r => if x.c = e.c ∧ x.f = e.t then ⟨e.f, x.t, e.c⟩ :: r else e :: x :: r
theorem rm_cons (e : En) (l : List En) : ∃ z r, rm (e :: l) = ⟨e.f, z, e.c⟩ :: r ∧ ∀ f : Int, rm (⟨f, e.t, e.c⟩ :: l) = ⟨f, z, e.c⟩ :: r := by
  cases h : rm l with
  | nil => exact ⟨e.t, [], by simp only [rm, h], fun f => by simp only [rm, h]⟩
  | cons x r =>
    by_cases q : x.c = e.c ∧ x.f = e.t
    · exact ⟨x.t, r, by simp only [rm, h, if_pos q], fun f => by simp only [rm, h, if_pos q]⟩
    · exact ⟨e.t, x :: r, by simp only [rm, h, if_neg q], fun f => by simp only [rm, h, if_neg q]⟩
theorem lm_rm : ∀ (l : List En) (e : En), lm e l = rm (e :: l)
  | [], e => rfl
  | x :: l, e => by
    obtain ⟨z, r, h1, h2⟩ := rm_cons x l
    have e1 : rm (e :: x :: l) = if x.c = e.c ∧ x.f = e.t then ⟨e.f, z, e.c⟩ :: r else e :: ⟨x.f, z, x.c⟩ :: r := by
      rw [rm, h1]
    rw [lm, e1]
    by_cases q : x.c = e.c ∧ x.f = e.t
    · rw [if_pos q, if_pos q, lm_rm l ⟨e.f, x.t, e.c⟩, ← q.1]
      exact h2 e.f
    · rw [if_neg q, if_neg q, lm_rm l x, h1]
theorem mgL_rm (l : List En) : mgL l = rm l := by
  cases l with
  | nil => rfl
  | cons e l => exact lm_rm l e
theorem lm_snoc (x : En) : ∀ (l : List En) (e : En), ∃ (D : List En) (y : En), lm e l = D ++ [y] ∧ lm e (l ++ [x]) = if x.c = y.c ∧ x.f = y.t then D ++ [⟨y.f, x.t, y.c⟩] else D ++ [y] ++ [x]
  | [], e => ⟨[], e, rfl, by
    show lm e [x] = _
    rw [lm]
    split
    · rfl
    · rfl⟩
  | z :: l, e => by
    by_cases q : z.c = e.c ∧ z.f = e.t
    · obtain ⟨D, y, h1, h2⟩ := lm_snoc x l ⟨e.f, z.t, e.c⟩
      exact ⟨D, y, by rw [lm, if_pos q, h1], by show lm e (z :: (l ++ [x])) = _; rw [lm, if_pos q, h2]⟩
    · obtain ⟨D, y, h1, h2⟩ := lm_snoc x l z
      refine ⟨e :: D, y, by rw [lm, if_neg q, h1]; rfl, ?_⟩
      show lm e (z :: (l ++ [x])) = _
      rw [lm, if_neg q, h2]
      split <;> rfl
theorem mg_next {l : List En} {k : Nat} (hk : k < l.length) (h0 : 0 < k) : ∃ (D : List En) (y : En), mgL (l.take k) = D ++ [y] ∧ mgL (l.take (k + 1)) = if (l.getD k ⟨0, 0, .empty⟩).c = y.c ∧ (l.getD k ⟨0, 0, .empty⟩).f = y.t then D ++ [⟨y.f, (l.getD k ⟨0, 0, .empty⟩).t, y.c⟩] else D ++ [y] ++ [l.getD k ⟨0, 0, .empty⟩] := by
  rw [take_next ⟨0, 0, .empty⟩ hk]
  generalize l.getD k ⟨0, 0, .empty⟩ = x
  cases h : l.take k with
  | nil =>
    have := congrArg List.length h
    rw [List.length_take] at this
    simp only [List.length_nil] at this
    omega
  | cons e r => exact lm_snoc x r e
theorem mg_one {l : List En} (hk : 0 < l.length) : mgL (l.take (0 + 1)) = [l.getD 0 ⟨0, 0, .empty⟩] := by
  rw [take_next ⟨0, 0, .empty⟩ hk]; rfl
theorem lm_le : ∀ (l : List En) (e : En), (lm e l).length ≤ l.length + 1
  | [], e => by simp [lm]
  | x :: l, e => by
    rw [lm]
    split
    · have := lm_le l ⟨e.f, x.t, e.c⟩; simp only [List.length_cons]; omega
    · have := lm_le l x; simp only [List.length_cons]; omega
theorem mg_le (l : List En) : (mgL l).length ≤ l.length := by
  cases l with
  | nil => exact Nat.le_refl _
  | cons e l => exact lm_le l e
set_option maxHeartbeats 16000000 in
theorem c44g {v : Value} {n : Nat} {l : List En} (s : Sl G h 3 v n (l.flatMap En.cells)) (hl : l.length = n) (hn : n < 1000000) (hw : Wf h) : Cf (mz G) (.func (.func 44) #[] #[]) [v] h fun r h' => OutG h.nx h' r (mgL l).length ((mgL l).flatMap En.cells) 184 3 ∧ Grow h h' := by
  obtain ⟨a, c, rfl⟩ := s.form
  refine cf_enter0 66 [.tmp 2] Tryz.func44 rfl rfl rfl rfl ?_
  repeat' (first | with_reducible refine wo_nil ?_ | ((with_reducible refine wo_any ?_); ((with_reducible refine ik_assign ?_); refine wo_op rfl (op_assign rfl) rfl rfl ?_)) | with_reducible refine sq_norm ?_ | with_reducible refine wc_seq ?_ | with_reducible refine wc_region ?_ | with_reducible refine wc_block ?_)
  refine wc_loop (fun p : Nat × Value => n - p.1) (fun p => [(0, .slice a n c), (3, p.2), (4, .int .i64 (p.1 : Nat))]) (fun p h' => (Wf h' ∧ Grow h h') ∧ p.1 ≤ n ∧ ((p.1 = 0 ∧ p.2 = .slice none 0 0) ∨ 0 < p.1 ∧ ∃ e, h.nx ≤ e ∧ p.2 = .slice (some ⟨e, 0, some 0⟩) (mgL (l.take p.1)).length (mgL (l.take p.1)).length ∧ At h' e (.cells ((mgL (l.take p.1)).flatMap En.cells) 184 3 true))) (0, .slice none 0 0) (within_lk ⟨rfl, rfl, rfl, trivial⟩) ⟨⟨wf_A, gr_A⟩, Nat.zero_le _, .inl ⟨rfl, rfl⟩⟩ ?_
  rintro ⟨k, v⟩ h1 ⟨⟨w1, g1⟩, hk, hv⟩
  simp only at hk hv ⊢
  have n1 := g1.nx
  by_cases hlt : k < n
  · obtain ⟨id, i1, i3⟩ := rl_at En.len ⟨0, 0, .empty⟩ (s.grow g1) hl Tryz.underlying83 zs184 (i := (k : Int)) hlt rfl
    by_cases hk0 : k = 0
    · subst hk0
      obtain ⟨_, rfl⟩ | ⟨q, _⟩ := hv
      · have e1 := mg_one (l := l) (by omega)
        generalize l.getD 0 ⟨0, 0, .empty⟩ = x0 at i3 e1
        obtain ⟨f, t, cz⟩ := x0
        dsimp only [En.cells] at i3
        repeat' (first | with_reducible refine wo_nil ?_ | ((with_reducible refine wo_any ?_); first | ((with_reducible refine ik_move ?_); refine wo_op rfl (op_move rfl) rfl rfl ?_) | ((with_reducible refine ik_assign ?_); refine wo_op rfl (op_assign rfl) rfl rfl ?_) | ((with_reducible refine ik_indexAddr ?_); refine wo_op rfl (op_indexAddr rfl rfl i1) rfl rfl ?_) | ((with_reducible refine ik_load ?_); refine wo_op rfl (op_ldLn rfl Tryz.underlying184 rfl zs184 (i3 _ gr_A).all) rfl rfl ?_) | ((with_reducible refine ik_callb ?_); first | refine wo_op rfl (op_append rfl rfl (append_nil_eq (M := mz G) (st := 83) (xt := 83) (m := 1) Tryz.underlying83 Tryz.underlying83 rfl zs184 zb184 zz184 rfl (Sl.ofAt at_A rfl (Nat.le_refl _)) rfl (by omega) (by omega))) rfl rfl ?_ | refine wo_op rfl (op_lenSl rfl Tryz.underlying83) rfl rfl ?_) | ((with_reducible refine ik_bin ?_); first | refine wo_op rfl (op_lss rfl rfl) rfl rfl ?_ | refine wo_op rfl (op_add' rfl rfl (w64 (by omega) (by omega))) rfl rfl ?_) | ((with_reducible refine ik_buildSlice ?_); refine wo_op rfl (op_buildSl rfl Tryz.underlying83 zs184 zz184 rfl rfl) rfl rfl ?_)) | ((with_reducible refine xk_any ?_); ((with_reducible refine xk_as0 ?_); first | ((with_reducible refine xk_move ?_); refine wx_q (wt_none rfl) rfl rfl (op_q rfl (op_move rfl)) rfl rfl rfl ?_) | ((with_reducible refine xk_bin ?_); refine wx_q (wt_none rfl) rfl rfl (op_q rfl (op_gtr rfl rfl)) rfl rfl rfl ?_) | ((with_reducible refine xk_pick ?_); refine wx_q (wt_none rfl) rfl rfl (op_q rfl (op_pickf rfl rfl)) rfl rfl rfl ?_) | ((with_reducible refine xk_g ?_); refine wx_s (wt_skip rfl rfl rfl rfl) rfl rfl ?_) | with_reducible refine wx_nil0 ?_ ?_)) | with_reducible exact obl_nil | with_reducible refine sq_norm ?_ | with_reducible refine wc_seq ?_ | with_reducible refine wc_region ?_ | with_reducible refine wc_skip ?_ | with_reducible refine wc_block ?_ | with_reducible refine bq_norm ?_ | refine wc_iff rfl ?_ | (refine wc_if rfl (fun hb => ?_) (fun hb => dead_A hb); (try simp only [decide_eq_true_eq, decide_eq_false_iff_not, Bool.not_eq_true', Bool.not_eq_false', Int.not_lt, Int.not_le, Decidable.not_not, not_true_eq_false, not_false_eq_true, beq_self_eq_true, reduceCtorEq] at hb)) | refine wc_drawB (id := 6) 32 [0, 1, 3, 7, 7, 23, 63, 127, 255, 7, 7, 1543, 3591, 7687, 16383, 32767, 65535, 131071, 131071, 393215, 1048575, 2097151, 4194303, 8388607, 131071, 131071, 50462719, 117571583, 251789311, 520224767, 1073741823, 2147483647] [0, 1, 2, 3, 4, 5, 6, 7, 8, 9, 10, 11, 12, 13, 14, 15, 16, 17, 18, 19, 20, 21, 22, 23, 24, 25, 26, 27, 28, 29, 30, 31] (by kernel_rfl) (by kernel_rfl) rfl rfl ?_)
        refine lq_norm (0 + 1, .slice (some ⟨_, 0, some 0⟩) (0 + 1) (0 + 1)) (by simp only; omega) (within_lk ⟨rfl, rfl, rfl, trivial⟩) ⟨⟨wf_A, gr_A⟩, by simp only; omega, .inr ⟨by simp only; omega, _, ?_, by simp only; rw [e1]; rfl, by simp only; rw [e1]; exact (show At _ _ (.cells [Value.int .i64 f, Value.int .i64 t, .string cz] 184 3 true) from at_A)⟩⟩
        simp only [H.nx_push, H.nx_set, H.nx_bump, H.nx_kill]; omega
      · omega
    · obtain ⟨D, y, e1, e2⟩ := mg_next (l := l) (k := k) (by omega) (by omega)
      obtain ⟨e, he, hve, hat⟩ : ∃ e, h.nx ≤ e ∧ v = .slice (some ⟨e, 0, some 0⟩) (mgL (l.take k)).length (mgL (l.take k)).length ∧ At h1 e (.cells ((mgL (l.take k)).flatMap En.cells) 184 3 true) := by
        rcases hv with ⟨q, _⟩ | ⟨_, q⟩
        · exact absurd q hk0
        · exact q
      subst hve
      have l1 := hat.lt
      have hDl : D.length + 1 ≤ k := by have := mg_le (l.take k); rw [e1, List.length_take] at this; simp at this; omega
      obtain ⟨x0, hx⟩ : ∃ x, l.getD k ⟨0, 0, .empty⟩ = x := ⟨_, rfl⟩
      rw [hx] at i3 e2
      obtain ⟨f', t', x0⟩ := x0
      obtain ⟨f, z, y0⟩ := y
      dsimp only [En.cells] at i3
      dsimp only at e2
      have ic := fun (h' : H) (g' : Grow h1 h') => (show acell G h' (aadd id 2) = some (.string x0) from (i3 h' g').get 2 _ rfl)
      have it := fun (h' : H) (g' : Grow h1 h') => (show acell G h' (aadd (aadd id 0) 1) = some (.int .i64 t') from (i3 h' g').get 1 _ rfl)
      have if_ := fun (h' : H) (g' : Grow h1 h') => (show acell G h' (aadd (aadd id 0) 0) = some (.int .i64 f') from (i3 h' g').get 0 _ rfl)
      have e6 : (D ++ [⟨f, z, y0⟩] : List En).length = D.length + 1 := by simp
      rw [e1, en_last] at hat
      rw [e1, e6]
      obtain ⟨hc1, hc2⟩ := en_get (D := D) (a := f) (z := z) (x := y0)
      have hll : (D.flatMap En.cells ++ [Value.int .i64 f, Value.int .i64 z, Value.string y0]).length = (D.length + 1) * 3 := by rw [List.length_append, En.flat]; simp only [List.length_cons, List.length_nil]; omega
      clear hv e1 hx
      by_cases hxy : x0 = y0
      · by_cases hfz : f' = z
        · rw [if_pos ⟨hxy, hfz⟩] at e2
          have e7 : (mgL (l.take (k + 1))).length = D.length + 1 := by rw [e2]; simp
          have e8 : (mgL (l.take (k + 1))).flatMap En.cells = D.flatMap En.cells ++ [Value.int .i64 f, Value.int .i64 t', .string y0] := by rw [e2, en_last]
          clear e2
          subst hfz
          repeat' (first | with_reducible refine wo_nil ?_ | ((with_reducible refine wo_any ?_); first | ((with_reducible refine ik_move ?_); refine wo_op rfl (op_move rfl) rfl rfl ?_) | ((with_reducible refine ik_assign ?_); refine wo_op rfl (op_assign rfl) rfl rfl ?_) | ((with_reducible refine ik_indexAddr ?_); first | refine wo_op rfl (op_indexAddr rfl rfl i1) rfl rfl ?_ | refine wo_op rfl (op_idxSl (o := D.length * 3) rfl rfl Tryz.underlying83 zs184 (by omega) (by omega) (by omega)) rfl rfl ?_) | ((with_reducible refine ik_load ?_); refine wo_op rfl (op_ldCell rfl Tryz.underlying3 rfl (it _ gr_A)) rfl rfl ?_) | ((with_reducible refine ik_bin ?_); first | refine wo_op rfl (op_lss rfl rfl) rfl rfl ?_ | refine wo_op rfl (op_sub' rfl rfl (w64 (by omega) (by omega))) rfl rfl ?_ | refine wo_op rfl (op_add' rfl rfl (w64 (by omega) (by omega))) rfl rfl ?_) | ((with_reducible refine ik_store ?_); refine wo_op0 rfl (op_stIdx (b := e) (o := D.length * 3 + 1) rfl rfl at_A rfl zs3 (by rw [hll]; omega) rfl en_set) rfl ?_) | ((with_reducible refine ik_callb ?_); refine wo_op rfl (op_lenSl rfl Tryz.underlying83) rfl rfl ?_) | ((with_reducible refine ik_fieldAddr ?_); first | refine wo_op rfl (op_fieldAddr (o := 0) rfl Tryz.underlying184 rfl zs79 rfl) rfl rfl ?_ | refine wo_op rfl (op_fieldAddr (o := 1) rfl Tryz.underlying79 rfl zs3 rfl) rfl rfl ?_)) | ((with_reducible refine xk_any ?_); ((with_reducible refine xk_as0 ?_); first | ((with_reducible refine xk_move ?_); refine wx_q (wt_none rfl) rfl rfl (op_q rfl (op_move rfl)) rfl rfl rfl ?_) | ((with_reducible refine xk_bin ?_); refine wx_q (wt_none rfl) rfl rfl (op_q rfl (op_gtr rfl rfl)) rfl rfl rfl ?_) | ((with_reducible refine xk_pick ?_); refine wx_q (wt_none rfl) rfl rfl (op_q rfl (op_pickt rfl rfl)) rfl rfl rfl ?_) | ((with_reducible refine xk_g ?_); first | ((with_reducible refine xg_move ?_); refine wx_q (wt_run rfl rfl rfl) rfl rfl (op_q rfl (op_move rfl)) rfl rfl rfl ?_) | ((with_reducible refine xg_indexAddr ?_); first | refine wx_q (wt_run rfl rfl rfl) rfl rfl (op_q rfl (op_indexAddr rfl rfl i1)) rfl rfl rfl ?_ | refine wx_q (wt_run rfl rfl rfl) rfl rfl (op_q rfl (op_idxSl (o := D.length * 3) rfl rfl Tryz.underlying83 zs184 (by omega) (by omega) (by omega))) rfl rfl rfl ?_) | ((with_reducible refine xg_load ?_); first | refine wx_h0 (wt_run rfl rfl rfl) rfl (op_q rfl (op_ldCell rfl Tryz.underlying9 rfl (ic _ gr_A))) rfl rfl rfl ?_ | refine wx_h0 (wt_run rfl rfl rfl) rfl (op_q rfl (op_ldCell rfl Tryz.underlying3 rfl (if_ _ gr_A))) rfl rfl rfl ?_ | refine wx_h0 (wt_run rfl rfl rfl) rfl (op_q rfl (op_ldIdx (b := e) (o := D.length * 3 + 2) rfl at_A Tryz.underlying9 rfl hc2)) rfl rfl rfl ?_ | refine wx_h0 (wt_run rfl rfl rfl) rfl (op_q rfl (op_ldIdx (b := e) (o := D.length * 3 + 1) rfl at_A Tryz.underlying3 rfl hc1)) rfl rfl rfl ?_) | ((with_reducible refine xg_bin ?_); first | refine wx_q (wt_run rfl rfl rfl) rfl rfl (op_q rfl (op_seqE rfl rfl hxy.symm)) rfl rfl rfl ?_ | refine wx_q (wt_run rfl rfl rfl) rfl rfl (op_q rfl (op_sub' rfl rfl (w64 (by omega) (by omega)))) rfl rfl rfl ?_ | refine wx_q (wt_run rfl rfl rfl) rfl rfl (op_q rfl (op_eql rfl rfl)) rfl rfl rfl ?_) | ((with_reducible refine xg_fieldAddr ?_); first | refine wx_q (wt_run rfl rfl rfl) rfl rfl (op_q rfl (op_fieldAddr (o := 2) rfl Tryz.underlying184 rfl zs9 rfl)) rfl rfl rfl ?_ | refine wx_q (wt_run rfl rfl rfl) rfl rfl (op_q rfl (op_fieldAddr (o := 0) rfl Tryz.underlying184 rfl zs79 rfl)) rfl rfl rfl ?_ | refine wx_q (wt_run rfl rfl rfl) rfl rfl (op_q rfl (op_fieldAddr (o := 1) rfl Tryz.underlying79 rfl zs3 rfl)) rfl rfl rfl ?_ | refine wx_q (wt_run rfl rfl rfl) rfl rfl (op_q rfl (op_fieldAddr (o := 0) rfl Tryz.underlying79 rfl zs3 rfl)) rfl rfl rfl ?_) | (refine wx_split rfl rfl rfl (fun hb => ?_) (fun hb => dead_A hb); (try simp only [decide_eq_true_eq, decide_eq_false_iff_not, Bool.not_eq_true', Bool.not_eq_false', Int.not_lt, Int.not_le, Decidable.not_not, not_true_eq_false, not_false_eq_true, beq_self_eq_true, reduceCtorEq] at hb))) | with_reducible refine wx_nil0 ?_ ?_)) | with_reducible exact obl_nil | with_reducible refine obl_cons ?_ ?_ | ((with_reducible refine ik_obs ?_); first | exact obs_nil | refine obs_chkn rfl rfl (op_q rfl (op_ldCell rfl Tryz.underlying9 rfl (ic _ gr_A))) ?_ | refine obs_chkn rfl rfl (op_q rfl (op_ldCell rfl Tryz.underlying3 rfl (if_ _ gr_A))) ?_ | refine obs_chkn rfl rfl (op_q rfl (op_ldIdx (b := e) (o := D.length * 3 + 2) rfl at_A Tryz.underlying9 rfl hc2)) ?_ | refine obs_chkn rfl rfl (op_q rfl (op_ldIdx (b := e) (o := D.length * 3 + 1) rfl at_A Tryz.underlying3 rfl hc1)) ?_) | with_reducible refine sq_norm ?_ | with_reducible refine wc_seq ?_ | with_reducible refine wc_region ?_ | with_reducible refine wc_skip ?_ | with_reducible refine wc_block ?_ | with_reducible refine bq_norm ?_ | (refine wc_if rfl (fun hb => ?_) (fun hb => dead_A hb); (try simp only [decide_eq_true_eq, decide_eq_false_iff_not, Bool.not_eq_true', Bool.not_eq_false', Int.not_lt, Int.not_le, Decidable.not_not, not_true_eq_false, not_false_eq_true, beq_self_eq_true, reduceCtorEq] at hb)) | (refine wc_if rfl (fun hb => ?_) (fun hb => (of_decide_eq_false hb rfl).elim); (try simp only [decide_eq_true_eq, decide_eq_false_iff_not, Bool.not_eq_true', Bool.not_eq_false', Int.not_lt, Int.not_le, Decidable.not_not, not_true_eq_false, not_false_eq_true, beq_self_eq_true, reduceCtorEq] at hb)) | refine wc_drawB (id := 6) 32 [0, 1, 3, 7, 7, 23, 63, 127, 255, 7, 7, 1543, 3591, 7687, 16383, 32767, 65535, 131071, 131071, 393215, 1048575, 2097151, 4194303, 8388607, 131071, 131071, 50462719, 117571583, 251789311, 520224767, 1073741823, 2147483647] [0, 1, 2, 3, 4, 5, 6, 7, 8, 9, 10, 11, 12, 13, 14, 15, 16, 17, 18, 19, 20, 21, 22, 23, 24, 25, 26, 27, 28, 29, 30, 31] (by kernel_rfl) (by kernel_rfl) rfl rfl ?_)
          exact lq_norm (k + 1, .slice (some ⟨_, 0, some 0⟩) (D.length + 1) (D.length + 1)) (by simp only; omega) (within_lk ⟨rfl, rfl, rfl, trivial⟩) ⟨⟨wf_A, gr_A⟩, by simp only; omega, .inr ⟨by simp only; omega, e, he, by simp only; rw [e7], by simp only; rw [e8]; exact at_A⟩⟩
        · rw [if_neg (fun q => hfz q.2)] at e2
          have hs1 : (mgL (l.take (k + 1))).length = D.length + 1 + 1 := by rw [e2]; simp
          have hs2 : (mgL (l.take (k + 1))).flatMap En.cells = (D.flatMap En.cells ++ [Value.int .i64 f, Value.int .i64 z, .string y0]) ++ [Value.int .i64 f', Value.int .i64 t', .string x0] := by rw [e2, en_last, en_last]
          clear e2
          obtain ⟨L, hL⟩ : ∃ L, (D.flatMap En.cells ++ [Value.int .i64 f, Value.int .i64 z, Value.string y0]) = L := ⟨_, rfl⟩
          rw [hL] at hat hc1 hc2 hs2 hll
          clear hL
          repeat' (first | with_reducible refine wo_nil ?_ | ((with_reducible refine wo_any ?_); first | ((with_reducible refine ik_move ?_); refine wo_op rfl (op_move rfl) rfl rfl ?_) | ((with_reducible refine ik_assign ?_); refine wo_op rfl (op_assign rfl) rfl rfl ?_) | ((with_reducible refine ik_indexAddr ?_); refine wo_op rfl (op_indexAddr rfl rfl i1) rfl rfl ?_) | ((with_reducible refine ik_load ?_); refine wo_op rfl (op_ldLn rfl Tryz.underlying184 rfl zs184 (i3 _ gr_A).all) rfl rfl ?_) | ((with_reducible refine ik_bin ?_); first | refine wo_op rfl (op_lss rfl rfl) rfl rfl ?_ | refine wo_op rfl (op_add' rfl rfl (w64 (by omega) (by omega))) rfl rfl ?_) | ((with_reducible refine ik_callb ?_); first | refine wo_op rfl (op_append rfl rfl (append_own_eq (M := mz G) (st := 83) (xt := 83) (m := 1) Tryz.underlying83 Tryz.underlying83 rfl zs184 zb184 zz184 rfl (Sl.ofAt at_A rfl (Nat.le_refl _)) rfl (b := e) (c := L) at_A hll (by omega) (by omega))) rfl rfl ?_ | refine wo_op rfl (op_lenSl rfl Tryz.underlying83) rfl rfl ?_) | ((with_reducible refine ik_buildSlice ?_); refine wo_op rfl (op_buildSl rfl Tryz.underlying83 zs184 zz184 rfl rfl) rfl rfl ?_)) | ((with_reducible refine xk_any ?_); ((with_reducible refine xk_as0 ?_); first | ((with_reducible refine xk_move ?_); refine wx_q (wt_none rfl) rfl rfl (op_q rfl (op_move rfl)) rfl rfl rfl ?_) | ((with_reducible refine xk_bin ?_); refine wx_q (wt_none rfl) rfl rfl (op_q rfl (op_gtr rfl rfl)) rfl rfl rfl ?_) | ((with_reducible refine xk_pick ?_); refine wx_q (wt_none rfl) rfl rfl (op_q rfl (op_pickt rfl rfl)) rfl rfl rfl ?_) | ((with_reducible refine xk_g ?_); first | ((with_reducible refine xg_move ?_); refine wx_q (wt_run rfl rfl rfl) rfl rfl (op_q rfl (op_move rfl)) rfl rfl rfl ?_) | ((with_reducible refine xg_indexAddr ?_); first | refine wx_q (wt_run rfl rfl rfl) rfl rfl (op_q rfl (op_indexAddr rfl rfl i1)) rfl rfl rfl ?_ | refine wx_q (wt_run rfl rfl rfl) rfl rfl (op_q rfl (op_idxSl (o := D.length * 3) rfl rfl Tryz.underlying83 zs184 (by omega) (by omega) (by omega))) rfl rfl rfl ?_) | ((with_reducible refine xg_load ?_); first | refine wx_h0 (wt_run rfl rfl rfl) rfl (op_q rfl (op_ldCell rfl Tryz.underlying9 rfl (ic _ gr_A))) rfl rfl rfl ?_ | refine wx_h0 (wt_run rfl rfl rfl) rfl (op_q rfl (op_ldCell rfl Tryz.underlying3 rfl (if_ _ gr_A))) rfl rfl rfl ?_ | refine wx_h0 (wt_run rfl rfl rfl) rfl (op_q rfl (op_ldIdx (b := e) (o := D.length * 3 + 2) rfl at_A Tryz.underlying9 rfl hc2)) rfl rfl rfl ?_ | refine wx_h0 (wt_run rfl rfl rfl) rfl (op_q rfl (op_ldIdx (b := e) (o := D.length * 3 + 1) rfl at_A Tryz.underlying3 rfl hc1)) rfl rfl rfl ?_) | ((with_reducible refine xg_bin ?_); first | refine wx_q (wt_run rfl rfl rfl) rfl rfl (op_q rfl (op_seqE rfl rfl hxy.symm)) rfl rfl rfl ?_ | refine wx_q (wt_run rfl rfl rfl) rfl rfl (op_q rfl (op_sub' rfl rfl (w64 (by omega) (by omega)))) rfl rfl rfl ?_ | refine wx_q (wt_run rfl rfl rfl) rfl rfl (op_q rfl (op_eql rfl rfl)) rfl rfl rfl ?_) | ((with_reducible refine xg_fieldAddr ?_); first | refine wx_q (wt_run rfl rfl rfl) rfl rfl (op_q rfl (op_fieldAddr (o := 2) rfl Tryz.underlying184 rfl zs9 rfl)) rfl rfl rfl ?_ | refine wx_q (wt_run rfl rfl rfl) rfl rfl (op_q rfl (op_fieldAddr (o := 0) rfl Tryz.underlying184 rfl zs79 rfl)) rfl rfl rfl ?_ | refine wx_q (wt_run rfl rfl rfl) rfl rfl (op_q rfl (op_fieldAddr (o := 1) rfl Tryz.underlying79 rfl zs3 rfl)) rfl rfl rfl ?_ | refine wx_q (wt_run rfl rfl rfl) rfl rfl (op_q rfl (op_fieldAddr (o := 0) rfl Tryz.underlying79 rfl zs3 rfl)) rfl rfl rfl ?_) | (refine wx_split rfl rfl rfl (fun hb => ?_) (fun hb => dead_A hb); (try simp only [decide_eq_true_eq, decide_eq_false_iff_not, Bool.not_eq_true', Bool.not_eq_false', Int.not_lt, Int.not_le, Decidable.not_not, not_true_eq_false, not_false_eq_true, beq_self_eq_true, reduceCtorEq] at hb))) | with_reducible refine wx_nil0 ?_ ?_)) | with_reducible exact obl_nil | with_reducible refine obl_cons ?_ ?_ | ((with_reducible refine ik_obs ?_); first | exact obs_nil | refine obs_chkn rfl rfl (op_q rfl (op_ldCell rfl Tryz.underlying9 rfl (ic _ gr_A))) ?_ | refine obs_chkn rfl rfl (op_q rfl (op_ldCell rfl Tryz.underlying3 rfl (if_ _ gr_A))) ?_ | refine obs_chkn rfl rfl (op_q rfl (op_ldIdx (b := e) (o := D.length * 3 + 2) rfl at_A Tryz.underlying9 rfl hc2)) ?_ | refine obs_chkn rfl rfl (op_q rfl (op_ldIdx (b := e) (o := D.length * 3 + 1) rfl at_A Tryz.underlying3 rfl hc1)) ?_) | with_reducible refine sq_norm ?_ | with_reducible refine wc_seq ?_ | with_reducible refine wc_region ?_ | with_reducible refine wc_skip ?_ | with_reducible refine wc_block ?_ | with_reducible refine bq_norm ?_ | (refine wc_if rfl (fun hb => dead_A hb) (fun hb => ?_); (try simp only [decide_eq_true_eq, decide_eq_false_iff_not, Bool.not_eq_true', Bool.not_eq_false', Int.not_lt, Int.not_le, Decidable.not_not, not_true_eq_false, not_false_eq_true, beq_self_eq_true, reduceCtorEq] at hb)) | (refine wc_if rfl (fun hb => ?_) (fun hb => dead_A hb); (try simp only [decide_eq_true_eq, decide_eq_false_iff_not, Bool.not_eq_true', Bool.not_eq_false', Int.not_lt, Int.not_le, Decidable.not_not, not_true_eq_false, not_false_eq_true, beq_self_eq_true, reduceCtorEq] at hb)) | refine wc_drawB (id := 6) 32 [0, 1, 3, 7, 7, 23, 63, 127, 255, 7, 7, 1543, 3591, 7687, 16383, 32767, 65535, 131071, 131071, 393215, 1048575, 2097151, 4194303, 8388607, 131071, 131071, 50462719, 117571583, 251789311, 520224767, 1073741823, 2147483647] [0, 1, 2, 3, 4, 5, 6, 7, 8, 9, 10, 11, 12, 13, 14, 15, 16, 17, 18, 19, 20, 21, 22, 23, 24, 25, 26, 27, 28, 29, 30, 31] (by kernel_rfl) (by kernel_rfl) rfl rfl ?_)
          refine lq_norm (k + 1, .slice (some ⟨_, 0, some 0⟩) (D.length + 1 + 1) (D.length + 1 + 1)) (by simp only; omega) (within_lk ⟨rfl, rfl, rfl, trivial⟩) ⟨⟨wf_A, gr_A⟩, by simp only; omega, .inr ⟨by simp only; omega, _, ?_, by simp only; rw [hs1], by simp only; rw [hs2]; exact at_A⟩⟩
          simp only [H.nx_push, H.nx_set, H.nx_bump, H.nx_kill]; omega
      · rw [if_neg (fun q => hxy q.1)] at e2
        have hs1 : (mgL (l.take (k + 1))).length = D.length + 1 + 1 := by rw [e2]; simp
        have hs2 : (mgL (l.take (k + 1))).flatMap En.cells = (D.flatMap En.cells ++ [Value.int .i64 f, Value.int .i64 z, .string y0]) ++ [Value.int .i64 f', Value.int .i64 t', .string x0] := by rw [e2, en_last, en_last]
        clear e2
        obtain ⟨L, hL⟩ : ∃ L, (D.flatMap En.cells ++ [Value.int .i64 f, Value.int .i64 z, Value.string y0]) = L := ⟨_, rfl⟩
        rw [hL] at hat hc1 hc2 hs2 hll
        clear hL
        repeat' (first | with_reducible refine wo_nil ?_ | ((with_reducible refine wo_any ?_); first | ((with_reducible refine ik_move ?_); refine wo_op rfl (op_move rfl) rfl rfl ?_) | ((with_reducible refine ik_assign ?_); refine wo_op rfl (op_assign rfl) rfl rfl ?_) | ((with_reducible refine ik_indexAddr ?_); refine wo_op rfl (op_indexAddr rfl rfl i1) rfl rfl ?_) | ((with_reducible refine ik_load ?_); refine wo_op rfl (op_ldLn rfl Tryz.underlying184 rfl zs184 (i3 _ gr_A).all) rfl rfl ?_) | ((with_reducible refine ik_bin ?_); first | refine wo_op rfl (op_lss rfl rfl) rfl rfl ?_ | refine wo_op rfl (op_add' rfl rfl (w64 (by omega) (by omega))) rfl rfl ?_) | ((with_reducible refine ik_callb ?_); first | refine wo_op rfl (op_append rfl rfl (append_own_eq (M := mz G) (st := 83) (xt := 83) (m := 1) Tryz.underlying83 Tryz.underlying83 rfl zs184 zb184 zz184 rfl (Sl.ofAt at_A rfl (Nat.le_refl _)) rfl (b := e) (c := L) at_A hll (by omega) (by omega))) rfl rfl ?_ | refine wo_op rfl (op_lenSl rfl Tryz.underlying83) rfl rfl ?_) | ((with_reducible refine ik_buildSlice ?_); refine wo_op rfl (op_buildSl rfl Tryz.underlying83 zs184 zz184 rfl rfl) rfl rfl ?_)) | ((with_reducible refine xk_any ?_); ((with_reducible refine xk_as0 ?_); first | ((with_reducible refine xk_move ?_); refine wx_q (wt_none rfl) rfl rfl (op_q rfl (op_move rfl)) rfl rfl rfl ?_) | ((with_reducible refine xk_bin ?_); refine wx_q (wt_none rfl) rfl rfl (op_q rfl (op_gtr rfl rfl)) rfl rfl rfl ?_) | ((with_reducible refine xk_pick ?_); first | refine wx_q (wt_none rfl) rfl rfl (op_q rfl (op_pickt rfl rfl)) rfl rfl rfl ?_ | refine wx_q (wt_none rfl) rfl rfl (op_q rfl (op_pickf rfl rfl)) rfl rfl rfl ?_) | ((with_reducible refine xk_g ?_); first | refine wx_s (wt_skip rfl rfl rfl rfl) rfl rfl ?_ | ((with_reducible refine xg_move ?_); refine wx_q (wt_run rfl rfl rfl) rfl rfl (op_q rfl (op_move rfl)) rfl rfl rfl ?_) | ((with_reducible refine xg_indexAddr ?_); first | refine wx_q (wt_run rfl rfl rfl) rfl rfl (op_q rfl (op_indexAddr rfl rfl i1)) rfl rfl rfl ?_ | refine wx_q (wt_run rfl rfl rfl) rfl rfl (op_q rfl (op_idxSl (o := D.length * 3) rfl rfl Tryz.underlying83 zs184 (by omega) (by omega) (by omega))) rfl rfl rfl ?_) | ((with_reducible refine xg_load ?_); first | refine wx_h0 (wt_run rfl rfl rfl) rfl (op_q rfl (op_ldCell rfl Tryz.underlying9 rfl (ic _ gr_A))) rfl rfl rfl ?_ | refine wx_h0 (wt_run rfl rfl rfl) rfl (op_q rfl (op_ldIdx (b := e) (o := D.length * 3 + 2) rfl at_A Tryz.underlying9 rfl hc2)) rfl rfl rfl ?_) | ((with_reducible refine xg_bin ?_); first | refine wx_q (wt_run rfl rfl rfl) rfl rfl (op_q rfl (op_seqN rfl rfl (fun q => hxy q.symm))) rfl rfl rfl ?_ | refine wx_q (wt_run rfl rfl rfl) rfl rfl (op_q rfl (op_sub' rfl rfl (w64 (by omega) (by omega)))) rfl rfl rfl ?_) | ((with_reducible refine xg_fieldAddr ?_); refine wx_q (wt_run rfl rfl rfl) rfl rfl (op_q rfl (op_fieldAddr (o := 2) rfl Tryz.underlying184 rfl zs9 rfl)) rfl rfl rfl ?_) | (refine wx_split rfl rfl rfl (fun hb => ?_) (fun hb => dead_A hb); (try simp only [decide_eq_true_eq, decide_eq_false_iff_not, Bool.not_eq_true', Bool.not_eq_false', Int.not_lt, Int.not_le, Decidable.not_not, not_true_eq_false, not_false_eq_true, beq_self_eq_true, reduceCtorEq] at hb))) | with_reducible refine wx_nil0 ?_ ?_)) | with_reducible exact obl_nil | with_reducible refine obl_cons ?_ ?_ | ((with_reducible refine ik_obs ?_); first | exact obs_nil | refine obs_chkn rfl rfl (op_q rfl (op_ldCell rfl Tryz.underlying9 rfl (ic _ gr_A))) ?_ | refine obs_chkn rfl rfl (op_q rfl (op_ldIdx (b := e) (o := D.length * 3 + 2) rfl at_A Tryz.underlying9 rfl hc2)) ?_) | with_reducible refine sq_norm ?_ | with_reducible refine wc_seq ?_ | with_reducible refine wc_region ?_ | with_reducible refine wc_skip ?_ | with_reducible refine wc_block ?_ | with_reducible refine bq_norm ?_ | refine wc_iff rfl ?_ | (refine wc_if rfl (fun hb => ?_) (fun hb => dead_A hb); (try simp only [decide_eq_true_eq, decide_eq_false_iff_not, Bool.not_eq_true', Bool.not_eq_false', Int.not_lt, Int.not_le, Decidable.not_not, not_true_eq_false, not_false_eq_true, beq_self_eq_true, reduceCtorEq] at hb)) | refine wc_drawB (id := 6) 32 [0, 1, 3, 7, 7, 23, 63, 127, 255, 7, 7, 1543, 3591, 7687, 16383, 32767, 65535, 131071, 131071, 393215, 1048575, 2097151, 4194303, 8388607, 131071, 131071, 50462719, 117571583, 251789311, 520224767, 1073741823, 2147483647] [0, 1, 2, 3, 4, 5, 6, 7, 8, 9, 10, 11, 12, 13, 14, 15, 16, 17, 18, 19, 20, 21, 22, 23, 24, 25, 26, 27, 28, 29, 30, 31] (by kernel_rfl) (by kernel_rfl) rfl rfl ?_)
        refine lq_norm (k + 1, .slice (some ⟨_, 0, some 0⟩) (D.length + 1 + 1) (D.length + 1 + 1)) (by simp only; omega) (within_lk ⟨rfl, rfl, rfl, trivial⟩) ⟨⟨wf_A, gr_A⟩, by simp only; omega, .inr ⟨by simp only; omega, _, ?_, by simp only; rw [hs1], by simp only; rw [hs2]; exact at_A⟩⟩
        simp only [H.nx_push, H.nx_set, H.nx_bump, H.nx_kill]; omega
  · have hkn : k = n := by omega
    subst hkn
    rw [List.take_of_length_le (by omega)] at hv
    repeat' (first | with_reducible refine wo_nil ?_ | ((with_reducible refine wo_any ?_); first | ((with_reducible refine ik_move ?_); refine wo_op rfl (op_move rfl) rfl rfl ?_) | ((with_reducible refine ik_assign ?_); refine wo_op rfl (op_assign rfl) rfl rfl ?_) | ((with_reducible refine ik_callb ?_); refine wo_op rfl (op_lenSl rfl Tryz.underlying83) rfl rfl ?_) | ((with_reducible refine ik_bin ?_); refine wo_op rfl (op_lss rfl rfl) rfl rfl ?_)) | with_reducible refine sq_norm ?_ | with_reducible refine wc_seq ?_ | with_reducible refine wc_region ?_ | with_reducible refine wc_ret ?_ | with_reducible refine wc_exit ?_ | with_reducible refine sq_exit ?_ | with_reducible refine lq_exit ?_ | refine bq_eq rfl ?_ | (refine wc_if rfl (fun hb => dead_A hb) (fun hb => ?_); (try simp only [decide_eq_true_eq, decide_eq_false_iff_not, Bool.not_eq_true', Bool.not_eq_false', Int.not_lt, Int.not_le, Decidable.not_not, not_true_eq_false, not_false_eq_true, beq_self_eq_true, reduceCtorEq] at hb)))
    refine rq1 rfl ⟨?_, gr_A⟩
    rcases hv with ⟨rfl, rfl⟩ | ⟨_, q⟩
    · have e : l = [] := by simpa using hl
      subst e
      exact .inl ⟨rfl, rfl, rfl⟩
    · exact .inr q
end Go.Proofs.YtlioomhcdlicmaaGreatDoor

/- Survey: an entry that extends another; one's own list sliced, shortened in place and cleared. -/
namespace Go.Proofs.YtlioomhcdlicmaaGreatDoor
open Go Go.Ab Go.Fl
attribute [local irreducible] SeqQ BlkQ LpQ RetQ Wc Wo WD WX Op1 Op1q Op1a Cf Cl From
attribute [local irreducible] Ieee.Format.order Ieee.Format.read Ieee.Format.nearest Ieee.Format.write Ieee.Format.mul Ieee.Format.div Ieee.Format.sqrt Ieee.Datum.order Ieee.Datum.integral K U rngE errN ptE firstNZ vesE watE sgE sgsE allE hitB sqD insB qsL lvl rn rl altB
set_option maxRecDepth 10000
variable {G : Base} {h : H}

theorem op_slcOwn {l : KL} {h : H} {x y z : Operand} {b n c lo hi : Nat} {A B : Int} {cs : List Value} {sf : Bool} (hx : val l x = some (.slice (some ⟨b, 0, some 0⟩) n c)) (hy : val l y = some (.int .i64 A)) (hz : val l z = some (.int .i64 B)) (hA : A = (lo : Int)) (hB : B = (hi : Int)) (h1 : lo ≤ hi) (h2 : hi ≤ c) (h3 : lo < c) (hat : At h b (.cells cs 133 3 sf)) :
    Op1 (mz G) (.slice 85 x (some y) (some z) none) l h (.slice (some ⟨b, lo * 3, some 0⟩) (hi - lo) (c - lo)) h := by
  subst hA hB
  refine op_slice (a := some (.int .i64 lo)) (b := some (.int .i64 hi)) (c := none) hx (by simp only [optV, hy]) (by simp only [optV, hz]) rfl ?_
  have hb0 : Nat.beq c lo = false := by rw [beq_dec]; simp; omega
  have hd : (decide ((0 : Int) ≤ (c : Int) ∧ (c : Int) ≤ c) && decide ((0 : Int) ≤ (hi : Int) ∧ (hi : Int) ≤ (c : Int)) && decide ((0 : Int) ≤ (lo : Int) ∧ (lo : Int) ≤ (hi : Int))) = true := by
    simp only [Bool.and_eq_true, decide_eq_true_eq]; omega
  have zz : tsz Tryz.prog 133 = some 3 := zs133
  show aslice Tryz.prog h 85 _ _ _ _ = _
  simp only [aslice, Tryz.underlying85, zz, optInt, asInt?, Option.isNone_none, Bool.true_or, hd, Int.toNat_natCast, hb0, hat.get, nbeq_self]
  simp [aadd]
theorem op_slcOwn3 {l : KL} {h : H} {x y z w : Operand} {b n c lo hi m : Nat} {A B C : Int} {cs : List Value} {sf : Bool} (hx : val l x = some (.slice (some ⟨b, 0, some 0⟩) n c)) (hy : val l y = some (.int .i64 A)) (hz : val l z = some (.int .i64 B)) (hw : val l w = some (.int .i64 C)) (hA : A = (lo : Int)) (hB : B = (hi : Int)) (hC : C = (m : Int)) (h1 : lo ≤ hi) (h2 : hi ≤ m) (h3 : lo < m) (h4 : m ≤ c) (hat : At h b (.cells cs 133 3 sf)) :
    Op1 (mz G) (.slice 85 x (some y) (some z) (some w)) l h (.slice (some ⟨b, lo * 3, some 0⟩) (hi - lo) (m - lo)) h := by
  subst hA hB hC
  refine op_slice (a := some (.int .i64 lo)) (b := some (.int .i64 hi)) (c := some (.int .i64 m)) hx (by simp only [optV, hy]) (by simp only [optV, hz]) (by simp only [optV, hw]) ?_
  have hb0 : Nat.beq m lo = false := by rw [beq_dec]; simp; omega
  have hd : (decide ((0 : Int) ≤ (m : Int) ∧ (m : Int) ≤ c) && decide ((0 : Int) ≤ (hi : Int) ∧ (hi : Int) ≤ (m : Int)) && decide ((0 : Int) ≤ (lo : Int) ∧ (lo : Int) ≤ (hi : Int))) = true := by
    simp only [Bool.and_eq_true, decide_eq_true_eq]; omega
  have zz : tsz Tryz.prog 133 = some 3 := zs133
  show aslice Tryz.prog h 85 _ _ _ _ = _
  simp only [aslice, Tryz.underlying85, zz, optInt, asInt?, Option.isSome_some, Bool.or_true, hd, Int.toNat_natCast, hb0, hat.get, nbeq_self]
  simp [aadd]
theorem op_slcOwnH {l : KL} {h : H} {x z : Operand} {b n c hi : Nat} {B : Int} {cs : List Value} {sf : Bool} (hx : val l x = some (.slice (some ⟨b, 0, some 0⟩) n c)) (hz : val l z = some (.int .i64 B)) (hB : B = (hi : Int)) (h2 : hi ≤ c) (h3 : 0 < c) (hat : At h b (.cells cs 133 3 sf)) :
    Op1 (mz G) (.slice 85 x none (some z) none) l h (.slice (some ⟨b, 0, some 0⟩) hi c) h := by
  subst hB
  refine op_slice (a := none) (b := some (.int .i64 hi)) (c := none) hx rfl (by simp only [optV, hz]) rfl ?_
  have hb0 : Nat.beq c 0 = false := by rw [beq_dec]; simp; omega
  have hd : (decide ((0 : Int) ≤ (c : Int) ∧ (c : Int) ≤ c) && decide ((0 : Int) ≤ (hi : Int) ∧ (hi : Int) ≤ (c : Int)) && decide ((0 : Int) ≤ (0 : Int) ∧ (0 : Int) ≤ (hi : Int))) = true := by
    simp only [Bool.and_eq_true, decide_eq_true_eq]; omega
  have zz : tsz Tryz.prog 133 = some 3 := zs133
  show aslice Tryz.prog h 85 _ _ _ _ = _
  simp only [aslice, Tryz.underlying85, zz, optInt, asInt?, Option.isNone_none, Bool.true_or, hd, Int.toNat_natCast, Int.toNat_zero, hb0, hat.get, nbeq_self]
  simp [aadd]
theorem op_slcLoG {M : Mc} {l : KL} {h : H} {x : Operand} {t e : TypeId} {n es : Nat} {a : Option Addr} {c : Nat} {L : List Value} {lo : Nat} {k : IntKind} {A : Int} {xa : Operand} (hx : val l x = some (.slice a n c)) (hxa : val l xa = some (.int k A)) (sl : Sl M.G h es (.slice a n c) n L) (hu : M.P.underlying t = some (.slice e)) (hn : tsz M.P e = some es) (h1 : lo ≤ n) (hA : A = (lo : Int)) :
    Op1 M (.slice t x (some xa) none none) l h (.slice (cutA es a c lo) (n - lo) (c - lo)) h :=
  op_slice (a := some (.int k A)) (b := none) hx (by simp only [optV, hxa]) rfl rfl (by
    have := sl.slice hu hn h1 (Nat.le_refl n) (k := k) (k' := .i64) hA rfl
    rw [← this]; unfold aslice; rw [hu]; rfl)
/-- What is appended fits into one's own block. -/
theorem app_in {h : H} {b c i m : Nat} {cs new : List Value} {sf : Bool} {w : Value} (hat : At h b (.cells cs 133 3 sf)) (hc : cs.length = c * 3) (sl : Sl G h 3 w m new) (hone : new.all one = true) (him : i + m ≤ c) (hm : m ≠ 0) (hn : c < 1000000) :
    aappend (mz G).P (mz G).G h 85 85 (.slice (some ⟨b, 0, some 0⟩) i c) w = some (.slice (some ⟨b, 0, some 0⟩) (i + m) c, h.set b (.cells (cs.take (i * 3) ++ (new ++ cs.drop (i * 3 + m * 3))) 133 3 sf)) := by
  have hlen := sl.length
  obtain ⟨wa, wc, rfl⟩ := sl.form
  have hf : afirst (mz G).G h 3 m (.slice wa m wc) = some new := sl.first
  have z1 : tsz (mz G).P 133 = some 3 := zs133
  obtain ⟨by', z2⟩ : ∃ k, tby (mz G).P 133 = some k := ⟨_, zb133⟩
  obtain ⟨z', z3⟩ : ∃ k, tzero (mz G).P 133 = some k := ⟨_, zz133⟩
  have zb : tby (mz G).P 133 = some _ := zb133
  have zz : tzero (mz G).P 133 = some _ := zz133
  have han : anews (mz G).P (mz G).G h 85 3 z'.cells.toList (.slice wa m wc) = some (m, new) := by
    unfold anews
    rw [show (mz G).P.underlying 85 = _ from Tryz.underlying85]
    simp only [alen, hf]
  cases zb.symm.trans z2
  cases zz.symm.trans z3
  unfold aappend
  have hb0 : Nat.ble (i + m) c = true := by rw [ble_dec]; simp; omega
  have hb1 : Nat.beq m 0 = false := by rw [beq_dec]; simp; omega
  have hb2 : ∀ k : Nat, k ≤ 64 → Nat.ble ((i + m) * k) 70368744177664 = true := fun k hk => by
    rw [ble_dec, decide_eq_true_eq]
    exact Nat.le_trans (Nat.mul_le_mul (show i + m ≤ 1000000 by omega) hk) (by decide)
  simp only [show (mz G).P.underlying 85 = _ from Tryz.underlying85, z1, zb, zz, han, hb0, hb1, hone, hlen, nbeq_self, hb2 _ (show 32 ≤ 64 by decide)]
  simp only [asto, aadd, hat.get, Nat.zero_add]
  have h1 : Nat.ble (i * 3 + m * 3) cs.length = true := by rw [ble_dec, hc, decide_eq_true_eq]; omega
  simp [hone, hlen, gd]
  simp only [h1]
  rfl
theorem clear1 {h : H} {b c i k : Nat} {cs : List Value} {sf : Bool} (hat : At h b (.cells cs 133 3 sf)) (hc : cs.length = c * 3) (hi : i < c) : aclear (mz G).P h 85 (.slice (some ⟨b, i * 3, some 0⟩) (0 + 1) k) = some (h.set b (.cells (cs.take (i * 3) ++ ([.int .i64 0, .int .i64 0, .string .empty] ++ cs.drop (i * 3 + 3))) 133 3 sf)) := by
  have zz : tzero Tryz.prog 133 = some _ := zz133
  show aclear Tryz.prog h 85 _ = _
  unfold aclear
  simp only [Tryz.underlying85, zz]
  show (match gd (Value.agg #[.int .i64 0, .int .i64 0, .string .empty]) with | true => asto h ⟨b, i * 3, some 0⟩ [.int .i64 0, .int .i64 0, .string .empty] | false => none) = _
  simp only [show gd (Value.agg #[.int .i64 0, .int .i64 0, .string .empty]) = true from rfl]
  unfold asto
  have h1 : Nat.ble (i * 3 + 3) cs.length = true := by rw [ble_dec, hc, decide_eq_true_eq]; omega
  have h2 : [Value.int .i64 0, .int .i64 0, .string .empty].all one = true := rfl
  have h3 : [Value.int .i64 0, .int .i64 0, .string .empty].length = 3 := rfl
  simp only [hat.get, h1, h2, h3, Bool.and_self]
/-- Two entries, one of which extends the other. -/
def extE (x y : En) : Bool := decide (x.c = y.c) && decide (x.f = y.t)
set_option maxHeartbeats 4000000 in
theorem c106 {x y : En} (hw : Wf h) : Cf (mz G) (.func (.func 106) #[] #[]) [.agg ⟨x.cells⟩, .agg ⟨y.cells⟩] h fun r h' => r = .bool (extE x y) ∧ Grow h h' := by
  obtain ⟨f, t, a⟩ := x
  obtain ⟨f', t', b⟩ := y
  unfold extE
  dsimp only [En.cells]
  by_cases hab : a = b
  · rw [decide_eq_true hab, Bool.true_and]
    refine cf_enter0 19 [.tmp 4] Tryz.func106 rfl rfl rfl rfl ?_
    repeat' (first | with_reducible refine wo_nil ?_ | ((with_reducible refine wo_any ?_); first | ((with_reducible refine ik_move ?_); refine wo_op rfl (op_move rfl) rfl rfl ?_) | ((with_reducible refine ik_assign ?_); refine wo_op rfl (op_assign rfl) rfl rfl ?_) | ((with_reducible refine ik_bin ?_); refine wo_op rfl (op_seqE rfl rfl hab) rfl rfl ?_) | ((with_reducible refine ik_box ?_); refine wo_op rfl (op_boxAgg rfl zs133 rfl) rfl rfl ?_) | ((with_reducible refine ik_fieldAddr ?_); refine wo_op rfl (op_fieldAddr (o := 2) rfl Tryz.underlying133 rfl zs9 rfl) rfl rfl ?_) | ((with_reducible refine ik_load ?_); refine wo_op rfl (op_ldAt rfl at_A Tryz.underlying9 rfl rfl) rfl rfl ?_) | ((with_reducible refine ik_pick ?_); refine wo_op rfl (op_pickt rfl rfl) rfl rfl ?_) | ((with_reducible refine ik_g ?_); first | ((with_reducible refine ig_bin ?_); refine wo_grun rfl rfl rfl (op_eql rfl rfl) rfl rfl ?_) | ((with_reducible refine ig_fieldAddr ?_); first | refine wo_grun rfl rfl rfl (op_fieldAddr (o := 0) rfl Tryz.underlying133 rfl zs79 rfl) rfl rfl ?_ | refine wo_grun rfl rfl rfl (op_fieldAddr (o := 0) rfl Tryz.underlying79 rfl zs3 rfl) rfl rfl ?_ | refine wo_grun rfl rfl rfl (op_fieldAddr (o := 1) rfl Tryz.underlying79 rfl zs3 rfl) rfl rfl ?_) | ((with_reducible refine ig_load ?_); refine wo_grun rfl rfl rfl (op_ldAt rfl at_A Tryz.underlying3 rfl rfl) rfl rfl ?_))) | with_reducible refine sq_norm ?_ | with_reducible refine wc_seq ?_ | with_reducible refine wc_region ?_ | with_reducible refine wc_ret ?_)
    all_goals exact rq1 rfl ⟨by first | (congr 1; simp; omega) | (congr 1; exact (decide_eq_true (by omega)).symm) | (congr 1; exact (decide_eq_false (by omega)).symm) | rfl, gr_A⟩
  · rw [decide_eq_false hab, Bool.false_and]
    refine cf_enter0 19 [.tmp 4] Tryz.func106 rfl rfl rfl rfl ?_
    repeat' (first | with_reducible refine wo_nil ?_ | ((with_reducible refine wo_any ?_); first | ((with_reducible refine ik_move ?_); refine wo_op rfl (op_move rfl) rfl rfl ?_) | ((with_reducible refine ik_assign ?_); refine wo_op rfl (op_assign rfl) rfl rfl ?_) | ((with_reducible refine ik_bin ?_); refine wo_op rfl (op_seqN rfl rfl hab) rfl rfl ?_) | ((with_reducible refine ik_box ?_); refine wo_op rfl (op_boxAgg rfl zs133 rfl) rfl rfl ?_) | ((with_reducible refine ik_fieldAddr ?_); refine wo_op rfl (op_fieldAddr (o := 2) rfl Tryz.underlying133 rfl zs9 rfl) rfl rfl ?_) | ((with_reducible refine ik_load ?_); refine wo_op rfl (op_ldAt rfl at_A Tryz.underlying9 rfl rfl) rfl rfl ?_) | ((with_reducible refine ik_pick ?_); refine wo_op rfl (op_pickf rfl rfl) rfl rfl ?_) | ((with_reducible refine ik_g ?_); refine wo_gskip rfl rfl rfl rfl rfl rfl ?_)) | with_reducible refine sq_norm ?_ | with_reducible refine wc_seq ?_ | with_reducible refine wc_region ?_ | with_reducible refine wc_ret ?_)
    exact rq1 rfl ⟨rfl, gr_A⟩
end Go.Proofs.YtlioomhcdlicmaaGreatDoor

/- Survey: one entry deleted from a list of one's own. -/
namespace Go.Proofs.YtlioomhcdlicmaaGreatDoor
open Go Go.Ab Go.Fl
attribute [local irreducible] SeqQ BlkQ LpQ RetQ Wc Wo WD WX Op1 Op1q Op1a Cf Cl From
attribute [local irreducible] Ieee.Format.order Ieee.Format.read Ieee.Format.nearest Ieee.Format.write Ieee.Format.mul Ieee.Format.div Ieee.Format.sqrt Ieee.Datum.order Ieee.Datum.integral K U rngE errN ptE firstNZ vesE watE sgE sgsE allE hitB sqD insB qsL lvl rn rl altB
set_option maxRecDepth 10000
variable {G : Base} {h : H}

theorem flat_dropL {α : Type} {f : α → List Value} {w : Nat} (hf : ∀ a, (f a).length = w) : ∀ (l : List α) (k : Nat), (l.flatMap f).drop (k * w) = (l.drop k).flatMap f
  | [], k => by simp
  | x :: l, 0 => by simp
  | x :: l, k + 1 => by
    rw [List.drop_succ_cons, List.flatMap_cons, ← flat_dropL hf l k, List.drop_append, List.drop_eq_nil_of_le (by rw [hf]; exact Nat.le_mul_of_pos_left _ (by omega)), hf, Nat.succ_mul, Nat.add_sub_cancel, List.nil_append]
theorem flat_takeL {α : Type} {f : α → List Value} {w : Nat} (hf : ∀ a, (f a).length = w) : ∀ (l : List α) (k : Nat), (l.flatMap f).take (k * w) = (l.take k).flatMap f
  | [], k => by simp
  | x :: l, 0 => by simp
  | x :: l, k + 1 => by
    rw [List.take_succ_cons, List.flatMap_cons, List.flatMap_cons, ← flat_takeL hf l k, List.take_append, List.take_of_length_le (by rw [hf]; exact Nat.le_mul_of_pos_left _ (by omega)), hf, Nat.succ_mul, Nat.add_sub_cancel]
theorem En.ones (l : List En) : (l.flatMap En.cells).all one = true := by
  induction l with
  | nil => rfl
  | cons x l ih => rw [List.flatMap_cons, List.all_append, ih]; rfl
theorem own_pre {h : H} {b c m : Nat} {L : List En} {sf : Bool} (hat : At h b (.cells (L.flatMap En.cells) 133 3 sf)) (hc : L.length = c) (hm : m ≤ c) (h0 : 0 < c) : Sl G h 3 (.slice (some ⟨b, 0, some 0⟩) m c) m ((L.take m).flatMap En.cells) := by
  have s : Sl G h 3 (.slice (some ⟨b, 0, some 0⟩) c c) c (L.flatMap En.cells) := Sl.ofAt hat (by rw [En.flat, hc]) (Nat.le_refl _)
  have q := s.part (Nat.zero_le m) hm
  have hb0 : Nat.beq c 0 = false := by rw [beq_dec]; simp; omega
  simp only [Nat.zero_mul, List.drop_zero, cutA, hb0, aadd, Nat.sub_zero, Nat.add_zero] at q
  rw [flat_takeL En.len] at q
  exact q
theorem own_post {h : H} {b c m j : Nat} {L : List En} {sf : Bool} (hat : At h b (.cells (L.flatMap En.cells) 133 3 sf)) (hc : L.length = c) (hm : m ≤ c) (h0 : 0 < c) (hj : j ≤ m) : Sl G h 3 (.slice (cutA 3 (some ⟨b, 0, some 0⟩) c j) (m - j) (c - j)) (m - j) (((L.take m).drop j).flatMap En.cells) := by
  have q := (own_pre (G := G) hat hc hm h0).part hj (Nat.le_refl m)
  rw [flat_dropL En.len, flat_takeL En.len, List.take_of_length_le (by rw [List.length_drop, List.length_take]; omega)] at q
  exact q
theorem app_in0 {h : H} {b c i : Nat} {w : Value} (sl : Sl G h 3 w 0 []) (hi : i ≤ c) (hn : c < 1000000) :
    aappend (mz G).P (mz G).G h 85 85 (.slice (some ⟨b, 0, some 0⟩) i c) w = some (.slice (some ⟨b, 0, some 0⟩) i c, h) := by
  obtain ⟨wa, wc, rfl⟩ := sl.form
  have hf : afirst (mz G).G h 3 0 (.slice wa 0 wc) = some [] := sl.first
  have z1 : tsz (mz G).P 133 = some 3 := zs133
  have zb : tby (mz G).P 133 = some _ := zb133
  have zz : tzero (mz G).P 133 = some _ := zz133
  have han : ∀ z : Value, anews (mz G).P (mz G).G h 85 3 z.cells.toList (.slice wa 0 wc) = some (0, []) := fun z => by
    unfold anews
    rw [show (mz G).P.underlying 85 = _ from Tryz.underlying85]
    simp only [alen, hf]
  unfold aappend
  have hb0 : Nat.ble (i + 0) c = true := by rw [ble_dec]; simp; omega
  have hb2 : Nat.ble ((i + 0) * 32) 70368744177664 = true := by
    rw [ble_dec, decide_eq_true_eq]; omega
  simp only [show (mz G).P.underlying 85 = _ from Tryz.underlying85, z1, zb, zz, han, hb0, hb2]
  rfl
theorem clearE {h : H} {b c i w k : Nat} {L : List En} {sf : Bool} (hat : At h b (.cells (L.flatMap En.cells) 133 3 sf)) (hc : L.length = c) (hi : i < c) (hw : w = 1) : aclear (mz G).P h 85 (.slice (some ⟨b, i * 3, some 0⟩) w k) = some (h.set b (.cells ((L.take i ++ ⟨0, 0, .empty⟩ :: L.drop (i + 1)).flatMap En.cells) 133 3 sf)) := by
  subst hw
  rw [show (1 : Nat) = 0 + 1 from rfl, clear1 hat (by rw [En.flat, hc]) hi, flat_takeL En.len, show i * 3 + 3 = (i + 1) * 3 by omega, flat_dropL En.len, List.flatMap_append, List.flatMap_cons]
theorem appE {h : H} {b c i m : Nat} {L N : List En} {sf : Bool} {w : Value} (hat : At h b (.cells (L.flatMap En.cells) 133 3 sf)) (hc : L.length = c) (sl : Sl G h 3 w m (N.flatMap En.cells)) (him : i + m ≤ c) (hm : m ≠ 0) (hn : c < 1000000) :
    aappend (mz G).P (mz G).G h 85 85 (.slice (some ⟨b, 0, some 0⟩) i c) w = some (.slice (some ⟨b, 0, some 0⟩) (i + m) c, h.set b (.cells ((L.take i ++ (N ++ L.drop (i + m))).flatMap En.cells) 133 3 sf)) := by
  rw [app_in hat (by rw [En.flat, hc]) sl (En.ones N) him hm hn, flat_takeL En.len, ← Nat.add_mul, flat_dropL En.len, List.flatMap_append, List.flatMap_append]
set_option maxHeartbeats 8000000 in
theorem c107 {b c m i : Nat} {L : List En} {sf : Bool} (hat : At h b (.cells (L.flatMap En.cells) 133 3 sf)) (hc : L.length = c) (hm : m ≤ c) (hi : i < m) (hn : c < 1000000) (hw : Wf h) :
    Cf (mz G) (.func (.func 107) #[] #[]) [.slice (some ⟨b, 0, some 0⟩) m c, .int .i64 (i : Nat), .int .i64 ((i : Int) + 1)] h fun r h' => r = .slice (some ⟨b, 0, some 0⟩) (m - 1) c ∧ Keep1 b h h' ∧ Wf h' ∧ ∃ L' : List En, L'.length = c ∧ At h' b (.cells (L'.flatMap En.cells) 133 3 sf) ∧ L'.take (m - 1) = L.take i ++ (L.take m).drop (i + 1) := by
  have lb := hat.lt
  have hfl : (L.flatMap En.cells).length = c * 3 := by rw [En.flat, hc]
  have sp := fun (h' : H) (g : Grow h h') => own_pre (G := G) (hat.grow g) hc hm (by omega)
  have sq := fun (h' : H) (g : Grow h h') => own_post (G := G) (j := i + 1) (hat.grow g) hc hm (by omega) (by omega)
  by_cases hl : i + 1 = m
  · subst hl
    have e1 : ((L.take (i + 1)).drop (i + 1)) = [] := List.drop_eq_nil_of_le (by simp; omega)
    have sq : ∀ (h' : H), Grow h h' → Sl G h' 3 (.slice (cutA 3 (some ⟨b, 0, some 0⟩) c (i + 1)) (i + 1 - (i + 1)) (c - (i + 1))) 0 [] := fun h' g => by
      have q := sq h' g
      rw [e1] at q
      have e2 : i + 1 - (i + 1) = 0 := by omega
      rw [e2] at q ⊢
      exact q
    simp only [e1, List.append_nil, Nat.add_sub_cancel]
    refine cf_enter0 33 [.tmp 6] Tryz.func107 rfl rfl rfl rfl ?_
    repeat' (first | with_reducible refine wo_nil ?_ | ((with_reducible refine wo_any ?_); first | ((with_reducible refine ik_move ?_); refine wo_op rfl (op_move rfl) rfl rfl ?_) | ((with_reducible refine ik_assign ?_); refine wo_op rfl (op_assign rfl) rfl rfl ?_) | ((with_reducible refine ik_slice ?_); first | refine wo_op rfl (op_slcOwn3 (lo := i) (hi := i + 1) (m := i + 1) rfl rfl rfl rfl rfl rfl rfl (by omega) (by omega) (by omega) (by omega) at_A) rfl rfl ?_ | refine wo_op rfl (op_slcOwn (lo := i) (hi := i + 1) rfl rfl rfl rfl rfl (by omega) (by omega) (by omega) at_A) rfl rfl ?_) | ((with_reducible refine ik_callb ?_); refine wo_op rfl (op_lenSl rfl Tryz.underlying85) rfl rfl ?_) | ((with_reducible refine ik_bin ?_); refine wo_op rfl (op_eql rfl rfl) rfl rfl ?_)) | ((with_reducible refine xk_any ?_); ((with_reducible refine xk_as0 ?_); first | ((with_reducible refine xk_move ?_); refine wx_q (wt_none rfl) rfl rfl (op_q rfl (op_move rfl)) rfl rfl rfl ?_) | ((with_reducible refine xk_assign ?_); refine wx_q (wt_none rfl) rfl rfl (op_q rfl (op_assign rfl)) rfl rfl rfl ?_) | ((with_reducible refine xk_slice ?_); first | refine wx_h0 (wt_none rfl) rfl (op_q rfl (op_slcOwnH (hi := i) rfl rfl rfl (by omega) (by omega) at_A)) rfl rfl rfl ?_ | refine wx_h0 (wt_none rfl) rfl (op_q rfl (op_slcLoG (lo := i + 1) rfl rfl (sp _ gr_A) Tryz.underlying85 zs133 (by omega) rfl)) rfl rfl rfl ?_) | ((with_reducible refine xk_callb ?_); refine wx_ee (wt_none rfl) rfl rfl (op_append rfl rfl (app_in0 (sq _ gr_A) (by omega) hn)) rfl rfl ?_) | with_reducible refine wx_nil0 ?_ ?_)) | with_reducible exact obl_nil | with_reducible refine obl_cons ?_ ?_ | ((with_reducible refine ik_obs ?_); first | exact obs_nil | refine obs_skip rfl ?_ | refine obs_chkn rfl rfl (op_q rfl (op_slcOwnH (hi := i) rfl rfl rfl (by omega) (by omega) at_A)) ?_ | refine obs_chkn rfl rfl (op_q rfl (op_slcLoG (lo := i + 1) rfl rfl (sp _ gr_A) Tryz.underlying85 zs133 (by omega) rfl)) ?_) | with_reducible refine sq_norm ?_ | with_reducible refine wc_seq ?_ | with_reducible refine wc_region ?_ | with_reducible refine wc_skip ?_ | with_reducible refine wc_ret ?_ | (refine wc_if rfl (fun hb => dead_A hb) (fun hb => ?_); (try simp only [decide_eq_true_eq, decide_eq_false_iff_not, Bool.not_eq_true', Bool.not_eq_false', Int.not_lt, Int.not_le, Decidable.not_not, not_true_eq_false, not_false_eq_true, beq_self_eq_true, reduceCtorEq] at hb)) | refine wc_drawB (id := 5) 8 [0, 0, 3, 0, 0, 24, 63, 127] [0, 1, 2, 3, 4, 5, 6, 7] (by kernel_rfl) (by kernel_rfl) rfl rfl ?_ | ((with_reducible refine wo_any ?_); (with_reducible refine ik_callb ?_); refine wo_op0 rfl (op_clear rfl (clearE (i := i) at_A hc (by omega) (by omega))) rfl ?_))
    refine rq1 rfl ⟨rfl, (Keep1.refl.grow gr_A).set lt_A _, wf_A, _, ?_, at_A, ?_⟩
    · simp only [List.length_append, List.length_cons, List.length_take, List.length_drop]; omega
    · rw [List.take_append_of_le_length (by rw [List.length_take]; omega), List.take_take, Nat.min_self]
  · obtain ⟨N, hN⟩ : ∃ N, (L.take m).drop (i + 1) = N := ⟨_, rfl⟩
    have hNl : N.length = m - (i + 1) := by rw [← hN, List.length_drop, List.length_take]; omega
    obtain ⟨k, hk⟩ : ∃ k, m - (i + 1) = k := ⟨_, rfl⟩
    rw [hN, hk] at sq
    rw [hk] at hNl
    rw [hN]
    clear hN
    have h1c : (L.take i ++ (N ++ L.drop (i + k))).length = c := by
      simp only [List.length_append, List.length_take, List.length_drop]; omega
    have hv : ∀ h' : H, Grow h h' → aappend (mz G).P (mz G).G h' 85 85 (.slice (some ⟨b, 0, some 0⟩) i c) (.slice (cutA 3 (some ⟨b, 0, some 0⟩) c (i + 1)) (m - (i + 1)) (c - (i + 1))) = some (.slice (some ⟨b, 0, some 0⟩) (i + k) c, h'.set b (.cells ((L.take i ++ (N ++ L.drop (i + k))).flatMap En.cells) 133 3 sf)) := fun h' g => by
      rw [hk]
      exact appE (hat.grow g) hc (sq h' g) (by omega) (by omega) hn
    refine cf_enter0 33 [.tmp 6] Tryz.func107 rfl rfl rfl rfl ?_
    repeat' (first | with_reducible refine wo_nil ?_ | ((with_reducible refine wo_any ?_); first | ((with_reducible refine ik_move ?_); refine wo_op rfl (op_move rfl) rfl rfl ?_) | ((with_reducible refine ik_assign ?_); refine wo_op rfl (op_assign rfl) rfl rfl ?_) | ((with_reducible refine ik_slice ?_); first | refine wo_op rfl (op_slcOwn3 (lo := i) (hi := i + 1) (m := m) rfl rfl rfl rfl rfl rfl rfl (by omega) (by omega) (by omega) (by omega) at_A) rfl rfl ?_ | refine wo_op rfl (op_slcOwn (lo := i + k) (hi := m) rfl rfl rfl rfl rfl (by omega) (by omega) (by omega) at_A) rfl rfl ?_) | ((with_reducible refine ik_callb ?_); refine wo_op rfl (op_lenSl rfl Tryz.underlying85) rfl rfl ?_) | ((with_reducible refine ik_bin ?_); refine wo_op rfl (op_eql rfl rfl) rfl rfl ?_)) | ((with_reducible refine xk_any ?_); ((with_reducible refine xk_as0 ?_); first | ((with_reducible refine xk_move ?_); refine wx_q (wt_none rfl) rfl rfl (op_q rfl (op_move rfl)) rfl rfl rfl ?_) | ((with_reducible refine xk_assign ?_); refine wx_q (wt_none rfl) rfl rfl (op_q rfl (op_assign rfl)) rfl rfl rfl ?_) | ((with_reducible refine xk_slice ?_); first | refine wx_h0 (wt_none rfl) rfl (op_q rfl (op_slcOwnH (hi := i) rfl rfl rfl (by omega) (by omega) at_A)) rfl rfl rfl ?_ | refine wx_h0 (wt_none rfl) rfl (op_q rfl (op_slcLoG (lo := i + 1) rfl rfl (sp _ gr_A) Tryz.underlying85 zs133 (by omega) rfl)) rfl rfl rfl ?_) | ((with_reducible refine xk_callb ?_); refine wx_ee (wt_none rfl) rfl rfl (op_append rfl rfl (hv _ gr_A)) rfl rfl ?_) | with_reducible refine wx_nil0 ?_ ?_)) | with_reducible exact obl_nil | with_reducible refine obl_cons ?_ ?_ | ((with_reducible refine ik_obs ?_); first | exact obs_nil | refine obs_skip rfl ?_ | refine obs_chkn rfl rfl (op_q rfl (op_slcOwnH (hi := i) rfl rfl rfl (by omega) (by omega) at_A)) ?_ | refine obs_chkn rfl rfl (op_q rfl (op_slcLoG (lo := i + 1) rfl rfl (sp _ gr_A) Tryz.underlying85 zs133 (by omega) rfl)) ?_) | with_reducible refine sq_norm ?_ | with_reducible refine wc_seq ?_ | with_reducible refine wc_region ?_ | with_reducible refine wc_skip ?_ | with_reducible refine wc_ret ?_ | (refine wc_if rfl (fun hb => dead_A hb) (fun hb => ?_); (try simp only [decide_eq_true_eq, decide_eq_false_iff_not, Bool.not_eq_true', Bool.not_eq_false', Int.not_lt, Int.not_le, Decidable.not_not, not_true_eq_false, not_false_eq_true, beq_self_eq_true, reduceCtorEq] at hb)) | refine wc_drawB (id := 5) 8 [0, 0, 3, 0, 0, 24, 63, 127] [0, 1, 2, 3, 4, 5, 6, 7] (by kernel_rfl) (by kernel_rfl) rfl rfl ?_ | ((with_reducible refine wo_any ?_); (with_reducible refine ik_callb ?_); refine wo_op0 rfl (op_clear rfl (clearE (i := i + k) at_A h1c (by omega) (by omega))) rfl ?_))
    refine rq1 rfl ⟨by congr 1; omega, ((Keep1.refl.grow gr_A).set lt_A _).set lt_A _, wf_A, _, ?_, at_A, ?_⟩
    · simp only [List.length_append, List.length_cons, List.length_take, List.length_drop]; omega
    · rw [show m - 1 = i + k by omega, List.take_append_of_le_length (by rw [List.length_take, h1c]; omega), List.take_take, Nat.min_self, ← List.append_assoc, List.take_append_of_le_length (by simp only [List.length_append, List.length_take]; omega), List.take_of_length_le (by simp only [List.length_append, List.length_take]; omega)]
end Go.Proofs.YtlioomhcdlicmaaGreatDoor

/- Survey: entries copied. -/
namespace Go.Proofs.YtlioomhcdlicmaaGreatDoor
open Go Go.Ab Go.Fl
attribute [local irreducible] SeqQ BlkQ LpQ RetQ Wc Wo WD WX Op1 Op1q Op1a Cf Cl From
attribute [local irreducible] Ieee.Format.order Ieee.Format.read Ieee.Format.nearest Ieee.Format.write Ieee.Format.mul Ieee.Format.div Ieee.Format.sqrt Ieee.Datum.order Ieee.Datum.integral K U rngE errN ptE firstNZ vesE watE sgE sgsE allE hitB sqD insB qsL lvl rn rl altB
set_option maxRecDepth 10000
variable {G : Base} {h : H}

set_option maxHeartbeats 4000000 in
theorem c105 {v : Value} {n : Nat} {l : List En} (s : Sl G h 3 v n (l.flatMap En.cells)) (hl : l.length = n) (hn : n < 1000000) (hw : Wf h) :
    Cf (mz G) (.func (.func 105) #[] #[]) [v] h fun r h' => ((r = .slice none 0 0 ∧ n = 0) ∨ ∃ b sf, r = .slice (some ⟨b, 0, some 0⟩) n n ∧ h.nx ≤ b ∧ At h' b (.cells (l.flatMap En.cells) 133 3 sf)) ∧ Grow h h' ∧ Wf h' := by
  obtain ⟨a, c, rfl⟩ := s.form
  cases a with
  | none =>
    have hn0 : n = 0 ∧ c = 0 := by generalize l.flatMap En.cells = L at s; cases s; exact ⟨rfl, rfl⟩
    obtain ⟨rfl, rfl⟩ := hn0
    have hnn : ∀ x y : Operand, prun (mz G).P (do eqGuard .eql 85 x y (.slice none 0 0) (.slice none 0 0); binOp .eql 85 (.slice none 0 0) (.slice none 0 0)) = some (.bool true) := fun x y => by
      first | rfl | (simp [eqGuard, binOp, Op.intArith, Op.intCmp, Op.intDiv, Op.intBits, Op.floatCmp, Op.floatArith, Op.stringOp, prun_pure', bind_pure_comp, Tryz.underlying85]; done) | skip
    refine cf_enter0 8 [.tmp 2] Tryz.func105 rfl rfl rfl rfl ?_
    repeat' (first | with_reducible refine wo_nil ?_ | ((with_reducible refine wo_any ?_); first | ((with_reducible refine ik_move ?_); refine wo_op rfl (op_move rfl) rfl rfl ?_) | ((with_reducible refine ik_assign ?_); refine wo_op rfl (op_assign rfl) rfl rfl ?_) | ((with_reducible refine ik_bin ?_); refine wo_op rfl (op_bin (a := .slice none 0 0) (b := .slice none 0 0) (w := .bool true) rfl rfl rfl rfl (hnn _ _) rfl) rfl rfl ?_)) | with_reducible refine sq_norm ?_ | with_reducible refine wc_seq ?_ | with_reducible refine wc_region ?_ | with_reducible refine wc_ret ?_ | with_reducible refine sq_ret ?_ | refine wc_ift rfl ?_)
    exact rq1 rfl ⟨.inl ⟨rfl, rfl⟩, gr_A, wf_A⟩
  | some a =>
    obtain ⟨r, h2, hap, s2, hg, hw2⟩ := append_copy2 (M := mz G) (st := 85) (xt := 85) (h := h.push (.cells [] 133 3 false)) Tryz.underlying85 Tryz.underlying85 rfl zs133 zb133 zz133 rfl (At.new _ _) (s.grow ((Grow.refl _).push _)) (En.ones l) (by omega)
    obtain ⟨b, sf, e, hb, hat⟩ := s2
    have hw3 := hw2 wf_A
    refine cf_enter0 8 [.tmp 2] Tryz.func105 rfl rfl rfl rfl ?_
    repeat' (first | with_reducible refine wo_nil ?_ | ((with_reducible refine wo_any ?_); first | ((with_reducible refine ik_move ?_); refine wo_op rfl (op_move rfl) rfl rfl ?_) | ((with_reducible refine ik_assign ?_); refine wo_op rfl (op_assign rfl) rfl rfl ?_) | ((with_reducible refine ik_bin ?_); refine wo_op rfl (op_aeq (r := false) rfl rfl rfl (by show aeq Tryz.prog 85 _ _ = _; simp only [aeq, Tryz.underlying85])) rfl rfl ?_) | ((with_reducible refine ik_callb ?_); refine wo_op rfl (op_append rfl rfl hap) rfl rfl ?_) | ((with_reducible refine ik_buildSlice ?_); refine wo_op rfl (op_buildSl rfl Tryz.underlying85 zs133 zz133 rfl rfl) rfl rfl ?_)) | with_reducible refine sq_norm ?_ | with_reducible refine wc_seq ?_ | with_reducible refine wc_region ?_ | with_reducible refine wc_skip ?_ | with_reducible refine wc_ret ?_ | refine wc_iff rfl ?_)
    exact rq1 rfl ⟨.inr ⟨b, sf, e, by omega, hat⟩, Grow.trans gr_A hg, hw3⟩
end Go.Proofs.YtlioomhcdlicmaaGreatDoor

/- Survey: entries merged from the right, a step. -/
namespace Go.Proofs.YtlioomhcdlicmaaGreatDoor
open Go Go.Ab Go.Fl
attribute [local irreducible] SeqQ BlkQ LpQ RetQ Wc Wo WD WX Op1 Op1q Op1a Cf Cl From
attribute [local irreducible] Ieee.Format.order Ieee.Format.read Ieee.Format.nearest Ieee.Format.write Ieee.Format.mul Ieee.Format.div Ieee.Format.sqrt Ieee.Datum.order Ieee.Datum.integral K U rngE errN ptE firstNZ vesE watE sgE sgsE allE hitB sqD insB qsL lvl rn rl altB
set_option maxRecDepth 10000
variable {G : Base} {h : H}

theorem rm_step {l : List En} {i : Nat} (h0 : 0 < i) (hi : i < l.length) : ∃ y r, rm (l.drop i) = y :: r ∧ rm (l.drop (i - 1)) = if y.c = (l.getD (i - 1) ⟨0, 0, .empty⟩).c ∧ y.f = (l.getD (i - 1) ⟨0, 0, .empty⟩).t then ⟨(l.getD (i - 1) ⟨0, 0, .empty⟩).f, y.t, (l.getD (i - 1) ⟨0, 0, .empty⟩).c⟩ :: r else l.getD (i - 1) ⟨0, 0, .empty⟩ :: y :: r := by
  obtain ⟨j, rfl⟩ : ∃ j, i = j + 1 := ⟨i - 1, by omega⟩
  have e1 : l.drop (j + 1) = l.getD (j + 1) ⟨0, 0, .empty⟩ :: l.drop (j + 1 + 1) := by
    rw [List.drop_eq_getElem_cons hi]; simp [List.getD, List.getElem?_eq_getElem hi]
  have hj : j < l.length := by omega
  have e2 : l.drop j = l.getD j ⟨0, 0, .empty⟩ :: l.drop (j + 1) := by
    rw [List.drop_eq_getElem_cons hj]; simp [List.getD, List.getElem?_eq_getElem hj]
  obtain ⟨z, r, q, _⟩ := rm_cons (l.getD (j + 1) ⟨0, 0, .empty⟩) (l.drop (j + 1 + 1))
  rw [← e1] at q
  refine ⟨_, r, q, ?_⟩
  rw [Nat.add_sub_cancel, e2, rm, q]
theorem rm_start {l : List En} (h0 : 0 < l.length) : l.take (l.length - 1) ++ rm (l.drop (l.length - 1)) = l := by
  have hj : l.length - 1 < l.length := by omega
  have e : l.drop (l.length - 1) = [l[l.length - 1]] := by
    rw [List.drop_eq_getElem_cons hj, List.drop_eq_nil_of_le (by omega)]
  have e2 : rm (l.drop (l.length - 1)) = l.drop (l.length - 1) := by rw [e]; rfl
  rw [e2, List.take_append_drop]
end Go.Proofs.YtlioomhcdlicmaaGreatDoor

/- Survey: entries merged by the program. -/
namespace Go.Proofs.YtlioomhcdlicmaaGreatDoor
open Go Go.Ab Go.Fl
attribute [local irreducible] SeqQ BlkQ LpQ RetQ Wc Wo WD WX Op1 Op1q Op1a Cf Cl From
attribute [local irreducible] Ieee.Format.order Ieee.Format.read Ieee.Format.nearest Ieee.Format.write Ieee.Format.mul Ieee.Format.div Ieee.Format.sqrt Ieee.Datum.order Ieee.Datum.integral K U rngE errN ptE firstNZ vesE watE sgE sgsE allE hitB sqD insB qsL lvl rn rl altB
set_option maxRecDepth 10000
variable {G : Base} {h : H}

attribute [local irreducible] spE numM cauW cnum cauN enE hrK ensE
theorem mg_split {l L : List En} {i m : Nat} (h0 : 0 < i) (hi : i < l.length) (hL : L.take m = l.take i ++ rm (l.drop i)) :
    ∃ y r, L = l.take (i - 1) ++ l.getD (i - 1) ⟨0, 0, .empty⟩ :: y :: (r ++ L.drop m) ∧ L.take m = l.take (i - 1) ++ l.getD (i - 1) ⟨0, 0, .empty⟩ :: y :: r ∧ rm (l.drop (i - 1)) = if y.c = (l.getD (i - 1) ⟨0, 0, .empty⟩).c ∧ y.f = (l.getD (i - 1) ⟨0, 0, .empty⟩).t then ⟨(l.getD (i - 1) ⟨0, 0, .empty⟩).f, y.t, (l.getD (i - 1) ⟨0, 0, .empty⟩).c⟩ :: r else l.getD (i - 1) ⟨0, 0, .empty⟩ :: y :: r := by
  obtain ⟨y, r, h1, h2⟩ := rm_step h0 hi
  have e1 : l.take i = l.take (i - 1) ++ [l.getD (i - 1) ⟨0, 0, .empty⟩] := by
    have := take_next (l := l) (k := i - 1) ⟨0, 0, .empty⟩ (by omega)
    rwa [Nat.sub_add_cancel h0] at this
  have e2 : L.take m = l.take (i - 1) ++ l.getD (i - 1) ⟨0, 0, .empty⟩ :: y :: r := by
    rw [hL, h1, e1, List.append_assoc]; rfl
  refine ⟨y, r, ?_, e2, h2⟩
  calc L = L.take m ++ L.drop m := (List.take_append_drop m L).symm
    _ = _ := by rw [e2, List.append_assoc]; rfl
theorem en_set2 {D T : List En} {f z t' : Int} {c : ByteArray} : ((D ++ ⟨f, z, c⟩ :: T).flatMap En.cells).set (D.length * 3 + 1) (.int .i64 t') = (D ++ ⟨f, t', c⟩ :: T).flatMap En.cells := by
  rw [List.flatMap_append, List.flatMap_append, List.flatMap_cons, List.flatMap_cons, List.set_append_right _ _ (by rw [En.flat]; omega), En.flat, Nat.add_sub_cancel_left]
  rfl
/-- What is returned of entries. -/
def mgdL (l : List En) : List En := if ensE l = 0 then rm l else []
set_option maxHeartbeats 16000000 in
theorem c39 {v : Value} {n : Nat} {l : List En} (s : Sl G h 3 v n (l.flatMap En.cells)) (hl : l.length = n) (hn : n < 1000000) (hw : Wf h) : Cf (mz G) (.func (.func 39) #[] #[]) [v] h fun r h' => (∃ a c, r = .tuple #[.slice a (mgdL l).length c, .int .i64 (ensE l)] ∧ Sl G h' 3 (.slice a (mgdL l).length c) (mgdL l).length ((mgdL l).flatMap En.cells)) ∧ Grow h h' := by
  have q49 := fun (h' : H) (g : Grow h h') (w' : Wf h') => c49 (s.grow g) hl hn w'
  by_cases he : ensE l = 0
  case neg =>
    have e1 : mgdL l = [] := by unfold mgdL; rw [if_neg he]
    rw [e1]
    generalize ensE l = E at he q49 ⊢
    obtain ⟨a, c, rfl⟩ := s.form
    refine cf_enter0 49 [.tmp 2, .tmp 3] Tryz.func39 rfl rfl rfl rfl ?_
    repeat' (first | with_reducible refine wo_nil ?_ | ((with_reducible refine wo_any ?_); first | ((with_reducible refine ik_move ?_); refine wo_op rfl (op_move rfl) rfl rfl ?_) | ((with_reducible refine ik_assign ?_); refine wo_op rfl (op_assign rfl) rfl rfl ?_) | ((with_reducible refine ik_bin ?_); refine wo_op rfl (op_neq rfl rfl) rfl rfl ?_) | ((with_reducible refine ik_callv ?_); (refine wo_call rfl rfl rfl rfl (q49 _ gr_A wf_A) rfl rfl ?_; rintro _ _ ⟨rfl, hq⟩; all_goals ((try (have hqn := hq.nx)); (try simp only [H.nx_push, H.nx_set, H.nx_bump] at hqn))))) | with_reducible refine sq_norm ?_ | with_reducible refine wc_seq ?_ | with_reducible refine wc_region ?_ | with_reducible refine wc_ret ?_ | with_reducible refine sq_ret ?_ | (refine wc_if rfl (fun hb => ?_) (fun hb => dead_A hb); (try simp only [decide_eq_true_eq, decide_eq_false_iff_not, Bool.not_eq_true', Bool.not_eq_false', Int.not_lt, Int.not_le, Decidable.not_not, not_true_eq_false, not_false_eq_true, beq_self_eq_true, reduceCtorEq] at hb)))
    exact rq2 rfl rfl ⟨⟨none, 0, rfl, .nil⟩, gr_A⟩
  have e1 : mgdL l = rm l := by unfold mgdL; rw [if_pos he]
  rw [e1, he]
  rw [he] at q49
  have q105 := fun (h' : H) (g : Grow h h') (w' : Wf h') => c105 (s.grow g) hl hn w'
  clear e1 he
  obtain ⟨a, c, rfl⟩ := s.form
  refine cf_enter0 49 [.tmp 2, .tmp 3] Tryz.func39 rfl rfl rfl rfl ?_
  refine wc_mid (ι := Unit) (fun _ => [(0, .slice a n c)]) (fun _ h' => Wf h' ∧ Grow h h') ?_ ?_
  · repeat' (first | with_reducible refine wo_nil ?_ | ((with_reducible refine wo_any ?_); ((with_reducible refine ik_assign ?_); refine wo_op rfl (op_assign rfl) rfl rfl ?_)) | with_reducible refine wc_region ?_)
    exact ⟨rfl, (), within_lk ⟨rfl, trivial⟩, wf_A, gr_A⟩
  rintro _ h1 ⟨w1, g1⟩
  refine wc_mid (ι := Unit) (fun _ => [(0, .slice a n c)]) (fun _ h' => Wf h' ∧ Grow h h') ?_ ?_
  · repeat' (first | with_reducible refine wo_nil ?_ | ((with_reducible refine wo_any ?_); first | ((with_reducible refine ik_move ?_); refine wo_op rfl (op_move rfl) rfl rfl ?_) | ((with_reducible refine ik_assign ?_); refine wo_op rfl (op_assign rfl) rfl rfl ?_) | ((with_reducible refine ik_bin ?_); refine wo_op rfl (op_neq rfl rfl) rfl rfl ?_) | ((with_reducible refine ik_callv ?_); (refine wo_call rfl rfl rfl rfl (q49 _ (g1.trans gr_A) wf_A) rfl rfl ?_; rintro _ _ ⟨rfl, hq⟩; all_goals ((try (have hqn := hq.nx)); (try simp only [H.nx_push, H.nx_set, H.nx_bump] at hqn))))) | with_reducible refine sq_norm ?_ | with_reducible refine wc_seq ?_ | with_reducible refine wc_region ?_ | with_reducible refine wc_skip ?_ | refine wc_iff rfl ?_)
    exact ⟨rfl, (), within_lk ⟨rfl, trivial⟩, wf_A, g1.trans gr_A⟩
  clear w1 g1 q49
  rintro _ h1 ⟨w1, g1⟩
  refine wc_mid (ι := Value) (fun w => [(5, w)]) (fun w h' => ((w = .slice none 0 0 ∧ n = 0) ∨ ∃ b sf, w = .slice (some ⟨b, 0, some 0⟩) n n ∧ h.nx ≤ b ∧ At h' b (.cells (l.flatMap En.cells) 133 3 sf)) ∧ Wf h' ∧ Grow h h') ?_ ?_
  · have n1 := g1.nx
    repeat' (first | with_reducible refine wo_nil ?_ | ((with_reducible refine wo_any ?_); first | ((with_reducible refine ik_move ?_); refine wo_op rfl (op_move rfl) rfl rfl ?_) | ((with_reducible refine ik_assign ?_); refine wo_op rfl (op_assign rfl) rfl rfl ?_) | ((with_reducible refine ik_callv ?_); (refine wo_call rfl rfl rfl rfl (q105 _ (g1.trans gr_A) wf_A) rfl rfl ?_; rintro _ _ ⟨hv, hq, hwf⟩; all_goals ((try (have hqn := hq.nx)); (try simp only [H.nx_push, H.nx_set, H.nx_bump] at hqn))))) | with_reducible refine wc_region ?_)
    refine ⟨rfl, _, within_lk ⟨rfl, trivial⟩, ?_, wf_A, g1.trans gr_A⟩
    rcases hv with q | ⟨b, sf, q1, q2, q3⟩
    · exact .inl q
    · exact .inr ⟨b, sf, q1, by omega, q3⟩
  clear w1 g1 q105
  rintro w h2 ⟨hv, w1, g1⟩
  have n1 := g1.nx
  by_cases h0 : n = 0
  · subst h0
    have e : l = [] := by simpa using hl
    subst e
    obtain ⟨x, y, rfl, sx⟩ : ∃ x y, w = .slice x 0 y ∧ Sl G h2 3 (.slice x 0 y) 0 [] := by
      rcases hv with ⟨rfl, _⟩ | ⟨b, sf, rfl, _, hat⟩
      · exact ⟨none, 0, rfl, .nil⟩
      · exact ⟨_, _, rfl, Sl.ofAt hat rfl (Nat.le_refl _)⟩
    repeat' (first | with_reducible refine wo_nil ?_ | ((with_reducible refine wo_any ?_); first | ((with_reducible refine ik_move ?_); refine wo_op rfl (op_move rfl) rfl rfl ?_) | ((with_reducible refine ik_assign ?_); refine wo_op rfl (op_assign rfl) rfl rfl ?_) | ((with_reducible refine ik_bin ?_); refine wo_op rfl (op_sub' rfl rfl (w64 (by omega) (by omega))) rfl rfl ?_) | ((with_reducible refine ik_callb ?_); refine wo_op rfl (op_lenSl rfl Tryz.underlying85) rfl rfl ?_)) | with_reducible refine sq_norm ?_ | with_reducible refine wc_seq ?_ | with_reducible refine wc_region ?_ | with_reducible refine wc_block ?_)
    refine wc_loop (fun _ : Unit => 0) (fun _ => [(5, .slice x 0 y), (6, .int .i64 (-1))]) (fun _ h' => h2 = h') () (within_lk ⟨rfl, rfl, trivial⟩) rfl ?_
    rintro _ h3 rfl
    repeat' (first | with_reducible refine wo_nil ?_ | ((with_reducible refine wo_any ?_); first | ((with_reducible refine ik_move ?_); refine wo_op rfl (op_move rfl) rfl rfl ?_) | ((with_reducible refine ik_assign ?_); refine wo_op rfl (op_assign rfl) rfl rfl ?_) | ((with_reducible refine ik_bin ?_); refine wo_op rfl (op_gtr rfl rfl) rfl rfl ?_)) | with_reducible refine sq_norm ?_ | with_reducible refine wc_seq ?_ | with_reducible refine wc_region ?_ | with_reducible refine wc_ret ?_ | with_reducible refine wc_exit ?_ | with_reducible refine sq_exit ?_ | with_reducible refine lq_exit ?_ | refine bq_eq rfl ?_ | refine wc_iff rfl ?_)
    exact rq2 rfl rfl ⟨⟨_, _, rfl, sx⟩, g1⟩
  obtain ⟨b, sf, rfl, hb0, hat⟩ : ∃ b sf, w = .slice (some ⟨b, 0, some 0⟩) n n ∧ h.nx ≤ b ∧ At h2 b (.cells (l.flatMap En.cells) 133 3 sf) := by
    rcases hv with ⟨_, q⟩ | q
    · exact absurd q h0
    · exact q
  clear hv
  repeat' (first | with_reducible refine wo_nil ?_ | ((with_reducible refine wo_any ?_); first | ((with_reducible refine ik_move ?_); refine wo_op rfl (op_move rfl) rfl rfl ?_) | ((with_reducible refine ik_assign ?_); refine wo_op rfl (op_assign rfl) rfl rfl ?_) | ((with_reducible refine ik_bin ?_); refine wo_op rfl (op_sub' rfl rfl (w64 (by omega) (by omega))) rfl rfl ?_) | ((with_reducible refine ik_callb ?_); refine wo_op rfl (op_lenSl rfl Tryz.underlying85) rfl rfl ?_)) | with_reducible refine sq_norm ?_ | with_reducible refine wc_seq ?_ | with_reducible refine wc_region ?_ | with_reducible refine wc_block ?_)
  refine wc_loop (fun p : Int × Nat => p.1.toNat) (fun p => [(5, .slice (some ⟨b, 0, some 0⟩) p.2 n), (6, .int .i64 p.1)]) (fun p h' => (Wf h' ∧ Grow h h') ∧ ∃ (i : Nat) (L : List En), p.1 = (i : Int) ∧ i < p.2 ∧ p.2 ≤ n ∧ L.length = n ∧ L.take p.2 = l.take i ++ rm (l.drop i) ∧ At h' b (.cells (L.flatMap En.cells) 133 3 sf)) ((n : Int) - 1, n) (within_lk ⟨rfl, rfl, trivial⟩) ⟨⟨w1, g1⟩, n - 1, l, by simp only; omega, by simp only; omega, Nat.le_refl _, hl, by simp only; rw [← hl, rm_start (by omega), List.take_length], hat⟩ ?_
  clear hat w1 g1 n1
  rintro ⟨x, m⟩ h3 ⟨⟨w1, g1⟩, i, L, hx, him, hm, hLl, hL, hat⟩
  simp only at hx him hm hL ⊢
  subst hx
  have n1 := g1.nx
  have l1 := hat.lt
  by_cases hi0 : 0 < i
  · obtain ⟨y0, r, e1, e2, e3⟩ := mg_split hi0 (by omega) hL
    have hDl : (l.take (i - 1)).length = i - 1 := by rw [List.length_take]; omega
    have sp := own_pre (G := G) hat hLl hm (by omega)
    have htl : (L.take m).length = m := by rw [List.length_take]; omega
    obtain ⟨D, hD⟩ : ∃ D, l.take (i - 1) = D := ⟨_, rfl⟩
    obtain ⟨x0, hx0⟩ : ∃ x, l.getD (i - 1) ⟨0, 0, .empty⟩ = x := ⟨_, rfl⟩
    obtain ⟨R, hR⟩ : ∃ R, r ++ L.drop m = R := ⟨_, rfl⟩
    have hRt : R.take r.length = r := by rw [← hR, List.take_left']; rfl
    rw [hD, hx0] at e2
    rw [hx0] at e3
    rw [hD, hx0, hR] at e1
    rw [hD] at hDl
    obtain ⟨id, i1, i3⟩ := rl_at En.len ⟨0, 0, .empty⟩ sp htl Tryz.underlying85 zs133 (i := (i : Int)) him rfl
    obtain ⟨jd, j1, j3⟩ := rl_at En.len ⟨0, 0, .empty⟩ sp htl Tryz.underlying85 zs133 (i := (i : Int) - 1) (q := i - 1) (by omega) (by omega)
    have ej : jd = ⟨b, D.length * 3, some 0⟩ := by
      have zz : tsz Tryz.prog 133 = some 3 := zs133
      have q : aindexAddr Tryz.prog 85 (.slice (some ⟨b, 0, some 0⟩) m n) (.int .i64 ((i : Int) - 1)) = some (.pointer (some ⟨b, D.length * 3, some 0⟩)) := by
        simp only [aindexAddr, asInt?, Tryz.underlying85, zz, decide_eq_true (And.intro (show (0 : Int) ≤ (i : Int) - 1 by omega) (show (i : Int) - 1 < ((m : Nat) : Int) by omega))]
        rw [show D.length * 3 = 0 + ((i : Int) - 1).toNat * 3 by omega]
        rfl
      rw [q] at j1
      cases j1
      rfl
    subst ej
    have e4 : (L.take m).getD i ⟨0, 0, .empty⟩ = y0 := by
      rw [e2, List.getD, List.getElem?_append_right (by omega), hDl, show i - (i - 1) = 1 by omega]; rfl
    have e5 : (L.take m).getD (i - 1) ⟨0, 0, .empty⟩ = x0 := by
      rw [e2, List.getD, List.getElem?_append_right (by omega), hDl, Nat.sub_self]; rfl
    rw [e4] at i3
    rw [e5] at j3
    have hrl : D.length + 2 + r.length = m := by have := congrArg List.length e2; rw [htl] at this; simp at this; omega
    obtain ⟨f, z, cz⟩ := x0
    obtain ⟨f', t', c'⟩ := y0
    dsimp only [En.cells] at i3 j3
    dsimp only at e3
    have q106 := fun (h' : H) (w' : Wf h') => c106 (G := G) (h := h') (x := ⟨f', t', c'⟩) (y := ⟨f, z, cz⟩) w'
    dsimp only [En.cells] at q106
    have it := fun (h' : H) (g' : Grow h3 h') => (show acell G h' (aadd (aadd id 0) 1) = some (.int .i64 t') from (i3 h' g').get 1 _ rfl)
    by_cases hxy : c' = cz ∧ f' = z
    · rw [if_pos hxy] at e3
      have hB : extE ⟨f', t', c'⟩ ⟨f, z, cz⟩ = true := by unfold extE; simp [hxy.1, hxy.2]
      rw [hB] at q106
      have hll : (L.flatMap En.cells).length = n * 3 := by rw [En.flat, hLl]
      have hst : (L.flatMap En.cells).set (D.length * 3 + 1) (.int .i64 t') = (D ++ ⟨f, t', cz⟩ :: ⟨f', t', c'⟩ :: R).flatMap En.cells := by rw [e1, en_set2]
      have hl2 : (D ++ ⟨f, t', cz⟩ :: ⟨f', t', c'⟩ :: R).length = n := by rw [← hLl, e1]; simp
      have q107 := fun (h' : H) (hat' : At h' b (.cells ((D ++ ⟨f, t', cz⟩ :: ⟨f', t', c'⟩ :: R).flatMap En.cells) 133 3 sf)) (w' : Wf h') => c107 (G := G) (i := i) hat' hl2 hm him hn w'
      have hfin : ∀ L' : List En, L'.take (m - 1) = (D ++ ⟨f, t', cz⟩ :: ⟨f', t', c'⟩ :: R).take i ++ ((D ++ ⟨f, t', cz⟩ :: ⟨f', t', c'⟩ :: R).take m).drop (i + 1) → L'.take (m - 1) = l.take (i - 1) ++ rm (l.drop (i - 1)) := fun L' q => by
        rw [q, hD, e3]
        have a1 : (D ++ (⟨f, t', cz⟩ : En) :: ⟨f', t', c'⟩ :: R).take i = D ++ [⟨f, t', cz⟩] := by
          rw [List.take_append, List.take_of_length_le (by omega), hDl, show i - (i - 1) = 1 by omega]; rfl
        have a2 : (D ++ (⟨f, t', cz⟩ : En) :: ⟨f', t', c'⟩ :: R).take m = D ++ (⟨f, t', cz⟩ : En) :: ⟨f', t', c'⟩ :: r := by
          rw [List.take_append, List.take_of_length_le (by omega), show m - D.length = r.length + 1 + 1 by omega, List.take_succ_cons, List.take_succ_cons, hRt]
        have a3 : (D ++ (⟨f, t', cz⟩ : En) :: ⟨f', t', c'⟩ :: r).drop (i + 1) = r := by
          rw [List.drop_append, List.drop_of_length_le (by omega), show i + 1 - D.length = 2 by omega]; rfl
        rw [a1, a2, a3, List.append_assoc]; rfl
      clear e1 e2 e3 e4 e5 hD hx0 hR hL hB hxy hRt
      generalize hLc : L.flatMap En.cells = LC at hat hll hst
      clear hLc sp htl
      repeat' (first | with_reducible refine wo_nil ?_ | ((with_reducible refine wo_any ?_); first | ((with_reducible refine ik_move ?_); refine wo_op rfl (op_move rfl) rfl rfl ?_) | ((with_reducible refine ik_assign ?_); refine wo_op rfl (op_assign rfl) rfl rfl ?_) | ((with_reducible refine ik_indexAddr ?_); first | refine wo_op rfl (op_indexAddr rfl rfl i1) rfl rfl ?_ | refine wo_op rfl (op_indexAddr rfl rfl j1) rfl rfl ?_) | ((with_reducible refine ik_load ?_); refine wo_op rfl (op_ldCell rfl Tryz.underlying3 rfl (it _ gr_A)) rfl rfl ?_) | ((with_reducible refine ik_store ?_); refine wo_op0 rfl (op_stIdx (b := b) (o := D.length * 3 + 1) rfl rfl at_A rfl zs3 (by rw [hll]; omega) rfl hst) rfl ?_) | ((with_reducible refine ik_bin ?_); first | refine wo_op rfl (op_sub' rfl rfl (w64 (by omega) (by omega))) rfl rfl ?_ | refine wo_op rfl (op_gtr rfl rfl) rfl rfl ?_ | refine wo_op rfl (op_add' rfl rfl (w64 (by omega) (by omega))) rfl rfl ?_) | ((with_reducible refine ik_fieldAddr ?_); first | refine wo_op rfl (op_fieldAddr (o := 0) rfl Tryz.underlying133 rfl zs79 rfl) rfl rfl ?_ | refine wo_op rfl (op_fieldAddr (o := 1) rfl Tryz.underlying79 rfl zs3 rfl) rfl rfl ?_) | ((with_reducible refine ik_callv ?_); (refine wo_call rfl rfl rfl rfl (q107 _ at_A wf_A) rfl rfl ?_; rintro _ _ ⟨rfl, hq, hwf, L', hL', hat', hfi⟩; all_goals ((try (have hqn := hq.nx)); (try simp only [H.nx_push, H.nx_set, H.nx_bump] at hqn))))) | ((with_reducible refine xk_any ?_); ((with_reducible refine xk_as0 ?_); first | ((with_reducible refine xk_move ?_); refine wx_q (wt_none rfl) rfl rfl (op_q rfl (op_move rfl)) rfl rfl rfl ?_) | ((with_reducible refine xk_indexAddr ?_); first | refine wx_q (wt_none rfl) rfl rfl (op_q rfl (op_indexAddr rfl rfl i1)) rfl rfl rfl ?_ | refine wx_q (wt_none rfl) rfl rfl (op_q rfl (op_indexAddr rfl rfl j1)) rfl rfl rfl ?_) | ((with_reducible refine xk_load ?_); first | refine wx_h0 (wt_none rfl) rfl (op_q rfl (op_ldLn rfl Tryz.underlying133 rfl zs133 (i3 _ gr_A).all)) rfl rfl rfl ?_ | refine wx_h0 (wt_none rfl) rfl (op_q rfl (op_ldLn rfl Tryz.underlying133 rfl zs133 (j3 _ gr_A).all)) rfl rfl rfl ?_) | ((with_reducible refine xk_bin ?_); refine wx_q (wt_none rfl) rfl rfl (op_q rfl (op_sub' rfl rfl (w64 (by omega) (by omega)))) rfl rfl rfl ?_) | ((with_reducible refine xk_callv ?_); (refine wx_call0 (wt_none rfl) rfl rfl rfl rfl (q106 _ wf_A) rfl rfl ?_; rintro _ _ ⟨rfl, hq⟩; all_goals ((try (have hqn := hq.nx)); (try simp only [H.nx_push, H.nx_set, H.nx_bump] at hqn)))) | with_reducible refine wx_nil0 ?_ ?_)) | with_reducible exact obl_nil | with_reducible refine obl_cons ?_ ?_ | ((with_reducible refine ik_obs ?_); first | exact obs_nil | refine obs_skip rfl ?_ | refine obs_chkn rfl rfl (op_q rfl (op_ldLn rfl Tryz.underlying133 rfl zs133 (i3 _ gr_A).all)) ?_ | refine obs_chkn rfl rfl (op_q rfl (op_ldLn rfl Tryz.underlying133 rfl zs133 (j3 _ gr_A).all)) ?_) | with_reducible refine sq_norm ?_ | with_reducible refine wc_seq ?_ | with_reducible refine wc_region ?_ | with_reducible refine wc_skip ?_ | with_reducible refine wc_block ?_ | with_reducible refine bq_norm ?_ | refine wc_ift rfl ?_ | (refine wc_if rfl (fun hb => ?_) (fun hb => dead_A hb); (try simp only [decide_eq_true_eq, decide_eq_false_iff_not, Bool.not_eq_true', Bool.not_eq_false', Int.not_lt, Int.not_le, Decidable.not_not, not_true_eq_false, not_false_eq_true, beq_self_eq_true, reduceCtorEq] at hb)) | refine wc_drawB (id := 8) 10 [0, 0, 3, 7, 0, 0, 32, 112, 240, 511] [0, 1, 2, 3, 4, 5, 6, 7, 8, 9] (by kernel_rfl) (by kernel_rfl) rfl rfl ?_)
      refine lq_norm ((i : Int) - 1, m - 1) (by simp only; omega) (within_lk ⟨rfl, rfl, trivial⟩) ⟨⟨hwf, hq.base gr_A hb0⟩, i - 1, L', by simp only; omega, by simp only; omega, by simp only; omega, hL', hfin L' hfi, hat'⟩
    · rw [if_neg hxy] at e3
      have hB : extE ⟨f', t', c'⟩ ⟨f, z, cz⟩ = false := by unfold extE; rw [← Bool.not_eq_true]; simpa using hxy
      rw [hB] at q106
      have hfin : L.take m = l.take (i - 1) ++ rm (l.drop (i - 1)) := by rw [e2, hD, e3]
      clear e1 e2 e3 e4 e5 hD hx0 hR hL hB hxy hRt
      repeat' (first | with_reducible refine wo_nil ?_ | ((with_reducible refine wo_any ?_); first | ((with_reducible refine ik_move ?_); refine wo_op rfl (op_move rfl) rfl rfl ?_) | ((with_reducible refine ik_assign ?_); refine wo_op rfl (op_assign rfl) rfl rfl ?_) | ((with_reducible refine ik_bin ?_); first | refine wo_op rfl (op_sub' rfl rfl (w64 (by omega) (by omega))) rfl rfl ?_ | refine wo_op rfl (op_gtr rfl rfl) rfl rfl ?_)) | ((with_reducible refine xk_any ?_); ((with_reducible refine xk_as0 ?_); first | ((with_reducible refine xk_move ?_); refine wx_q (wt_none rfl) rfl rfl (op_q rfl (op_move rfl)) rfl rfl rfl ?_) | ((with_reducible refine xk_indexAddr ?_); first | refine wx_q (wt_none rfl) rfl rfl (op_q rfl (op_indexAddr rfl rfl i1)) rfl rfl rfl ?_ | refine wx_q (wt_none rfl) rfl rfl (op_q rfl (op_indexAddr rfl rfl j1)) rfl rfl rfl ?_) | ((with_reducible refine xk_load ?_); first | refine wx_h0 (wt_none rfl) rfl (op_q rfl (op_ldLn rfl Tryz.underlying133 rfl zs133 (i3 _ gr_A).all)) rfl rfl rfl ?_ | refine wx_h0 (wt_none rfl) rfl (op_q rfl (op_ldLn rfl Tryz.underlying133 rfl zs133 (j3 _ gr_A).all)) rfl rfl rfl ?_) | ((with_reducible refine xk_bin ?_); refine wx_q (wt_none rfl) rfl rfl (op_q rfl (op_sub' rfl rfl (w64 (by omega) (by omega)))) rfl rfl rfl ?_) | ((with_reducible refine xk_callv ?_); (refine wx_call0 (wt_none rfl) rfl rfl rfl rfl (q106 _ wf_A) rfl rfl ?_; rintro _ _ ⟨rfl, hq⟩; all_goals ((try (have hqn := hq.nx)); (try simp only [H.nx_push, H.nx_set, H.nx_bump] at hqn)))) | with_reducible refine wx_nil0 ?_ ?_)) | with_reducible exact obl_nil | with_reducible refine obl_cons ?_ ?_ | ((with_reducible refine ik_obs ?_); first | exact obs_nil | refine obs_skip rfl ?_ | refine obs_chkn rfl rfl (op_q rfl (op_ldLn rfl Tryz.underlying133 rfl zs133 (i3 _ gr_A).all)) ?_ | refine obs_chkn rfl rfl (op_q rfl (op_ldLn rfl Tryz.underlying133 rfl zs133 (j3 _ gr_A).all)) ?_) | with_reducible refine sq_norm ?_ | with_reducible refine wc_seq ?_ | with_reducible refine wc_region ?_ | with_reducible refine wc_skip ?_ | with_reducible refine wc_block ?_ | with_reducible refine bq_norm ?_ | refine wc_iff rfl ?_ | (refine wc_if rfl (fun hb => ?_) (fun hb => dead_A hb); (try simp only [decide_eq_true_eq, decide_eq_false_iff_not, Bool.not_eq_true', Bool.not_eq_false', Int.not_lt, Int.not_le, Decidable.not_not, not_true_eq_false, not_false_eq_true, beq_self_eq_true, reduceCtorEq] at hb)) | refine wc_drawB (id := 8) 10 [0, 0, 3, 7, 0, 0, 32, 112, 240, 511] [0, 1, 2, 3, 4, 5, 6, 7, 8, 9] (by kernel_rfl) (by kernel_rfl) rfl rfl ?_)
      exact lq_norm ((i : Int) - 1, m) (by simp only; omega) (within_lk ⟨rfl, rfl, trivial⟩) ⟨⟨wf_A, gr_A⟩, i - 1, L, by simp only; omega, by simp only; omega, by simp only; omega, hLl, hfin, at_A⟩
  · have hi : i = 0 := by omega
    subst hi
    simp only [List.take_zero, List.nil_append, List.drop_zero] at hL
    have sp := own_pre (G := G) hat hLl hm (by omega)
    rw [hL] at sp
    have hml : m = (rm l).length := by rw [← hL, List.length_take]; omega
    subst hml
    repeat' (first | with_reducible refine wo_nil ?_ | ((with_reducible refine wo_any ?_); first | ((with_reducible refine ik_move ?_); refine wo_op rfl (op_move rfl) rfl rfl ?_) | ((with_reducible refine ik_assign ?_); refine wo_op rfl (op_assign rfl) rfl rfl ?_) | ((with_reducible refine ik_bin ?_); refine wo_op rfl (op_gtr rfl rfl) rfl rfl ?_)) | with_reducible refine sq_norm ?_ | with_reducible refine wc_seq ?_ | with_reducible refine wc_region ?_ | with_reducible refine wc_ret ?_ | with_reducible refine wc_exit ?_ | with_reducible refine sq_exit ?_ | with_reducible refine lq_exit ?_ | refine bq_eq rfl ?_ | refine wc_iff rfl ?_)
    exact rq2 rfl rfl ⟨⟨_, _, rfl, sp⟩, g1⟩
end Go.Proofs.YtlioomhcdlicmaaGreatDoor
