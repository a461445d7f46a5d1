/- Survey: silent spans by the program and by the reference; spans compared. -/
import Derived.Test.YtlioomhcdlicmaaGreatDoorC6
set_option linter.all false
/- Survey: the silent spans by the program. -/
namespace Go.Proofs.YtlioomhcdlicmaaGreatDoor
open Go Go.Ab Go.Fl
attribute [local irreducible] SeqQ BlkQ LpQ RetQ Wc Wo WD WX Op1 Op1q Op1a Cf Cl From
attribute [local irreducible] Ieee.Format.order Ieee.Format.read Ieee.Format.nearest Ieee.Format.write Ieee.Format.mul Ieee.Format.div Ieee.Format.sqrt Ieee.Datum.order Ieee.Datum.integral K U rngE errN ptE firstNZ vesE watE sgE sgsE allE hitB sqD insB qsL lvl rn rl
set_option maxRecDepth 10000
variable {G : Base} {h : H}

/-- Whether a tick is silent. -/
def silB (cl so : Int) (I : Nat → Bool) (i : Nat) : Bool := decide (lvl cl so (qt I (i + 1) : Int) = 0)
def silN (x y u v t r sp lo cl so : Int) (l : List Sg) : List Spn := if allE x y u v t r sp lo cl so l = 0 then fl (silB cl so (insB x y u v r sp lo l)) t.toNat else []
theorem qs_si {cl so : Int} {I : Nat → Bool} {T : Nat} : (qsL I T).map (fun q => decide (lvl cl so q = 0)) = inL (silB cl so I) T := by
  unfold qsL inL
  rw [List.map_map]
  rfl
theorem fl_keep {b : Nat → Bool} {T : Nat} : keepR (fun s : Spn => !b s.f.toNat) (rl b T) = fl b T := by
  unfold fl keepR; simp
theorem rl_pos {b : Nat → Bool} {T : Nat} (h : 0 < T) : 0 < (rl b T).length := by
  unfold rl; rw [if_neg (by omega)]; simp
set_option maxHeartbeats 4000000 in
theorem c20 {x y u v t r sp lo cl so : Int} {w : Value} {n : Nat} {l : List Sg} (s : Sl G h 3 w n (l.flatMap Sg.cells)) (hl : l.length = n) (hn : n < 1000000) (hw : Wf h) : Cf (mz G) (.func (.func 20) #[] #[]) [.agg ⟨[.int .i64 x, .int .i64 y, .int .i64 u, .int .i64 v, .int .i64 t]⟩, .agg ⟨[.int .i64 r, .int .i64 sp, .int .i64 lo, .int .i64 cl, .int .i64 so]⟩, w] h fun r' h' => (∃ X, r' = .tuple #[X, .int .i64 (allE x y u v t r sp lo cl so l)] ∧ Sl G h' 2 X (silN x y u v t r sp lo cl so l).length ((silN x y u v t r sp lo cl so l).flatMap Spn.cells)) ∧ Grow h h' := by
  have q81 := fun (h' : H) (g : Grow h h') (w' : Wf h') => c81 (x := x) (y := y) (u := u) (v := v) (t := t) (r := r) (sp := sp) (lo := lo) (cl := cl) (so := so) (s.grow g) hl hn w'
  by_cases he : allE x y u v t r sp lo cl so l = 0
  · rw [he] at q81 ⊢
    have hN : silN x y u v t r sp lo cl so l = fl (silB cl so (insB x y u v r sp lo l)) t.toNat := by unfold silN; rw [if_pos he]
    obtain ⟨⟨b1, b2⟩, ⟨b3, b4⟩, ⟨bt, bT⟩, hr, hs, hlo, hcl, hso, hlen, hall⟩ := all_ok he
    obtain ⟨T, rfl⟩ : ∃ T : Nat, t = T := ⟨t.toNat, by omega⟩
    rw [Int.toNat_natCast] at hN
    rw [hN]
    have hT : T ≤ 4096 := by omega
    have q83 := fun (h' : H) (g : Grow h h') (w' : Wf h') => c83 (cl := cl) (so := so) (T := T) (s.grow g) hl hn w' b1 b2 b3 b4 hT hr hs hlo hall
    have q82 := fun (h' : H) (b : Nat) (hat : At h' b (.cells ((qsL (insB x y u v r sp lo l) T).flatMap (stC r sp lo cl so)) 157 6 false)) (w' : Wf h') => (c82 (f := 87) (fun q => decide (lvl cl so q = 0)) (Sl.ofAt (G := G) hat (by rw [flat_len (stC_len r sp lo cl so), qsL_len]) (Nat.le_refl T)) qsL_len (by omega) w' (fun h2 q w2 m => c87 (by have := qs_mem m; omega) hcl hso w2)).mono (Q' := fun r2 h2 => (∃ e, r2 = .slice (some ⟨e, 0, some 0⟩) T T ∧ e < h2.nx ∧ At h2 e (.cells ((inL (silB cl so (insB x y u v r sp lo l)) T).map Value.bool) 4 1 false)) ∧ Grow h' h2) (fun r2 h2 ⟨e1, e2, e3⟩ => ⟨⟨_, e1, e2.lt, by rw [← qs_si]; exact e2⟩, e3⟩)
    obtain ⟨B, hB⟩ : ∃ B, (silB cl so (insB x y u v r sp lo l)) = B := ⟨_, rfl⟩
    rw [hB] at q82 ⊢
    have q89 := fun (h' : H) (e : Nat) (hat : At h' e (.cells ((inL B T).map Value.bool) 4 1 false)) (w' : Wf h') => (c89 (G := G) (Sl.ofAt hat (by simp [inL_len]) (Nat.le_refl T)) (by omega) w').mono (Q' := fun r h2 => (∃ b, r = .slice (some ⟨b, 0, some 0⟩) (rl B T).length (rl B T).length ∧ h'.nx ≤ b ∧ b < h2.nx ∧ At h2 b (.cells ((rl B T).flatMap Spn.cells) 79 2 true)) ∧ Grow h' h2) (fun r h2 ⟨e1, e2⟩ => by
      have hp := rl_pos (b := B) (T := T) (by omega)
      rcases e1 with ⟨_, e3, _⟩ | ⟨b, e3, e4, e5⟩
      · omega
      · exact ⟨⟨b, e4, e3, e5.lt, e5⟩, e2⟩)
    have q88 := fun (h' : H) (A e b : Nat) (hat : At h' b (.cells ((rl B T).flatMap Spn.cells) 79 2 true)) (hA : At h' A (.cells [.slice (some ⟨e, 0, some 0⟩) T T] 42 1 false)) (hE : At h' e (.cells ((inL B T).map Value.bool) 4 1 false)) (hAb : A < b) (heb : e < b) (hb : h.nx ≤ b) (g : Grow h h') (w' : Wf h') => (c88 (G := G) (A := A) (e := e) (B := B) (T := T) (fun s => !B s.f.toNat) (fun _ => rfl) hat rfl (by have := rl_len (b := B) T; omega) (by omega) w' ⟨hA, hE⟩ (by omega) (by omega) (fun s m => by have := rl_mem m; omega)).mono (Q' := fun r h2 => (∃ a c, r = .slice a (fl B T).length c ∧ Sl G h2 2 (.slice a (fl B T).length c) (fl B T).length ((fl B T).flatMap Spn.cells)) ∧ Grow h h2) (fun r h2 ⟨e1, e2, e3⟩ => ⟨by rw [fl_keep] at e1; exact e1, e2.base g hb⟩)
    clear hN he hall hB
    obtain ⟨a, c, rfl⟩ := s.form
    refine cf_enter0 26 [.tmp 6, .tmp 7] Tryz.func20 rfl rfl rfl rfl ?_
    repeat' (first | with_reducible refine wo_nil ?_ | ((with_reducible refine wo_any ?_); first | ((with_reducible refine ik_move ?_); refine wo_op rfl (op_move rfl) rfl rfl ?_) | ((with_reducible refine ik_assign ?_); refine wo_op rfl (op_assign rfl) rfl rfl ?_) | ((with_reducible refine ik_makeFunc ?_); refine wo_op rfl (op_makeFunc (fun _ q => by cases q) rfl rfl) rfl rfl ?_) | ((with_reducible refine ik_box ?_); refine wo_op rfl (op_boxAgg rfl zs45 rfl) rfl rfl ?_) | ((with_reducible refine ik_load ?_); first | refine wo_op rfl (op_ldAgg rfl at_A Tryz.underlying45 rfl zs45 rfl rfl) rfl rfl ?_ | refine wo_op rfl (op_ldAgg rfl at_A Tryz.underlying46 rfl zs46 rfl rfl) rfl rfl ?_ | refine wo_op rfl (op_ldAt rfl at_A Tryz.underlying42 rfl rfl) rfl rfl ?_) | ((with_reducible refine ik_bin ?_); refine wo_op rfl (op_neq rfl rfl) rfl rfl ?_) | ((with_reducible refine ik_alloc ?_); refine wo_op rfl (op_alloc zz42 zs42 rfl rfl rfl) rfl rfl ?_) | ((with_reducible refine ik_store ?_); refine wo_op0 rfl (op_st1 rfl rfl at_A rfl zs42 rfl rfl rfl) rfl ?_) | ((with_reducible refine ik_callv ?_); first | (refine wo_call rfl rfl rfl rfl (q81 _ gr_A wf_A) rfl rfl ?_; rintro _ _ ⟨rfl, hq⟩; all_goals ((try (have hqn := hq.nx)); (try simp only [H.nx_push, H.nx_set, H.nx_bump] at hqn))) | (refine wo_call rfl rfl rfl rfl (q83 _ gr_A wf_A) rfl rfl ?_; rintro _ _ ⟨⟨bb, rfl, atb⟩, hq⟩; all_goals ((try (have hqn := hq.nx)); (try simp only [H.nx_push, H.nx_set, H.nx_bump] at hqn))) | (refine wo_call rfl rfl rfl rfl (q82 _ _ at_A wf_A) rfl rfl ?_; rintro _ _ ⟨⟨be, rfl, lte, ate⟩, hq⟩; all_goals ((try (have hqn := hq.nx)); (try simp only [H.nx_push, H.nx_set, H.nx_bump] at hqn))) | (refine wo_call rfl rfl rfl rfl (q89 _ _ at_A wf_A) rfl rfl ?_; rintro _ _ ⟨⟨br, rfl, ger, ltr, atr⟩, hq⟩; all_goals ((try (have hqn := hq.nx)); (try simp only [H.nx_push, H.nx_set, H.nx_bump] at hqn))) | (refine wo_call rfl rfl rfl rfl (q88 _ _ be br at_A at_A at_A (by have := ger; simp only [H.nx_push, H.nx_set] at this; omega) (by have := ger; simp only [H.nx_push, H.nx_set] at this; omega) (by have := ger; simp only [H.nx_push, H.nx_set] at this; omega) gr_A wf_A) rfl rfl ?_; rintro _ _ ⟨⟨a9, c9, rfl, sl9⟩, hq⟩; all_goals ((try (have hqn := hq.nx)); (try simp only [H.nx_push, H.nx_set, H.nx_bump] at hqn))))) | with_reducible refine sq_norm ?_ | with_reducible refine wc_seq ?_ | with_reducible refine wc_region ?_ | with_reducible refine wc_skip ?_ | with_reducible refine wc_ret ?_ | refine wc_iff rfl ?_)
    exact rq2 rfl rfl ⟨⟨_, rfl, sl9.grow gr_A⟩, gr_A⟩
  · have hN : silN x y u v t r sp lo cl so l = [] := by unfold silN; rw [if_neg he]
    rw [hN]
    generalize allE x y u v t r sp lo cl so l = E at q81 he ⊢
    obtain ⟨a, c, rfl⟩ := s.form
    refine cf_enter0 26 [.tmp 6, .tmp 7] Tryz.func20 rfl rfl rfl rfl ?_
    repeat' (first | with_reducible refine wo_nil ?_ | ((with_reducible refine wo_any ?_); first | ((with_reducible refine ik_move ?_); refine wo_op rfl (op_move rfl) rfl rfl ?_) | ((with_reducible refine ik_assign ?_); refine wo_op rfl (op_assign rfl) rfl rfl ?_) | ((with_reducible refine ik_box ?_); refine wo_op rfl (op_boxAgg rfl zs45 rfl) rfl rfl ?_) | ((with_reducible refine ik_load ?_); first | refine wo_op rfl (op_ldAgg rfl at_A Tryz.underlying45 rfl zs45 rfl rfl) rfl rfl ?_ | refine wo_op rfl (op_ldAgg rfl at_A Tryz.underlying46 rfl zs46 rfl rfl) rfl rfl ?_) | ((with_reducible refine ik_bin ?_); refine wo_op rfl (op_neq rfl rfl) rfl rfl ?_) | ((with_reducible refine ik_callv ?_); (refine wo_call rfl rfl rfl rfl (q81 _ gr_A wf_A) rfl rfl ?_; rintro _ _ ⟨rfl, hq⟩; all_goals ((try (have hqn := hq.nx)); (try simp only [H.nx_push, H.nx_set, H.nx_bump] at hqn))))) | with_reducible refine sq_norm ?_ | with_reducible refine wc_seq ?_ | with_reducible refine wc_region ?_ | with_reducible refine wc_ret ?_ | with_reducible refine sq_ret ?_ | (refine wc_if rfl (fun hb => ?_) (fun hb => dead_A hb); (try simp only [decide_eq_true_eq, decide_eq_false_iff_not, Bool.not_eq_true', Bool.not_eq_false', Int.not_lt, Int.not_le, Decidable.not_not, not_true_eq_false, not_false_eq_true, beq_self_eq_true, reduceCtorEq] at hb)))
    exact rq2 rfl rfl ⟨⟨_, rfl, .nil⟩, gr_A⟩
end Go.Proofs.YtlioomhcdlicmaaGreatDoor

/- Survey: the silent spans by the reference; spans compared. -/
namespace Go.Proofs.YtlioomhcdlicmaaGreatDoor
open Go Go.Ab Go.Fl
attribute [local irreducible] SeqQ BlkQ LpQ RetQ Wc Wo WD WX Op1 Op1q Op1a Cf Cl From
attribute [local irreducible] Ieee.Format.order Ieee.Format.read Ieee.Format.nearest Ieee.Format.write Ieee.Format.mul Ieee.Format.div Ieee.Format.sqrt Ieee.Datum.order Ieee.Datum.integral K U rngE errN ptE firstNZ vesE watE sgE sgsE allE hitB sqD insB qsL lvl rn rl
set_option maxRecDepth 10000
variable {G : Base} {h : H}

theorem eg79 : Tryz.prog.eqGuardType Tryz.prog.depth 79 = false := by kernel_rfl
theorem eqv79 (a b c d : Int) : eqV Tryz.prog 3 79 [.int .i64 a, .int .i64 b] [.int .i64 c, .int .i64 d] = some (decide (a = c) && (decide (b = d) && true)) := by kernel_rfl
theorem eqv79_same (a b : Int) : eqV Tryz.prog 3 79 [.int .i64 a, .int .i64 b] [.int .i64 a, .int .i64 b] = some true := by rw [eqv79]; simp
set_option maxHeartbeats 4000000 in
theorem c33 {v w : Value} {n : Nat} {l : List Spn} (s : Sl G h 2 v n (l.flatMap Spn.cells)) (u : Sl G h 2 w n (l.flatMap Spn.cells)) (hl : l.length = n) (hn : n < 1000000) (hw : Wf h) : Cf (mz G) (.func (.func 33) #[] #[]) [v, w] h fun r h' => r = .bool true ∧ Grow h h' := by
  obtain ⟨a, c, rfl⟩ := s.form
  obtain ⟨b, d, rfl⟩ := u.form
  refine cf_enter0 26 [.tmp 4] Tryz.func33 rfl rfl rfl rfl ?_
  repeat' (first | with_reducible refine wo_nil ?_ | ((with_reducible refine wo_any ?_); first | ((with_reducible refine ik_move ?_); refine wo_op rfl (op_move rfl) rfl rfl ?_) | ((with_reducible refine ik_assign ?_); refine wo_op rfl (op_assign rfl) rfl rfl ?_) | ((with_reducible refine ik_callb ?_); refine wo_op rfl (op_lenSl rfl Tryz.underlying52) rfl rfl ?_) | ((with_reducible refine ik_bin ?_); refine wo_op rfl (op_neq rfl rfl) rfl rfl ?_)) | with_reducible refine sq_norm ?_ | with_reducible refine wc_seq ?_ | with_reducible refine wc_region ?_ | with_reducible refine wc_skip ?_ | with_reducible refine wc_block ?_ | (refine wc_if rfl (fun hb => ?_) (fun hb => ?_) <;> (try simp only [decide_eq_true_eq, decide_eq_false_iff_not, Bool.not_eq_true', Bool.not_eq_false', Int.not_lt, Int.not_le, Decidable.not_not, not_true_eq_false, not_false_eq_true, beq_self_eq_true, reduceCtorEq] at hb) <;> (try (exfalso; omega))))
  refine wc_loop (fun i => n - i) (fun i : Nat => [(0, .slice a n c), (1, .slice b n d), (5, .int .i64 i)]) (fun i h' => (Wf h' ∧ Grow h h') ∧ i ≤ n) 0 (within_lk ⟨rfl, rfl, rfl, trivial⟩) ⟨⟨wf_A, gr_A⟩, Nat.zero_le _⟩ ?_
  rintro i h1 ⟨⟨w1, g1⟩, hi⟩
  have n1 := g1.nx
  by_cases hlt : i < n
  · obtain ⟨id, i1, i3⟩ := rl_at Spn.len ⟨0, 0⟩ (s.grow g1) hl Tryz.underlying52 zs79 (i := (i : Int)) hlt rfl
    obtain ⟨jd, j1, j3⟩ := rl_at Spn.len ⟨0, 0⟩ (u.grow g1) hl Tryz.underlying52 zs79 (i := (i : Int)) hlt rfl
    obtain ⟨p, hp⟩ : ∃ p, l.getD i ⟨0, 0⟩ = p := ⟨_, rfl⟩
    rw [hp] at i3 j3
    obtain ⟨x, y⟩ := p
    dsimp only [Spn.cells] at i3 j3
    repeat' (first | with_reducible refine wo_nil ?_ | ((with_reducible refine wo_any ?_); first | ((with_reducible refine ik_move ?_); refine wo_op rfl (op_move rfl) rfl rfl ?_) | ((with_reducible refine ik_assign ?_); refine wo_op rfl (op_assign rfl) rfl rfl ?_) | ((with_reducible refine ik_bin ?_); first | refine wo_op rfl (op_lss rfl rfl) rfl rfl ?_ | refine wo_op rfl (op_add' rfl rfl (w64 (by omega) (by omega))) rfl rfl ?_) | ((with_reducible refine ik_callb ?_); refine wo_op rfl (op_lenSl rfl Tryz.underlying52) rfl rfl ?_)) | ((with_reducible refine xk_any ?_); ((with_reducible refine xk_as0 ?_); first | ((with_reducible refine xk_move ?_); refine wx_q (wt_none rfl) rfl rfl (op_q rfl (op_move rfl)) rfl rfl rfl ?_) | ((with_reducible refine xk_indexAddr ?_); first | refine wx_q (wt_none rfl) rfl rfl (op_q rfl (op_indexAddr rfl rfl i1)) rfl rfl rfl ?_ | refine wx_q (wt_none rfl) rfl rfl (op_q rfl (op_indexAddr rfl rfl j1)) rfl rfl rfl ?_) | ((with_reducible refine xk_load ?_); first | refine wx_h0 (wt_none rfl) rfl (op_q rfl (op_ldLn rfl Tryz.underlying79 rfl zs79 (i3 _ gr_A).all)) rfl rfl rfl ?_ | refine wx_h0 (wt_none rfl) rfl (op_q rfl (op_ldLn rfl Tryz.underlying79 rfl zs79 (j3 _ gr_A).all)) rfl rfl rfl ?_) | ((with_reducible refine xk_bin ?_); refine wx_q (wt_none rfl) rfl rfl (op_q rfl (op_neT 3 rfl rfl rfl Tryz.underlying79 rfl eg79 (eqv79_same _ _))) rfl rfl rfl ?_) | with_reducible refine wx_nil0 ?_ ?_)) | with_reducible exact obl_nil | with_reducible refine obl_cons ?_ ?_ | ((with_reducible refine ik_obs ?_); first | exact obs_nil | refine obs_chkn rfl rfl (op_q rfl (op_ldLn rfl Tryz.underlying79 rfl zs79 (i3 _ gr_A).all)) ?_ | refine obs_chkn rfl rfl (op_q rfl (op_ldLn rfl Tryz.underlying79 rfl zs79 (j3 _ gr_A).all)) ?_) | with_reducible refine sq_norm ?_ | with_reducible refine wc_seq ?_ | with_reducible refine wc_region ?_ | with_reducible refine wc_skip ?_ | with_reducible refine wc_block ?_ | with_reducible refine bq_norm ?_ | refine wc_iff rfl ?_ | (refine wc_if rfl (fun hb => ?_) (fun hb => dead_A hb); (try simp only [decide_eq_true_eq, decide_eq_false_iff_not, Bool.not_eq_true', Bool.not_eq_false', Int.not_lt, Int.not_le, Decidable.not_not, not_true_eq_false, not_false_eq_true, beq_self_eq_true, reduceCtorEq] at hb)) | refine wc_drawB (id := 6) 9 [0, 0, 3, 7, 0, 0, 48, 112, 255] [0, 1, 2, 3, 4, 5, 6, 7, 8] (by kernel_rfl) (by kernel_rfl) rfl rfl ?_)
    all_goals exact lq_norm (i + 1) (by omega) (within_lk ⟨rfl, rfl, rfl, trivial⟩) ⟨⟨wf_A, gr_A⟩, by omega⟩
  · repeat' (first | with_reducible refine wo_nil ?_ | ((with_reducible refine wo_any ?_); first | ((with_reducible refine ik_move ?_); refine wo_op rfl (op_move rfl) rfl rfl ?_) | ((with_reducible refine ik_assign ?_); refine wo_op rfl (op_assign rfl) rfl rfl ?_) | ((with_reducible refine ik_callb ?_); refine wo_op rfl (op_lenSl rfl Tryz.underlying52) rfl rfl ?_) | ((with_reducible refine ik_bin ?_); refine wo_op rfl (op_lss rfl rfl) rfl rfl ?_)) | with_reducible refine sq_norm ?_ | with_reducible refine wc_seq ?_ | with_reducible refine wc_region ?_ | with_reducible refine wc_ret ?_ | with_reducible refine wc_exit ?_ | with_reducible refine sq_exit ?_ | with_reducible refine lq_exit ?_ | refine bq_eq rfl ?_ | (refine wc_if rfl (fun hb => ?_) (fun hb => ?_) <;> (try simp only [decide_eq_true_eq, decide_eq_false_iff_not, Bool.not_eq_true', Bool.not_eq_false', Int.not_lt, Int.not_le, Decidable.not_not, not_true_eq_false, not_false_eq_true, beq_self_eq_true, reduceCtorEq] at hb) <;> (try (exfalso; omega))))
    exact rq1 rfl ⟨rfl, gr_A⟩
theorem get_last {D : List Spn} {a z : Int} : (D.flatMap Spn.cells ++ [Value.int .i64 a, Value.int .i64 z])[D.length * 2 + 1]? = some (.int .i64 z) := by
  rw [List.getElem?_append_right (by rw [Spn.flat]; omega), Spn.flat, Nat.add_sub_cancel_left]; rfl
theorem lvl_nn {cl so q : Int} (h : 0 ≤ so) : 0 ≤ lvl cl so q := by unfold lvl; omega
theorem fl_len {b : Nat → Bool} (k : Nat) : (fl b k).length ≤ k := by
  unfold fl
  exact Nat.le_trans (List.length_filter_le _ _) (rl_len k)
set_option maxHeartbeats 16000000 in
theorem c24 {x y u v r sp lo cl so : Int} {T : Nat} {w : Value} {n : Nat} {l : List Sg} (s : Sl G h 3 w n (l.flatMap Sg.cells)) (hl : l.length = n) (hn : n < 1000000) (hw : Wf h) (b1 : x.natAbs ≤ 100000) (b2 : y.natAbs ≤ 100000) (b3 : u.natAbs ≤ 1000) (b4 : v.natAbs ≤ 1000) (hT : T ≤ 4096) (hr : 0 ≤ r ∧ r ≤ 10000) (hs : 0 ≤ sp ∧ sp ≤ 1000) (hlo : 0 ≤ lo ∧ lo ≤ 1000) (hcl : 0 ≤ cl ∧ cl ≤ 1000) (hso : 0 ≤ so ∧ so ≤ 1000) (hall : ∀ p ∈ l, sgE p = 0) : Cf (mz G) (.func (.func 24) #[] #[]) [.agg ⟨[.int .i64 x, .int .i64 y, .int .i64 u, .int .i64 v, .int .i64 (T : Nat)]⟩, .agg ⟨[.int .i64 r, .int .i64 sp, .int .i64 lo, .int .i64 cl, .int .i64 so]⟩, w] h fun r' h' => Sl G h' 2 r' (fl (silB cl so (insB x y u v r sp lo l)) T).length ((fl (silB cl so (insB x y u v r sp lo l)) T).flatMap Spn.cells) ∧ Grow h h' := by
  have q23 := fun (h' : H) (g : Grow h h') (w' : Wf h') => (c23 (cl := cl) (so := so) (T := T) (s.grow g) hl hn w' b1 b2 b3 b4 hT hr hs hlo hcl hso hall).mono (Q' := fun r2 h2 => (∃ a c, r2 = .slice a T c ∧ Sl G h2 1 (.slice a T c) T ((leL cl so (insB x y u v r sp lo l) T).map (Value.int .i64))) ∧ Grow h' h2) (fun r2 h2 ⟨e1, e2⟩ => by
    obtain ⟨a, c, rfl⟩ := e1.form
    exact ⟨⟨a, c, rfl, e1⟩, e2⟩)
  obtain ⟨I, hI⟩ : ∃ I, (insB x y u v r sp lo l) = I := ⟨_, rfl⟩
  rw [hI] at q23 ⊢
  clear hI hall
  obtain ⟨B, hB⟩ : ∃ B, silB cl so I = B := ⟨_, rfl⟩
  rw [hB]
  obtain ⟨a, c, rfl⟩ := s.form
  refine cf_enter0 55 [.tmp 6] Tryz.func24 rfl rfl rfl rfl ?_
  repeat' (first | with_reducible refine wo_nil ?_ | ((with_reducible refine wo_any ?_); first | ((with_reducible refine ik_move ?_); refine wo_op rfl (op_move rfl) rfl rfl ?_) | ((with_reducible refine ik_assign ?_); refine wo_op rfl (op_assign rfl) rfl rfl ?_) | ((with_reducible refine ik_box ?_); refine wo_op rfl (op_boxAgg rfl zs37 rfl) rfl rfl ?_) | ((with_reducible refine ik_load ?_); first | refine wo_op rfl (op_ldAgg rfl at_A Tryz.underlying37 rfl zs37 rfl rfl) rfl rfl ?_ | refine wo_op rfl (op_ldAgg rfl at_A Tryz.underlying39 rfl zs39 rfl rfl) rfl rfl ?_) | ((with_reducible refine ik_callv ?_); (refine wo_call rfl rfl rfl rfl (q23 _ gr_A wf_A) rfl rfl ?_; rintro _ _ ⟨⟨la, lc, rfl, sl0⟩, hq⟩; all_goals ((try (have hqn := hq.nx)); (try simp only [H.nx_push, H.nx_set, H.nx_bump] at hqn))))) | with_reducible refine sq_norm ?_ | with_reducible refine wc_seq ?_ | with_reducible refine wc_region ?_ | with_reducible refine wc_block ?_)
  rename_i h0
  have n0 := hq.nx
  have g00 : Grow h h0 := gr_A
  refine wc_loop (fun p : Nat × Value => T - p.1) (fun p => [(7, .slice la T lc), (8, p.2), (9, .int .i64 (p.1 : Nat))]) (fun p h' => (Wf h' ∧ Grow h0 h' ∧ Grow h h') ∧ p.1 ≤ T ∧ ((fl B p.1 = [] ∧ p.2 = .slice none 0 0) ∨ fl B p.1 ≠ [] ∧ ∃ e, h0.nx ≤ e ∧ p.2 = .slice (some ⟨e, 0, some 0⟩) (fl B p.1).length (fl B p.1).length ∧ At h' e (.cells ((fl B p.1).flatMap Spn.cells) 79 2 true))) (0, .slice none 0 0) (within_lk ⟨rfl, rfl, rfl, trivial⟩) ⟨⟨wf_A, Grow.refl _, g00⟩, Nat.zero_le _, .inl ⟨by unfold fl rl; simp, rfl⟩⟩ ?_
  clear q23 hq
  rintro ⟨k, v⟩ h1 ⟨⟨w1, g0, g1⟩, hk, hv⟩
  simp only at hk hv ⊢
  have n1 := g1.nx
  have n2 := g0.nx
  by_cases hlt : k < T
  · obtain ⟨id, i1, i3⟩ := in_atV (Value.int .i64) 0 (sl0.grow g0) Tryz.underlying49 zs3 (i := (k : Int)) hlt rfl
    have hL : (leL cl so I T).getD k 0 = lvl cl so (qt I (k + 1) : Int) := by
      unfold leL; simp [List.getD, List.getElem?_map, List.getElem?_range hlt]
    have hB1 : B k = decide (lvl cl so (qt I (k + 1) : Int) = 0) := by rw [← hB]; rfl
    have hnn := lvl_nn (cl := cl) (so := so) (q := (qt I (k + 1) : Int)) hso.1
    rw [hL] at i3
    generalize lvl cl so (qt I (k + 1) : Int) = L at i3 hB1 hnn
    have hfl := fl_len (b := B) k
    clear hL
    by_cases hz : L = 0
    · rw [decide_eq_true hz] at hB1
      have hl1 : ∀ (D : List Spn) (a z : Int), D.length * 2 + 1 < (D.flatMap Spn.cells ++ [Value.int .i64 a, Value.int .i64 z]).length := fun D a z => by
        rw [List.length_append, Spn.flat]; simp only [List.length_cons, List.length_nil]; omega
      have hl2 : ∀ (D : List Spn) (a z : Int), (D.flatMap Spn.cells ++ [Value.int .i64 a, Value.int .i64 z]).length = (D.length + 1) * 2 := fun D a z => by
        rw [List.length_append, Spn.flat]; simp only [List.length_cons, List.length_nil]; omega
      by_cases hp : 0 < k ∧ B (k - 1) = true
      · obtain ⟨F, f, f1, f2⟩ := fl_old hB1 hp.1 hp.2
        have e6 : (F ++ [⟨(f : Nat), (k : Nat)⟩] : List Spn).length = F.length + 1 := by simp
        have e7 : (fl B (k + 1)).length = F.length + 1 := by rw [f2]; simp
        have e8 : (fl B (k + 1)).flatMap Spn.cells = F.flatMap Spn.cells ++ [Value.int .i64 (f : Nat), Value.int .i64 ((k : Int) + 1)] := by rw [f2, flat_last]; rfl
        have e9 : fl B (k + 1) ≠ [] := by rw [f2]; simp
        rcases hv with ⟨q, _⟩ | ⟨_, e, he, rfl, hat⟩
        · rw [f1] at q; simp at q
        · rw [f1, flat_last] at hat
          rw [f1, e6] at hfl ⊢
          have l1 := hat.lt
          clear f1 f2
          repeat' (first | with_reducible refine wo_nil ?_ | ((with_reducible refine wo_any ?_); first | ((with_reducible refine ik_move ?_); refine wo_op rfl (op_move rfl) rfl rfl ?_) | ((with_reducible refine ik_assign ?_); refine wo_op rfl (op_assign rfl) rfl rfl ?_) | ((with_reducible refine ik_indexAddr ?_); first | refine wo_op rfl (op_indexAddr rfl rfl i1) rfl rfl ?_ | refine wo_op rfl (op_idxSl (o := F.length * 2) rfl rfl Tryz.underlying52 zs79 (by omega) (by omega) (by omega)) rfl rfl ?_) | ((with_reducible refine ik_load ?_); refine wo_op rfl (op_ldCell rfl Tryz.underlying3 rfl (i3 _ gr_A)) rfl rfl ?_) | ((with_reducible refine ik_store ?_); refine wo_op0 rfl (op_stIdx (o := F.length * 2 + 1) rfl rfl at_A rfl zs3 (hl1 _ _ _) rfl set_last) rfl ?_) | ((with_reducible refine ik_callb ?_); first | refine wo_op rfl (op_lenSl rfl Tryz.underlying49) rfl rfl ?_ | refine wo_op rfl (op_lenSl rfl Tryz.underlying52) rfl rfl ?_) | ((with_reducible refine ik_bin ?_); first | refine wo_op rfl (op_lss rfl rfl) rfl rfl ?_ | refine wo_op rfl (op_gtr rfl rfl) rfl rfl ?_ | refine wo_op rfl (op_sub' rfl rfl (w64 (by omega) (by omega))) rfl rfl ?_ | refine wo_op rfl (op_add' rfl rfl (w64 (by omega) (by omega))) rfl rfl ?_) | ((with_reducible refine ik_fieldAddr ?_); refine wo_op rfl (op_fieldAddr (o := 1) rfl Tryz.underlying79 rfl zs3 rfl) rfl rfl ?_) | ((with_reducible refine ik_pick ?_); refine wo_op rfl (op_pickt rfl rfl) rfl rfl ?_) | ((with_reducible refine ik_g ?_); first | ((with_reducible refine ig_move ?_); refine wo_grun rfl rfl rfl (op_move rfl) rfl rfl ?_) | ((with_reducible refine ig_indexAddr ?_); refine wo_grun rfl rfl rfl (op_idxSl (o := F.length * 2) rfl rfl Tryz.underlying52 zs79 (by omega) (by omega) (by omega)) rfl rfl ?_) | ((with_reducible refine ig_load ?_); refine wo_grun rfl rfl rfl (op_ldIdx (o := F.length * 2 + 1) rfl at_A Tryz.underlying3 rfl get_last) rfl rfl ?_) | ((with_reducible refine ig_bin ?_); first | refine wo_grun rfl rfl rfl (op_sub' rfl rfl (w64 (by omega) (by omega))) rfl rfl ?_ | refine wo_grun rfl rfl rfl (op_eql rfl rfl) rfl rfl ?_) | ((with_reducible refine ig_fieldAddr ?_); refine wo_grun rfl rfl rfl (op_fieldAddr (o := 1) rfl Tryz.underlying79 rfl zs3 rfl) rfl rfl ?_) | (refine wo_gsplit rfl rfl rfl (fun hb => ?_) (fun hb => dead_A hb); (try simp only [decide_eq_true_eq, decide_eq_false_iff_not, Bool.not_eq_true', Bool.not_eq_false', Int.not_lt, Int.not_le, Decidable.not_not, not_true_eq_false, not_false_eq_true, beq_self_eq_true, reduceCtorEq] at hb)))) | with_reducible refine sq_norm ?_ | with_reducible refine wc_seq ?_ | with_reducible refine wc_region ?_ | with_reducible refine wc_skip ?_ | with_reducible refine wc_block ?_ | with_reducible refine bq_norm ?_ | (refine wc_if rfl (fun hb => dead_A hb) (fun hb => ?_); (try simp only [decide_eq_true_eq, decide_eq_false_iff_not, Bool.not_eq_true', Bool.not_eq_false', Int.not_lt, Int.not_le, Decidable.not_not, not_true_eq_false, not_false_eq_true, beq_self_eq_true, reduceCtorEq] at hb)) | (refine wc_if rfl (fun hb => ?_) (fun hb => dead_A hb); (try simp only [decide_eq_true_eq, decide_eq_false_iff_not, Bool.not_eq_true', Bool.not_eq_false', Int.not_lt, Int.not_le, Decidable.not_not, not_true_eq_false, not_false_eq_true, beq_self_eq_true, reduceCtorEq] at hb)) | (refine wc_if rfl (fun hb => ?_) (fun hb => (of_decide_eq_false hb rfl).elim); (try simp only [decide_eq_true_eq, decide_eq_false_iff_not, Bool.not_eq_true', Bool.not_eq_false', Int.not_lt, Int.not_le, Decidable.not_not, not_true_eq_false, not_false_eq_true, beq_self_eq_true, reduceCtorEq] at hb)))
          exact lq_norm (k + 1, .slice (some ⟨_, 0, some 0⟩) (F.length + 1) (F.length + 1)) (by simp only; omega) (within_lk ⟨rfl, rfl, rfl, trivial⟩) ⟨⟨wf_A, gr_A, gr_A⟩, by simp only; omega, .inr ⟨e9, e, he, by simp only; rw [e7], by simp only; rw [e8]; exact at_A⟩⟩
      · have hp' : k = 0 ∨ B (k - 1) = false := by
          by_cases q : k = 0
          · exact .inl q
          · exact .inr (by cases hb : B (k - 1) with
              | false => rfl
              | true => exact absurd ⟨by omega, hb⟩ hp)
        obtain ⟨f1, f2⟩ := fl_new hB1 hp'
        have e7 : (fl B (k + 1)).length = (fl B k).length + 1 := by rw [f1]; simp
        have e8 : (fl B (k + 1)).flatMap Spn.cells = (fl B k).flatMap Spn.cells ++ [Value.int .i64 (k : Nat), Value.int .i64 ((k : Int) + 1)] := by rw [f1, flat_last]; rfl
        have e9 : fl B (k + 1) ≠ [] := by rw [f1]; simp
        clear f1 hp hp'
        rcases hv with ⟨q, rfl⟩ | ⟨q, e, he, rfl, hat⟩
        · rw [q] at e7 e8
          repeat' (first | with_reducible refine wo_nil ?_ | ((with_reducible refine wo_any ?_); first | ((with_reducible refine ik_move ?_); refine wo_op rfl (op_move rfl) rfl rfl ?_) | ((with_reducible refine ik_assign ?_); refine wo_op rfl (op_assign rfl) rfl rfl ?_) | ((with_reducible refine ik_indexAddr ?_); refine wo_op rfl (op_indexAddr rfl rfl i1) rfl rfl ?_) | ((with_reducible refine ik_load ?_); refine wo_op rfl (op_ldCell rfl Tryz.underlying3 rfl (i3 _ gr_A)) rfl rfl ?_) | ((with_reducible refine ik_callb ?_); first | refine wo_op rfl (op_append rfl rfl (append_nil_eq (M := mz G) (st := 52) (xt := 52) (m := 1) Tryz.underlying52 Tryz.underlying52 rfl zs79 zb79 zz79 rfl (Sl.ofAt at_A rfl (Nat.le_refl _)) rfl (by omega) (by omega))) rfl rfl ?_ | refine wo_op rfl (op_lenSl rfl Tryz.underlying49) rfl rfl ?_ | refine wo_op rfl (op_lenSl rfl Tryz.underlying52) rfl rfl ?_) | ((with_reducible refine ik_bin ?_); first | refine wo_op rfl (op_lss rfl rfl) rfl rfl ?_ | refine wo_op rfl (op_gtr rfl rfl) rfl rfl ?_ | refine wo_op rfl (op_add' rfl rfl (w64 (by omega) (by omega))) rfl rfl ?_) | ((with_reducible refine ik_pick ?_); refine wo_op rfl (op_pickf rfl rfl) rfl rfl ?_) | ((with_reducible refine ik_build ?_); refine wo_op rfl (op_buildT rfl zz79 zp79 rfl rfl) rfl rfl ?_) | ((with_reducible refine ik_buildSlice ?_); refine wo_op rfl (op_buildSl rfl Tryz.underlying52 zs79 zz79 rfl rfl) rfl rfl ?_) | ((with_reducible refine ik_g ?_); refine wo_gskip rfl rfl rfl rfl rfl rfl ?_)) | with_reducible refine sq_norm ?_ | with_reducible refine wc_seq ?_ | with_reducible refine wc_region ?_ | with_reducible refine wc_skip ?_ | with_reducible refine wc_block ?_ | with_reducible refine bq_norm ?_ | refine wc_iff rfl ?_ | (refine wc_if rfl (fun hb => dead_A hb) (fun hb => ?_); (try simp only [decide_eq_true_eq, decide_eq_false_iff_not, Bool.not_eq_true', Bool.not_eq_false', Int.not_lt, Int.not_le, Decidable.not_not, not_true_eq_false, not_false_eq_true, beq_self_eq_true, reduceCtorEq] at hb)) | (refine wc_if rfl (fun hb => ?_) (fun hb => dead_A hb); (try simp only [decide_eq_true_eq, decide_eq_false_iff_not, Bool.not_eq_true', Bool.not_eq_false', Int.not_lt, Int.not_le, Decidable.not_not, not_true_eq_false, not_false_eq_true, beq_self_eq_true, reduceCtorEq] at hb)))
          refine lq_norm (k + 1, .slice (some ⟨_, 0, some 0⟩) (0 + 1) (0 + 1)) (by simp only; omega) (within_lk ⟨rfl, rfl, rfl, trivial⟩) ⟨⟨wf_A, gr_A, gr_A⟩, by simp only; omega, .inr ⟨e9, _, ?_, by simp only; rw [e7]; rfl, by simp only; rw [e8]; exact (show At _ _ (.cells [Value.int .i64 (k : Nat), Value.int .i64 ((k : Int) + 1)] 79 2 true) from at_A)⟩⟩
          simp only [H.nx_push, H.nx_set, H.nx_bump, H.nx_kill]; omega
        · obtain ⟨D, ⟨df, dt⟩, hD⟩ : ∃ D d, fl B k = D ++ [d] := ⟨(fl B k).dropLast, (fl B k).getLast q, (List.dropLast_concat_getLast q).symm⟩
          have hdt := f2 ⟨df, dt⟩ (by rw [hD]; simp)
          simp only at hdt
          have e6 : (D ++ [⟨df, dt⟩] : List Spn).length = D.length + 1 := by simp
          rw [hD, flat_last] at hat e8
          rw [hD, e6] at e7 hfl ⊢
          have l1 := hat.lt
          clear f2 q hD
          repeat' (first | with_reducible refine wo_nil ?_ | ((with_reducible refine wo_any ?_); first | ((with_reducible refine ik_move ?_); refine wo_op rfl (op_move rfl) rfl rfl ?_) | ((with_reducible refine ik_assign ?_); refine wo_op rfl (op_assign rfl) rfl rfl ?_) | ((with_reducible refine ik_indexAddr ?_); refine wo_op rfl (op_indexAddr rfl rfl i1) rfl rfl ?_) | ((with_reducible refine ik_load ?_); refine wo_op rfl (op_ldCell rfl Tryz.underlying3 rfl (i3 _ gr_A)) rfl rfl ?_) | ((with_reducible refine ik_callb ?_); first | refine wo_op rfl (op_append rfl rfl (append_own_eq (M := mz G) (st := 52) (xt := 52) (m := 1) Tryz.underlying52 Tryz.underlying52 rfl zs79 zb79 zz79 rfl (Sl.ofAt at_A rfl (Nat.le_refl _)) rfl (b := e) (c := D.flatMap Spn.cells ++ [Value.int .i64 df, Value.int .i64 dt]) at_A (hl2 _ _ _) (by omega) (by omega))) rfl rfl ?_ | refine wo_op rfl (op_lenSl rfl Tryz.underlying49) rfl rfl ?_ | refine wo_op rfl (op_lenSl rfl Tryz.underlying52) rfl rfl ?_) | ((with_reducible refine ik_bin ?_); first | refine wo_op rfl (op_lss rfl rfl) rfl rfl ?_ | refine wo_op rfl (op_gtr rfl rfl) rfl rfl ?_ | refine wo_op rfl (op_add' rfl rfl (w64 (by omega) (by omega))) rfl rfl ?_) | ((with_reducible refine ik_pick ?_); refine wo_op rfl (op_pickt rfl rfl) rfl rfl ?_) | ((with_reducible refine ik_build ?_); refine wo_op rfl (op_buildT rfl zz79 zp79 rfl rfl) rfl rfl ?_) | ((with_reducible refine ik_buildSlice ?_); refine wo_op rfl (op_buildSl rfl Tryz.underlying52 zs79 zz79 rfl rfl) rfl rfl ?_) | ((with_reducible refine ik_g ?_); first | ((with_reducible refine ig_move ?_); refine wo_grun rfl rfl rfl (op_move rfl) rfl rfl ?_) | ((with_reducible refine ig_indexAddr ?_); refine wo_grun rfl rfl rfl (op_idxSl (o := D.length * 2) rfl rfl Tryz.underlying52 zs79 (by omega) (by omega) (by omega)) rfl rfl ?_) | ((with_reducible refine ig_load ?_); refine wo_grun rfl rfl rfl (op_ldIdx (o := D.length * 2 + 1) rfl at_A Tryz.underlying3 rfl get_last) rfl rfl ?_) | ((with_reducible refine ig_bin ?_); first | refine wo_grun rfl rfl rfl (op_sub' rfl rfl (w64 (by omega) (by omega))) rfl rfl ?_ | refine wo_grun rfl rfl rfl (op_eql rfl rfl) rfl rfl ?_) | ((with_reducible refine ig_fieldAddr ?_); refine wo_grun rfl rfl rfl (op_fieldAddr (o := 1) rfl Tryz.underlying79 rfl zs3 rfl) rfl rfl ?_) | (refine wo_gsplit rfl rfl rfl (fun hb => ?_) (fun hb => dead_A hb); (try simp only [decide_eq_true_eq, decide_eq_false_iff_not, Bool.not_eq_true', Bool.not_eq_false', Int.not_lt, Int.not_le, Decidable.not_not, not_true_eq_false, not_false_eq_true, beq_self_eq_true, reduceCtorEq] at hb)))) | with_reducible refine sq_norm ?_ | with_reducible refine wc_seq ?_ | with_reducible refine wc_region ?_ | with_reducible refine wc_skip ?_ | with_reducible refine wc_block ?_ | with_reducible refine bq_norm ?_ | (refine wc_if rfl (fun hb => dead_A hb) (fun hb => ?_); (try simp only [decide_eq_true_eq, decide_eq_false_iff_not, Bool.not_eq_true', Bool.not_eq_false', Int.not_lt, Int.not_le, Decidable.not_not, not_true_eq_false, not_false_eq_true, beq_self_eq_true, reduceCtorEq] at hb)) | (refine wc_if rfl (fun hb => ?_) (fun hb => dead_A hb); (try simp only [decide_eq_true_eq, decide_eq_false_iff_not, Bool.not_eq_true', Bool.not_eq_false', Int.not_lt, Int.not_le, Decidable.not_not, not_true_eq_false, not_false_eq_true, beq_self_eq_true, reduceCtorEq] at hb)))
          refine lq_norm (k + 1, .slice (some ⟨_, 0, some 0⟩) (D.length + 1 + 1) (D.length + 1 + 1)) (by simp only; omega) (within_lk ⟨rfl, rfl, rfl, trivial⟩) ⟨⟨wf_A, gr_A, gr_A⟩, by simp only; omega, .inr ⟨e9, _, ?_, by simp only; rw [e7], by simp only; rw [e8]; exact (show At _ _ (.cells (D.flatMap Spn.cells ++ [Value.int .i64 df, Value.int .i64 dt] ++ [Value.int .i64 (k : Nat), Value.int .i64 ((k : Int) + 1)]) 79 2 true) from at_A)⟩⟩
          simp only [H.nx_push, H.nx_set, H.nx_bump, H.nx_kill]; omega
    · rw [decide_eq_false hz] at hB1
      have fs := fl_skip hB1
      repeat' (first | with_reducible refine wo_nil ?_ | ((with_reducible refine wo_any ?_); first | ((with_reducible refine ik_move ?_); refine wo_op rfl (op_move rfl) rfl rfl ?_) | ((with_reducible refine ik_assign ?_); refine wo_op rfl (op_assign rfl) rfl rfl ?_) | ((with_reducible refine ik_indexAddr ?_); refine wo_op rfl (op_indexAddr rfl rfl i1) rfl rfl ?_) | ((with_reducible refine ik_load ?_); refine wo_op rfl (op_ldCell rfl Tryz.underlying3 rfl (i3 _ gr_A)) rfl rfl ?_) | ((with_reducible refine ik_callb ?_); refine wo_op rfl (op_lenSl rfl Tryz.underlying49) rfl rfl ?_) | ((with_reducible refine ik_bin ?_); first | refine wo_op rfl (op_lss rfl rfl) rfl rfl ?_ | refine wo_op rfl (op_gtr rfl rfl) rfl rfl ?_ | refine wo_op rfl (op_add' rfl rfl (w64 (by omega) (by omega))) rfl rfl ?_)) | with_reducible refine sq_norm ?_ | with_reducible refine wc_seq ?_ | with_reducible refine wc_region ?_ | with_reducible refine wc_skip ?_ | with_reducible refine wc_exit ?_ | with_reducible refine wc_block ?_ | with_reducible refine sq_exit ?_ | refine bq_eq rfl ?_ | (refine wc_if rfl (fun hb => ?_) (fun hb => dead_A hb); (try simp only [decide_eq_true_eq, decide_eq_false_iff_not, Bool.not_eq_true', Bool.not_eq_false', Int.not_lt, Int.not_le, Decidable.not_not, not_true_eq_false, not_false_eq_true, beq_self_eq_true, reduceCtorEq] at hb)))
      exact lq_norm (k + 1, v) (by simp only; omega) (within_lk ⟨rfl, rfl, rfl, trivial⟩) ⟨⟨wf_A, gr_A, gr_A⟩, by simp only; omega, by simp only; rw [fs]; exact hv.elim (fun q => .inl q) (fun ⟨q, e, he, hve, hat⟩ => .inr ⟨q, e, he, hve, at_A⟩)⟩
  · have hkn : k = T := by omega
    subst hkn
    repeat' (first | with_reducible refine wo_nil ?_ | ((with_reducible refine wo_any ?_); first | ((with_reducible refine ik_move ?_); refine wo_op rfl (op_move rfl) rfl rfl ?_) | ((with_reducible refine ik_assign ?_); refine wo_op rfl (op_assign rfl) rfl rfl ?_) | ((with_reducible refine ik_callb ?_); refine wo_op rfl (op_lenSl rfl Tryz.underlying49) rfl rfl ?_) | ((with_reducible refine ik_bin ?_); refine wo_op rfl (op_lss rfl rfl) rfl rfl ?_)) | with_reducible refine sq_norm ?_ | with_reducible refine wc_seq ?_ | with_reducible refine wc_region ?_ | with_reducible refine wc_ret ?_ | with_reducible refine wc_exit ?_ | with_reducible refine sq_exit ?_ | with_reducible refine lq_exit ?_ | refine bq_eq rfl ?_ | (refine wc_if rfl (fun hb => ?_) (fun hb => ?_) <;> (try simp only [decide_eq_true_eq, decide_eq_false_iff_not, Bool.not_eq_true', Bool.not_eq_false', Int.not_lt, Int.not_le, Decidable.not_not, not_true_eq_false, not_false_eq_true, beq_self_eq_true, reduceCtorEq] at hb) <;> (try (exfalso; omega))))
    refine rq1 rfl ⟨?_, gr_A⟩
    rcases hv with ⟨q, rfl⟩ | ⟨q, e, he, rfl, hat⟩
    · rw [q]; exact .nil
    · exact Sl.ofAt hat Spn.flat (Nat.le_refl _)
end Go.Proofs.YtlioomhcdlicmaaGreatDoor
