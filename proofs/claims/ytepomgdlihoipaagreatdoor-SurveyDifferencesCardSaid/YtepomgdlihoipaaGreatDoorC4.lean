/- Survey: levels; lists that grow; lists compared. -/
import Derived.Test.YtepomgdlihoipaaGreatDoorC3
set_option linter.all false
/- Survey: whether an animal may be inside, and levels, by the reference. -/
namespace Go.Proofs.YtepomgdlihoipaaGreatDoor
open Go Go.Ab Go.Fl
attribute [local irreducible] SeqQ BlkQ LpQ RetQ Wc Wo WD WX Op1 Op1q Op1a Cf Cl From
attribute [local irreducible] Ieee.Format.order Ieee.Format.read Ieee.Format.nearest Ieee.Format.write Ieee.Format.mul Ieee.Format.div Ieee.Format.sqrt Ieee.Datum.order Ieee.Datum.integral K U rngE errN ptE firstNZ vesE watE sgE sgsE allE hitB sqD insB qsL lvl
set_option maxRecDepth 10000
variable {G : Base} {h : H}

/-- A list of one's own that grows. -/
def OutG (lo : Nat) (h : H) (v : Value) (n : Nat) (c : List Value) (et w : Nat) : Prop := (v = .slice none 0 0 ∧ n = 0 ∧ c = []) ∨ ∃ e, lo ≤ e ∧ v = .slice (some ⟨e, 0, some 0⟩) n n ∧ At h e (.cells c et w true)
theorem OutG.sl {lo n et w : Nat} {v : Value} {c : List Value} (q : OutG lo h v n c et w) (hc : c.length = n * w) : Sl G h w v n c := by
  rcases q with ⟨rfl, rfl, rfl⟩ | ⟨e, _, rfl, hat⟩
  · exact .nil
  · exact Sl.ofAt hat hc (Nat.le_refl _)

theorem any_next {α : Type} {p : α → Bool} {l : List α} {k : Nat} (d : α) (h : k < l.length) : (l.drop k).any p = (p (l.getD k d) || (l.drop (k + 1)).any p) := by
  rw [drop_next d h, List.any_cons]
set_option maxHeartbeats 8000000 in
theorem c92 {x y u v t r sp lo cl so : Int} {k : Nat} {w : Value} {n : Nat} {l : List Sg} (s : Sl G h 3 w n (l.flatMap Sg.cells)) (hl : l.length = n) (hn : n < 1000000) (hw : Wf h) (b1 : x.natAbs ≤ 100000) (b2 : y.natAbs ≤ 100000) (b3 : u.natAbs ≤ 1000) (b4 : v.natAbs ≤ 1000) (hk : k ≤ 4096) (hr : 0 ≤ r ∧ r ≤ 10000) (hs : 0 ≤ sp ∧ sp ≤ 1000) (hlo : 0 ≤ lo ∧ lo ≤ 1000) (hall : ∀ p ∈ l, sgE p = 0) :
    Cf (mz G) (.func (.func 92) #[] #[]) [.agg ⟨[.int .i64 x, .int .i64 y, .int .i64 u, .int .i64 v, .int .i64 t]⟩, .agg ⟨[.int .i64 r, .int .i64 sp, .int .i64 lo, .int .i64 cl, .int .i64 so]⟩, w, .int .i64 (k : Nat)] h fun r' h' => r' = .bool (insB x y u v r sp lo l k) ∧ Grow h h' := by
  obtain ⟨a, c, rfl⟩ := s.form
  unfold insB
  have m1 := mulb (a := (k : Int)) (b := u) (A := 4096) (B := 1000) (by omega) b3
  have m2 := mulb (a := (k : Int)) (b := v) (A := 4096) (B := 1000) (by omega) b4
  obtain ⟨P, hP⟩ : ∃ P, hitB r sp lo (x + (k : Int) * u) (y + (k : Int) * v) (k : Int) = P := ⟨_, rfl⟩
  rw [hP]
  refine cf_enter0 85 [.tmp 8] Tryz.func92 rfl rfl rfl rfl ?_
  repeat' (first | with_reducible refine wo_nil ?_ | ((with_reducible refine wo_any ?_); first | ((with_reducible refine ik_assign ?_); refine wo_op rfl (op_assign rfl) rfl rfl ?_) | ((with_reducible refine ik_box ?_); refine wo_op rfl (op_boxAgg rfl zs37 rfl) rfl rfl ?_)) | with_reducible refine sq_norm ?_ | with_reducible refine wc_seq ?_ | with_reducible refine wc_region ?_ | with_reducible refine wc_block ?_)
  refine wc_loop (fun i => n - i) (fun i : Nat => [(2, .slice a n c), (3, .int .i64 (k : Nat)), (4, .pointer (some ⟨h.nx, 0, some 0⟩)), (5, .pointer (some ⟨h.nx + 1, 0, some 0⟩)), (9, .int .i64 (i : Nat))]) (fun i h' => (Wf h' ∧ Grow h h') ∧ (At h' h.nx (.cells [.int .i64 x, .int .i64 y, .int .i64 u, .int .i64 v, .int .i64 t] 37 5 false) ∧ At h' (h.nx + 1) (.cells [.int .i64 r, .int .i64 sp, .int .i64 lo, .int .i64 cl, .int .i64 so] 39 5 false)) ∧ i ≤ n ∧ (l.drop i).any P = l.any P) 0 (within_lk ⟨rfl, rfl, rfl, rfl, rfl, trivial⟩) ⟨⟨wf_A, gr_A⟩, ⟨at_A, At.new _ _⟩, Nat.zero_le _, rfl⟩ ?_
  rintro i h1 ⟨⟨w1, g1⟩, ⟨a1, a2⟩, hi, hp⟩
  have n1 := g1.nx
  have l2 := a2.lt
  by_cases hlt : i < n
  · obtain ⟨id, i1, i3⟩ := rl_at Sg.len ⟨0, 0, 0⟩ (s.grow g1) hl Tryz.underlying40 zs145 (i := (i : Int)) hlt rfl
    rw [any_next ⟨0, 0, 0⟩ (by omega)] at hp
    have hm : l.getD i ⟨0, 0, 0⟩ ∈ l := by simp [List.getD, List.getElem?_eq_getElem (show i < l.length by omega)]
    obtain ⟨x0, hx⟩ : ∃ x, l.getD i ⟨0, 0, 0⟩ = x := ⟨_, rfl⟩
    rw [hx] at i3 hp hm
    have hg := hall x0 hm
    have hPx : P x0 = decide ((0 ≤ (k : Int) - x0.t ∧ (k : Int) - x0.t ≤ lo) ∧ sqD x0.x x0.y (x + (k : Int) * u) (y + (k : Int) * v) ≤ (r + sp * ((k : Int) - x0.t)) * (r + sp * ((k : Int) - x0.t))) := by rw [← hP]; unfold hitB; rfl
    clear hx hm hP
    obtain ⟨st, sx, sy⟩ := x0
    obtain ⟨gt, gx, gy⟩ : (0 ≤ st ∧ st ≤ 100000) ∧ (-100000 ≤ sx ∧ sx ≤ 100000) ∧ -100000 ≤ sy ∧ sy ≤ 100000 := by
      unfold sgE at hg
      have a := firstNZ_zero hg
      exact ⟨rng_ok (a _ (by simp)), pt_ok (a _ (by simp))⟩
    clear hg
    have it := fun (h' : H) (g' : Grow h1 h') => (show acell G h' (aadd id 0) = some (.int .i64 st) from (i3 h' g').get 0 _ rfl)
    have ix := fun (h' : H) (g' : Grow h1 h') => (show acell G h' (aadd (aadd id 1) 0) = some (.int .i64 sx) from (i3 h' g').get 1 _ rfl)
    have iy := fun (h' : H) (g' : Grow h1 h') => (show acell G h' (aadd (aadd id 1) 1) = some (.int .i64 sy) from (i3 h' g').get 2 _ rfl)
    dsimp only at hPx
    clear i3
    by_cases h1 : 0 ≤ (k : Int) - st ∧ (k : Int) - st ≤ lo
    · obtain ⟨h2, h3⟩ := h1
      have p1 := mulb (a := sp) (b := (k : Int) - st) (A := 1000) (B := 1000) (by omega) (by omega)
      have p0 : 0 ≤ sp * ((k : Int) - st) := Int.mul_nonneg (by omega) (by omega)
      obtain ⟨p2, p3⟩ := sqb (a := r + sp * ((k : Int) - st)) (A := 2000000) (by omega)
      obtain ⟨p4, p5⟩ := sqb (a := x + (k : Int) * u - sx) (A := 10000000) (by omega)
      obtain ⟨p6, p7⟩ := sqb (a := y + (k : Int) * v - sy) (A := 10000000) (by omega)
      unfold sqD at hPx
      by_cases h4 : (x + (k : Int) * u - sx) * (x + (k : Int) * u - sx) + (y + (k : Int) * v - sy) * (y + (k : Int) * v - sy) ≤ (r + sp * ((k : Int) - st)) * (r + sp * ((k : Int) - st))
      · rw [decide_eq_true ⟨⟨h2, h3⟩, h4⟩] at hPx
        rw [← hp, hPx, Bool.true_or]
        clear hPx hp
        repeat' (first | with_reducible refine wo_nil ?_ | ((with_reducible refine wo_any ?_); first | ((with_reducible refine ik_move ?_); refine wo_op rfl (op_move rfl) rfl rfl ?_) | ((with_reducible refine ik_assign ?_); refine wo_op rfl (op_assign rfl) rfl rfl ?_) | ((with_reducible refine ik_indexAddr ?_); refine wo_op rfl (op_indexAddr rfl rfl i1) rfl rfl ?_) | ((with_reducible refine ik_load ?_); first | refine wo_op rfl (op_ldCell rfl Tryz.underlying3 rfl (it _ gr_A)) rfl rfl ?_ | refine wo_op rfl (op_ldAt rfl at_A Tryz.underlying3 rfl rfl) rfl rfl ?_) | ((with_reducible refine ik_callb ?_); refine wo_op rfl (op_lenSl rfl Tryz.underlying40) rfl rfl ?_) | ((with_reducible refine ik_bin ?_); first | refine wo_op rfl (op_lss rfl rfl) rfl rfl ?_ | refine wo_op rfl (op_sub' rfl rfl (w64 (by omega) (by omega))) rfl rfl ?_ | refine wo_op rfl (op_mul' rfl rfl (w64 (by omega) (by omega))) rfl rfl ?_ | refine wo_op rfl (op_add' rfl rfl (w64 (by omega) (by omega))) rfl rfl ?_ | refine wo_op rfl (op_leq rfl rfl) rfl rfl ?_) | ((with_reducible refine ik_fieldAddr ?_); first | refine wo_op rfl (op_fieldAddr (o := 0) rfl Tryz.underlying145 rfl zs3 rfl) rfl rfl ?_ | refine wo_op rfl (op_fieldAddr (o := 0) rfl Tryz.underlying39 rfl zs3 rfl) rfl rfl ?_ | refine wo_op rfl (op_fieldAddr (o := 1) rfl Tryz.underlying39 rfl zs3 rfl) rfl rfl ?_) | ((with_reducible refine ik_pick ?_); refine wo_op rfl (op_pickf rfl rfl) rfl rfl ?_) | ((with_reducible refine ik_g ?_); first | ((with_reducible refine ig_move ?_); refine wo_grun rfl rfl rfl (op_move rfl) rfl rfl ?_) | ((with_reducible refine ig_load ?_); refine wo_grun rfl rfl rfl (op_ldAt rfl at_A Tryz.underlying3 rfl rfl) rfl rfl ?_) | ((with_reducible refine ig_bin ?_); refine wo_grun rfl rfl rfl (op_gtr rfl rfl) rfl rfl ?_) | ((with_reducible refine ig_fieldAddr ?_); refine wo_grun rfl rfl rfl (op_fieldAddr (o := 2) rfl Tryz.underlying39 rfl zs3 rfl) rfl rfl ?_) | (refine wo_gsplit rfl rfl rfl (fun hb => dead_A hb) (fun hb => ?_); (try simp only [decide_eq_true_eq, decide_eq_false_iff_not, Bool.not_eq_true', Bool.not_eq_false', Int.not_lt, Int.not_le, Decidable.not_not, not_true_eq_false, not_false_eq_true, beq_self_eq_true, reduceCtorEq] at hb)))) | ((with_reducible refine xk_any ?_); ((with_reducible refine xk_as0 ?_); first | ((with_reducible refine xk_move ?_); refine wx_q (wt_none rfl) rfl rfl (op_q rfl (op_move rfl)) rfl rfl rfl ?_) | ((with_reducible refine xk_assign ?_); refine wx_q (wt_none rfl) rfl rfl (op_q rfl (op_assign rfl)) rfl rfl rfl ?_) | ((with_reducible refine xk_indexAddr ?_); refine wx_q (wt_none rfl) rfl rfl (op_q rfl (op_indexAddr rfl rfl i1)) rfl rfl rfl ?_) | ((with_reducible refine xk_load ?_); first | refine wx_h0 (wt_none rfl) rfl (op_q rfl (op_ldCell rfl Tryz.underlying3 rfl (ix _ gr_A))) rfl rfl rfl ?_ | refine wx_h0 (wt_none rfl) rfl (op_q rfl (op_ldCell rfl Tryz.underlying3 rfl (iy _ gr_A))) rfl rfl rfl ?_ | refine wx_h0 (wt_none rfl) rfl (op_q rfl (op_ldAt (b := h.nx) (off := 0) rfl at_A Tryz.underlying3 rfl rfl)) rfl rfl rfl ?_ | refine wx_h0 (wt_none rfl) rfl (op_q rfl (op_ldAt (b := h.nx) (off := 1) rfl at_A Tryz.underlying3 rfl rfl)) rfl rfl rfl ?_ | refine wx_h0 (wt_none rfl) rfl (op_q rfl (op_ldAt (b := h.nx) (off := 2) rfl at_A Tryz.underlying3 rfl rfl)) rfl rfl rfl ?_ | refine wx_h0 (wt_none rfl) rfl (op_q rfl (op_ldAt (b := h.nx) (off := 3) rfl at_A Tryz.underlying3 rfl rfl)) rfl rfl rfl ?_) | ((with_reducible refine xk_bin ?_); first | refine wx_q (wt_none rfl) rfl rfl (op_q rfl (op_sub' rfl rfl (w64 (by omega) (by omega)))) rfl rfl rfl ?_ | refine wx_q (wt_none rfl) rfl rfl (op_q rfl (op_mul' rfl rfl (w64 (by omega) (by omega)))) rfl rfl rfl ?_ | refine wx_q (wt_none rfl) rfl rfl (op_q rfl (op_add' rfl rfl (w64 (by omega) (by omega)))) rfl rfl rfl ?_) | ((with_reducible refine xk_fieldAddr ?_); first | refine wx_q (wt_none rfl) rfl rfl (op_q rfl (op_fieldAddr (o := 0) rfl Tryz.underlying37 rfl zs35 rfl)) rfl rfl rfl ?_ | refine wx_q (wt_none rfl) rfl rfl (op_q rfl (op_fieldAddr (o := 0) rfl Tryz.underlying35 rfl zs3 rfl)) rfl rfl rfl ?_ | refine wx_q (wt_none rfl) rfl rfl (op_q rfl (op_fieldAddr (o := 2) rfl Tryz.underlying37 rfl zs35 rfl)) rfl rfl rfl ?_ | refine wx_q (wt_none rfl) rfl rfl (op_q rfl (op_fieldAddr (o := 1) rfl Tryz.underlying145 rfl zs35 rfl)) rfl rfl rfl ?_ | refine wx_q (wt_none rfl) rfl rfl (op_q rfl (op_fieldAddr (o := 1) rfl Tryz.underlying35 rfl zs3 rfl)) rfl rfl rfl ?_) | with_reducible refine wx_nil0 ?_ ?_)) | with_reducible exact obl_nil | with_reducible refine obl_cons ?_ ?_ | ((with_reducible refine ik_obs ?_); first | exact obs_nil | refine obs_chkn rfl rfl (op_q rfl (op_ldCell rfl Tryz.underlying3 rfl (ix _ gr_A))) ?_ | refine obs_chkn rfl rfl (op_q rfl (op_ldCell rfl Tryz.underlying3 rfl (iy _ gr_A))) ?_ | refine obs_chkn rfl rfl (op_q rfl (op_ldAt (b := h.nx) (off := 0) rfl at_A Tryz.underlying3 rfl (by rfl))) ?_ | refine obs_chkn rfl rfl (op_q rfl (op_ldAt (b := h.nx) (off := 1) rfl at_A Tryz.underlying3 rfl (by rfl))) ?_ | refine obs_chkn rfl rfl (op_q rfl (op_ldAt (b := h.nx) (off := 2) rfl at_A Tryz.underlying3 rfl (by rfl))) ?_ | refine obs_chkn rfl rfl (op_q rfl (op_ldAt (b := h.nx) (off := 3) rfl at_A Tryz.underlying3 rfl (by rfl))) ?_) | with_reducible refine sq_norm ?_ | with_reducible refine wc_seq ?_ | with_reducible refine wc_region ?_ | with_reducible refine wc_skip ?_ | with_reducible refine wc_ret ?_ | with_reducible refine wc_block ?_ | with_reducible refine bq_ret ?_ | with_reducible refine sq_ret ?_ | with_reducible refine lq_ret ?_ | (refine wc_if rfl (fun hb => dead_A hb) (fun hb => ?_); (try simp only [decide_eq_true_eq, decide_eq_false_iff_not, Bool.not_eq_true', Bool.not_eq_false', Int.not_lt, Int.not_le, Decidable.not_not, not_true_eq_false, not_false_eq_true, beq_self_eq_true, reduceCtorEq] at hb)) | (refine wc_if rfl (fun hb => ?_) (fun hb => dead_A hb); (try simp only [decide_eq_true_eq, decide_eq_false_iff_not, Bool.not_eq_true', Bool.not_eq_false', Int.not_lt, Int.not_le, Decidable.not_not, not_true_eq_false, not_false_eq_true, beq_self_eq_true, reduceCtorEq] at hb)) | refine wc_drawB (id := 6) 34 [0, 1, 3, 0, 0, 16, 48, 120, 255, 0, 0, 1536, 3584, 7680, 15872, 32767, 0, 65536, 196608, 0, 0, 1048576, 3145728, 7864320, 16711680, 0, 0, 100663296, 234881024, 503316480, 1040187392, 2147418112, 65535, 8589934591] [0, 1, 2, 3, 4, 5, 6, 7, 8, 9, 10, 11, 12, 13, 14, 15, 16, 17, 18, 19, 20, 21, 22, 23, 24, 25, 26, 27, 28, 29, 30, 31, 32, 33] (by kernel_rfl) (by kernel_rfl) rfl rfl ?_)
        all_goals exact rq1 rfl ⟨rfl, gr_A⟩
      · rw [decide_eq_false (fun q => h4 q.2)] at hPx
        rw [hPx, Bool.false_or] at hp
        clear hPx
        repeat' (first | with_reducible refine wo_nil ?_ | ((with_reducible refine wo_any ?_); first | ((with_reducible refine ik_move ?_); refine wo_op rfl (op_move rfl) rfl rfl ?_) | ((with_reducible refine ik_assign ?_); refine wo_op rfl (op_assign rfl) rfl rfl ?_) | ((with_reducible refine ik_indexAddr ?_); refine wo_op rfl (op_indexAddr rfl rfl i1) rfl rfl ?_) | ((with_reducible refine ik_load ?_); first | refine wo_op rfl (op_ldCell rfl Tryz.underlying3 rfl (it _ gr_A)) rfl rfl ?_ | refine wo_op rfl (op_ldAt rfl at_A Tryz.underlying3 rfl rfl) rfl rfl ?_) | ((with_reducible refine ik_callb ?_); refine wo_op rfl (op_lenSl rfl Tryz.underlying40) rfl rfl ?_) | ((with_reducible refine ik_bin ?_); first | refine wo_op rfl (op_lss rfl rfl) rfl rfl ?_ | refine wo_op rfl (op_sub' rfl rfl (w64 (by omega) (by omega))) rfl rfl ?_ | refine wo_op rfl (op_mul' rfl rfl (w64 (by omega) (by omega))) rfl rfl ?_ | refine wo_op rfl (op_add' rfl rfl (w64 (by omega) (by omega))) rfl rfl ?_ | refine wo_op rfl (op_leq rfl rfl) rfl rfl ?_) | ((with_reducible refine ik_fieldAddr ?_); first | refine wo_op rfl (op_fieldAddr (o := 0) rfl Tryz.underlying145 rfl zs3 rfl) rfl rfl ?_ | refine wo_op rfl (op_fieldAddr (o := 0) rfl Tryz.underlying39 rfl zs3 rfl) rfl rfl ?_ | refine wo_op rfl (op_fieldAddr (o := 1) rfl Tryz.underlying39 rfl zs3 rfl) rfl rfl ?_) | ((with_reducible refine ik_pick ?_); refine wo_op rfl (op_pickf rfl rfl) rfl rfl ?_) | ((with_reducible refine ik_g ?_); first | ((with_reducible refine ig_move ?_); refine wo_grun rfl rfl rfl (op_move rfl) rfl rfl ?_) | ((with_reducible refine ig_load ?_); refine wo_grun rfl rfl rfl (op_ldAt rfl at_A Tryz.underlying3 rfl rfl) rfl rfl ?_) | ((with_reducible refine ig_bin ?_); refine wo_grun rfl rfl rfl (op_gtr rfl rfl) rfl rfl ?_) | ((with_reducible refine ig_fieldAddr ?_); refine wo_grun rfl rfl rfl (op_fieldAddr (o := 2) rfl Tryz.underlying39 rfl zs3 rfl) rfl rfl ?_) | (refine wo_gsplit rfl rfl rfl (fun hb => dead_A hb) (fun hb => ?_); (try simp only [decide_eq_true_eq, decide_eq_false_iff_not, Bool.not_eq_true', Bool.not_eq_false', Int.not_lt, Int.not_le, Decidable.not_not, not_true_eq_false, not_false_eq_true, beq_self_eq_true, reduceCtorEq] at hb)))) | ((with_reducible refine xk_any ?_); ((with_reducible refine xk_as0 ?_); first | ((with_reducible refine xk_move ?_); refine wx_q (wt_none rfl) rfl rfl (op_q rfl (op_move rfl)) rfl rfl rfl ?_) | ((with_reducible refine xk_assign ?_); refine wx_q (wt_none rfl) rfl rfl (op_q rfl (op_assign rfl)) rfl rfl rfl ?_) | ((with_reducible refine xk_indexAddr ?_); refine wx_q (wt_none rfl) rfl rfl (op_q rfl (op_indexAddr rfl rfl i1)) rfl rfl rfl ?_) | ((with_reducible refine xk_load ?_); first | refine wx_h0 (wt_none rfl) rfl (op_q rfl (op_ldCell rfl Tryz.underlying3 rfl (ix _ gr_A))) rfl rfl rfl ?_ | refine wx_h0 (wt_none rfl) rfl (op_q rfl (op_ldCell rfl Tryz.underlying3 rfl (iy _ gr_A))) rfl rfl rfl ?_ | refine wx_h0 (wt_none rfl) rfl (op_q rfl (op_ldAt (b := h.nx) (off := 0) rfl at_A Tryz.underlying3 rfl rfl)) rfl rfl rfl ?_ | refine wx_h0 (wt_none rfl) rfl (op_q rfl (op_ldAt (b := h.nx) (off := 1) rfl at_A Tryz.underlying3 rfl rfl)) rfl rfl rfl ?_ | refine wx_h0 (wt_none rfl) rfl (op_q rfl (op_ldAt (b := h.nx) (off := 2) rfl at_A Tryz.underlying3 rfl rfl)) rfl rfl rfl ?_ | refine wx_h0 (wt_none rfl) rfl (op_q rfl (op_ldAt (b := h.nx) (off := 3) rfl at_A Tryz.underlying3 rfl rfl)) rfl rfl rfl ?_) | ((with_reducible refine xk_bin ?_); first | refine wx_q (wt_none rfl) rfl rfl (op_q rfl (op_sub' rfl rfl (w64 (by omega) (by omega)))) rfl rfl rfl ?_ | refine wx_q (wt_none rfl) rfl rfl (op_q rfl (op_mul' rfl rfl (w64 (by omega) (by omega)))) rfl rfl rfl ?_ | refine wx_q (wt_none rfl) rfl rfl (op_q rfl (op_add' rfl rfl (w64 (by omega) (by omega)))) rfl rfl rfl ?_) | ((with_reducible refine xk_fieldAddr ?_); first | refine wx_q (wt_none rfl) rfl rfl (op_q rfl (op_fieldAddr (o := 0) rfl Tryz.underlying37 rfl zs35 rfl)) rfl rfl rfl ?_ | refine wx_q (wt_none rfl) rfl rfl (op_q rfl (op_fieldAddr (o := 0) rfl Tryz.underlying35 rfl zs3 rfl)) rfl rfl rfl ?_ | refine wx_q (wt_none rfl) rfl rfl (op_q rfl (op_fieldAddr (o := 2) rfl Tryz.underlying37 rfl zs35 rfl)) rfl rfl rfl ?_ | refine wx_q (wt_none rfl) rfl rfl (op_q rfl (op_fieldAddr (o := 1) rfl Tryz.underlying145 rfl zs35 rfl)) rfl rfl rfl ?_ | refine wx_q (wt_none rfl) rfl rfl (op_q rfl (op_fieldAddr (o := 1) rfl Tryz.underlying35 rfl zs3 rfl)) rfl rfl rfl ?_) | with_reducible refine wx_nil0 ?_ ?_)) | with_reducible exact obl_nil | with_reducible refine obl_cons ?_ ?_ | ((with_reducible refine ik_obs ?_); first | exact obs_nil | refine obs_chkn rfl rfl (op_q rfl (op_ldCell rfl Tryz.underlying3 rfl (ix _ gr_A))) ?_ | refine obs_chkn rfl rfl (op_q rfl (op_ldCell rfl Tryz.underlying3 rfl (iy _ gr_A))) ?_ | refine obs_chkn rfl rfl (op_q rfl (op_ldAt (b := h.nx) (off := 0) rfl at_A Tryz.underlying3 rfl (by rfl))) ?_ | refine obs_chkn rfl rfl (op_q rfl (op_ldAt (b := h.nx) (off := 1) rfl at_A Tryz.underlying3 rfl (by rfl))) ?_ | refine obs_chkn rfl rfl (op_q rfl (op_ldAt (b := h.nx) (off := 2) rfl at_A Tryz.underlying3 rfl (by rfl))) ?_ | refine obs_chkn rfl rfl (op_q rfl (op_ldAt (b := h.nx) (off := 3) rfl at_A Tryz.underlying3 rfl (by rfl))) ?_) | with_reducible refine sq_norm ?_ | with_reducible refine wc_seq ?_ | with_reducible refine wc_region ?_ | with_reducible refine wc_skip ?_ | with_reducible refine wc_block ?_ | with_reducible refine bq_norm ?_ | (refine wc_if rfl (fun hb => dead_A hb) (fun hb => ?_); (try simp only [decide_eq_true_eq, decide_eq_false_iff_not, Bool.not_eq_true', Bool.not_eq_false', Int.not_lt, Int.not_le, Decidable.not_not, not_true_eq_false, not_false_eq_true, beq_self_eq_true, reduceCtorEq] at hb)) | (refine wc_if rfl (fun hb => ?_) (fun hb => dead_A hb); (try simp only [decide_eq_true_eq, decide_eq_false_iff_not, Bool.not_eq_true', Bool.not_eq_false', Int.not_lt, Int.not_le, Decidable.not_not, not_true_eq_false, not_false_eq_true, beq_self_eq_true, reduceCtorEq] at hb)) | refine wc_drawB (id := 6) 34 [0, 1, 3, 0, 0, 16, 48, 120, 255, 0, 0, 1536, 3584, 7680, 15872, 32767, 0, 65536, 196608, 0, 0, 1048576, 3145728, 7864320, 16711680, 0, 0, 100663296, 234881024, 503316480, 1040187392, 2147418112, 65535, 8589934591] [0, 1, 2, 3, 4, 5, 6, 7, 8, 9, 10, 11, 12, 13, 14, 15, 16, 17, 18, 19, 20, 21, 22, 23, 24, 25, 26, 27, 28, 29, 30, 31, 32, 33] (by kernel_rfl) (by kernel_rfl) rfl rfl ?_)
        all_goals exact lq_norm (i + 1) (by omega) (within_lk ⟨rfl, rfl, rfl, rfl, rfl, trivial⟩) ⟨⟨wf_A, gr_A⟩, ⟨at_A, at_A⟩, by omega, hp⟩
    · rw [decide_eq_false (fun q => h1 q.1)] at hPx
      rw [hPx, Bool.false_or] at hp
      clear hPx
      by_cases h2 : (k : Int) - st < 0
      · repeat' (first | with_reducible refine wo_nil ?_ | ((with_reducible refine wo_any ?_); first | ((with_reducible refine ik_move ?_); refine wo_op rfl (op_move rfl) rfl rfl ?_) | ((with_reducible refine ik_assign ?_); refine wo_op rfl (op_assign rfl) rfl rfl ?_) | ((with_reducible refine ik_indexAddr ?_); refine wo_op rfl (op_indexAddr rfl rfl i1) rfl rfl ?_) | ((with_reducible refine ik_load ?_); refine wo_op rfl (op_ldCell rfl Tryz.underlying3 rfl (it _ gr_A)) rfl rfl ?_) | ((with_reducible refine ik_callb ?_); refine wo_op rfl (op_lenSl rfl Tryz.underlying40) rfl rfl ?_) | ((with_reducible refine ik_bin ?_); first | refine wo_op rfl (op_lss rfl rfl) rfl rfl ?_ | refine wo_op rfl (op_sub' rfl rfl (w64 (by omega) (by omega))) rfl rfl ?_ | refine wo_op rfl (op_add' rfl rfl (w64 (by omega) (by omega))) rfl rfl ?_) | ((with_reducible refine ik_fieldAddr ?_); refine wo_op rfl (op_fieldAddr (o := 0) rfl Tryz.underlying145 rfl zs3 rfl) rfl rfl ?_) | ((with_reducible refine ik_pick ?_); refine wo_op rfl (op_pickt rfl rfl) rfl rfl ?_) | ((with_reducible refine ik_g ?_); first | refine wo_gskip rfl rfl rfl rfl rfl rfl ?_ | (refine wo_gsplit rfl rfl rfl (fun hb => ?_) (fun hb => dead_A hb); (try simp only [decide_eq_true_eq, decide_eq_false_iff_not, Bool.not_eq_true', Bool.not_eq_false', Int.not_lt, Int.not_le, Decidable.not_not, not_true_eq_false, not_false_eq_true, beq_self_eq_true, reduceCtorEq] at hb)))) | with_reducible refine sq_norm ?_ | with_reducible refine wc_seq ?_ | with_reducible refine wc_region ?_ | with_reducible refine wc_skip ?_ | with_reducible refine wc_exit ?_ | with_reducible refine wc_block ?_ | with_reducible refine sq_exit ?_ | refine bq_eq rfl ?_ | refine wc_ift rfl ?_ | (refine wc_if rfl (fun hb => ?_) (fun hb => dead_A hb); (try simp only [decide_eq_true_eq, decide_eq_false_iff_not, Bool.not_eq_true', Bool.not_eq_false', Int.not_lt, Int.not_le, Decidable.not_not, not_true_eq_false, not_false_eq_true, beq_self_eq_true, reduceCtorEq] at hb)))
        all_goals exact lq_norm (i + 1) (by omega) (within_lk ⟨rfl, rfl, rfl, rfl, rfl, trivial⟩) ⟨⟨wf_A, gr_A⟩, ⟨at_A, at_A⟩, by omega, hp⟩
      · have h3 : lo < (k : Int) - st := by omega
        clear h1
        repeat' (first | with_reducible refine wo_nil ?_ | ((with_reducible refine wo_any ?_); first | ((with_reducible refine ik_move ?_); refine wo_op rfl (op_move rfl) rfl rfl ?_) | ((with_reducible refine ik_assign ?_); refine wo_op rfl (op_assign rfl) rfl rfl ?_) | ((with_reducible refine ik_indexAddr ?_); refine wo_op rfl (op_indexAddr rfl rfl i1) rfl rfl ?_) | ((with_reducible refine ik_load ?_); refine wo_op rfl (op_ldCell rfl Tryz.underlying3 rfl (it _ gr_A)) rfl rfl ?_) | ((with_reducible refine ik_callb ?_); refine wo_op rfl (op_lenSl rfl Tryz.underlying40) rfl rfl ?_) | ((with_reducible refine ik_bin ?_); first | refine wo_op rfl (op_lss rfl rfl) rfl rfl ?_ | refine wo_op rfl (op_sub' rfl rfl (w64 (by omega) (by omega))) rfl rfl ?_ | refine wo_op rfl (op_add' rfl rfl (w64 (by omega) (by omega))) rfl rfl ?_) | ((with_reducible refine ik_fieldAddr ?_); refine wo_op rfl (op_fieldAddr (o := 0) rfl Tryz.underlying145 rfl zs3 rfl) rfl rfl ?_) | ((with_reducible refine ik_pick ?_); refine wo_op rfl (op_pickf rfl rfl) rfl rfl ?_) | ((with_reducible refine ik_g ?_); first | ((with_reducible refine ig_move ?_); refine wo_grun rfl rfl rfl (op_move rfl) rfl rfl ?_) | ((with_reducible refine ig_load ?_); refine wo_grun rfl rfl rfl (op_ldAt rfl at_A Tryz.underlying3 rfl rfl) rfl rfl ?_) | ((with_reducible refine ig_bin ?_); refine wo_grun rfl rfl rfl (op_gtr rfl rfl) rfl rfl ?_) | ((with_reducible refine ig_fieldAddr ?_); refine wo_grun rfl rfl rfl (op_fieldAddr (o := 2) rfl Tryz.underlying39 rfl zs3 rfl) rfl rfl ?_) | (refine wo_gsplit rfl rfl rfl (fun hb => dead_A hb) (fun hb => ?_); (try simp only [decide_eq_true_eq, decide_eq_false_iff_not, Bool.not_eq_true', Bool.not_eq_false', Int.not_lt, Int.not_le, Decidable.not_not, not_true_eq_false, not_false_eq_true, beq_self_eq_true, reduceCtorEq] at hb)))) | with_reducible refine sq_norm ?_ | with_reducible refine wc_seq ?_ | with_reducible refine wc_region ?_ | with_reducible refine wc_skip ?_ | with_reducible refine wc_exit ?_ | with_reducible refine wc_block ?_ | with_reducible refine sq_exit ?_ | refine bq_eq rfl ?_ | (refine wc_if rfl (fun hb => ?_) (fun hb => dead_A hb); (try simp only [decide_eq_true_eq, decide_eq_false_iff_not, Bool.not_eq_true', Bool.not_eq_false', Int.not_lt, Int.not_le, Decidable.not_not, not_true_eq_false, not_false_eq_true, beq_self_eq_true, reduceCtorEq] at hb)))
        all_goals exact lq_norm (i + 1) (by omega) (within_lk ⟨rfl, rfl, rfl, rfl, rfl, trivial⟩) ⟨⟨wf_A, gr_A⟩, ⟨at_A, at_A⟩, by omega, hp⟩
  · have hkn : i = n := by omega
    rw [List.drop_eq_nil_of_le (by omega)] at hp
    rw [← hp]
    subst hkn
    repeat' (first | with_reducible refine wo_nil ?_ | ((with_reducible refine wo_any ?_); first | ((with_reducible refine ik_move ?_); refine wo_op rfl (op_move rfl) rfl rfl ?_) | ((with_reducible refine ik_assign ?_); refine wo_op rfl (op_assign rfl) rfl rfl ?_) | ((with_reducible refine ik_callb ?_); refine wo_op rfl (op_lenSl rfl Tryz.underlying40) rfl rfl ?_) | ((with_reducible refine ik_bin ?_); refine wo_op rfl (op_lss rfl rfl) rfl rfl ?_)) | with_reducible refine sq_norm ?_ | with_reducible refine wc_seq ?_ | with_reducible refine wc_region ?_ | with_reducible refine wc_ret ?_ | with_reducible refine wc_exit ?_ | with_reducible refine sq_exit ?_ | with_reducible refine lq_exit ?_ | refine bq_eq rfl ?_ | (refine wc_if rfl (fun hb => ?_) (fun hb => ?_) <;> (try simp only [decide_eq_true_eq, decide_eq_false_iff_not, Bool.not_eq_true', Bool.not_eq_false', Int.not_lt, Int.not_le, Decidable.not_not, not_true_eq_false, not_false_eq_true, beq_self_eq_true, reduceCtorEq] at hb) <;> (try (exfalso; omega))))
    exact rq1 rfl ⟨rfl, gr_A⟩
end Go.Proofs.YtepomgdlihoipaaGreatDoor

/- Survey: lists of what may be inside, and of levels, by the reference; lists compared. -/
namespace Go.Proofs.YtepomgdlihoipaaGreatDoor
open Go Go.Ab Go.Fl
attribute [local irreducible] SeqQ BlkQ LpQ RetQ Wc Wo WD WX Op1 Op1q Op1a Cf Cl From
attribute [local irreducible] Ieee.Format.order Ieee.Format.read Ieee.Format.nearest Ieee.Format.write Ieee.Format.mul Ieee.Format.div Ieee.Format.sqrt Ieee.Datum.order Ieee.Datum.integral K U rngE errN ptE firstNZ vesE watE sgE sgsE allE hitB sqD insB qsL lvl
set_option maxRecDepth 10000
variable {G : Base} {h : H}

def inL (I : Nat → Bool) (T : Nat) : List Bool := (List.range T).map I
def leL (cl so : Int) (I : Nat → Bool) (T : Nat) : List Int := (List.range T).map fun i => lvl cl so (qt I (i + 1) : Int)
theorem inL_len {I : Nat → Bool} {T : Nat} : (inL I T).length = T := by simp [inL]
theorem leL_len {cl so : Int} {I : Nat → Bool} {T : Nat} : (leL cl so I T).length = T := by simp [leL]
theorem range_map_next {α : Type} {f : Nat → α} {k : Nat} : (List.range (k + 1)).map f = (List.range k).map f ++ [f k] := by rw [List.range_succ, List.map_append]; rfl
set_option maxHeartbeats 4000000 in
theorem c22 {x y u v r sp lo cl so : Int} {T : Nat} {w : Value} {n : Nat} {l : List Sg} (s : Sl G h 3 w n (l.flatMap Sg.cells)) (hl : l.length = n) (hn : n < 1000000) (hw : Wf h) (b1 : x.natAbs ≤ 100000) (b2 : y.natAbs ≤ 100000) (b3 : u.natAbs ≤ 1000) (b4 : v.natAbs ≤ 1000) (hT : T ≤ 4096) (hr : 0 ≤ r ∧ r ≤ 10000) (hs : 0 ≤ sp ∧ sp ≤ 1000) (hlo : 0 ≤ lo ∧ lo ≤ 1000) (hcl : 0 ≤ cl ∧ cl ≤ 1000) (hso : 0 ≤ so ∧ so ≤ 1000) (hall : ∀ p ∈ l, sgE p = 0) : Cf (mz G) (.func (.func 22) #[] #[]) [.agg ⟨[.int .i64 x, .int .i64 y, .int .i64 u, .int .i64 v, .int .i64 (T : Nat)]⟩, .agg ⟨[.int .i64 r, .int .i64 sp, .int .i64 lo, .int .i64 cl, .int .i64 so]⟩, w] h fun r' h' => Sl G h' 1 r' T ((inL (insB x y u v r sp lo l) T).map Value.bool) ∧ Grow h h' := by
  have qi := fun (h' : H) (k : Nat) (hk : k ≤ 4096) (g : Grow h h') (w' : Wf h') => c92 (t := (T : Nat)) (cl := cl) (so := so) (s.grow g) hl hn w' b1 b2 b3 b4 hk hr hs hlo hall (k := k)
  obtain ⟨a, c, rfl⟩ := s.form
  obtain ⟨I, hI⟩ : ∃ I, (insB x y u v r sp lo l) = I := ⟨_, rfl⟩
  rw [hI] at qi ⊢
  clear hI
  refine cf_enter0 24 [.tmp 6] Tryz.func22 rfl rfl rfl rfl ?_
  repeat' (first | with_reducible refine wo_nil ?_ | ((with_reducible refine wo_any ?_); first | ((with_reducible refine ik_assign ?_); refine wo_op rfl (op_assign rfl) rfl rfl ?_) | ((with_reducible refine ik_box ?_); refine wo_op rfl (op_boxAgg rfl zs37 rfl) rfl rfl ?_)) | with_reducible refine sq_norm ?_ | with_reducible refine wc_seq ?_ | with_reducible refine wc_region ?_ | with_reducible refine wc_block ?_)
  refine wc_loop (fun p : Nat × Value => T - p.1) (fun p => [(2, .slice a n c), (3, .pointer (some ⟨h.nx, 0, some 0⟩)), (4, .pointer (some ⟨h.nx + 1, 0, some 0⟩)), (7, p.2), (8, .int .i64 (p.1 : Nat))]) (fun p h' => (Wf h' ∧ Grow h h') ∧ (At h' h.nx (.cells [.int .i64 x, .int .i64 y, .int .i64 u, .int .i64 v, .int .i64 (T : Nat)] 37 5 false) ∧ At h' (h.nx + 1) (.cells [.int .i64 r, .int .i64 sp, .int .i64 lo, .int .i64 cl, .int .i64 so] 39 5 false)) ∧ p.1 ≤ T ∧ OutG (h.nx + 2) h' p.2 p.1 ((List.range p.1).map (fun i => Value.bool (I i))) 4 1) (0, .slice none 0 0) (within_lk ⟨rfl, rfl, rfl, rfl, rfl, trivial⟩) ⟨⟨wf_A, gr_A⟩, ⟨at_A, At.new _ _⟩, Nat.zero_le _, .inl ⟨rfl, rfl, rfl⟩⟩ ?_
  rintro ⟨k, v⟩ h1 ⟨⟨w1, g1⟩, ⟨a1, a2⟩, hk, hv⟩
  simp only at hk hv ⊢
  have n1 := g1.nx
  have l2 := a2.lt
  by_cases hlt : k < T
  · have qk := fun (h' : H) (g : Grow h1 h') (w' : Wf h') => qi h' k (by omega) (g1.trans g) w'
    have e1 := range_map_next (f := (fun i => Value.bool (I i))) (k := k)
    have hlen : ((List.range k).map (fun i => Value.bool (I i))).length = k * 1 := by simp
    obtain ⟨b, hb⟩ : ∃ b, I k = b := ⟨_, rfl⟩
    rw [hb] at qk e1
    rcases hv with ⟨rfl, rfl, hv⟩ | ⟨e, he, rfl, hat⟩
    · repeat' (first | with_reducible refine wo_nil ?_ | ((with_reducible refine wo_any ?_); first | ((with_reducible refine ik_move ?_); refine wo_op rfl (op_move rfl) rfl rfl ?_) | ((with_reducible refine ik_assign ?_); refine wo_op rfl (op_assign rfl) rfl rfl ?_) | ((with_reducible refine ik_callb ?_); refine wo_op rfl (op_append rfl rfl (append_nil_eq (M := mz G) (st := 42) (xt := 42) (m := 1) Tryz.underlying42 Tryz.underlying42 rfl zs4 zb4 zz4 rfl (Sl.ofAt at_A rfl (Nat.le_refl _)) rfl (by omega) (by omega))) rfl rfl ?_) | ((with_reducible refine ik_fieldAddr ?_); refine wo_op rfl (op_fieldAddr (o := 4) rfl Tryz.underlying37 rfl zs3 rfl) rfl rfl ?_) | ((with_reducible refine ik_load ?_); first | refine wo_op rfl (op_ldAt rfl at_A Tryz.underlying3 rfl rfl) rfl rfl ?_ | refine wo_op rfl (op_ldAgg rfl at_A Tryz.underlying37 rfl zs37 rfl rfl) rfl rfl ?_ | refine wo_op rfl (op_ldAgg rfl at_A Tryz.underlying39 rfl zs39 rfl rfl) rfl rfl ?_) | ((with_reducible refine ik_bin ?_); first | refine wo_op rfl (op_lss rfl rfl) rfl rfl ?_ | refine wo_op rfl (op_add' rfl rfl (w64 (by omega) (by omega))) rfl rfl ?_) | ((with_reducible refine ik_buildSlice ?_); refine wo_op rfl (op_buildSl rfl Tryz.underlying42 zs4 zz4 rfl rfl) rfl rfl ?_) | ((with_reducible refine ik_callv ?_); (refine wo_call rfl rfl rfl rfl (qk _ gr_A wf_A) rfl rfl ?_; rintro _ _ ⟨rfl, hq⟩; all_goals ((try (have hqn := hq.nx)); (try simp only [H.nx_push, H.nx_set, H.nx_bump] at hqn))))) | with_reducible refine sq_norm ?_ | with_reducible refine wc_seq ?_ | with_reducible refine wc_region ?_ | with_reducible refine wc_skip ?_ | with_reducible refine wc_block ?_ | with_reducible refine bq_norm ?_ | (refine wc_if rfl (fun hb => ?_) (fun hb => dead_A hb); (try simp only [decide_eq_true_eq, decide_eq_false_iff_not, Bool.not_eq_true', Bool.not_eq_false', Int.not_lt, Int.not_le, Decidable.not_not, not_true_eq_false, not_false_eq_true, beq_self_eq_true, reduceCtorEq] at hb)))
      exact lq_norm (0 + 1, .slice (some ⟨_, 0, some 0⟩) (0 + 1) (0 + 1)) (by simp only; omega) (within_lk ⟨rfl, rfl, rfl, rfl, rfl, trivial⟩) ⟨⟨wf_A, gr_A⟩, ⟨at_A, at_A⟩, by simp only; omega, .inr ⟨_, by simp only [H.nx_push, H.nx_set, H.nx_bump, H.nx_kill]; omega, rfl, by simp only; rw [e1, hv]; exact at_A⟩⟩
    · have l1 := hat.lt
      repeat' (first | with_reducible refine wo_nil ?_ | ((with_reducible refine wo_any ?_); first | ((with_reducible refine ik_move ?_); refine wo_op rfl (op_move rfl) rfl rfl ?_) | ((with_reducible refine ik_assign ?_); refine wo_op rfl (op_assign rfl) rfl rfl ?_) | ((with_reducible refine ik_callb ?_); refine wo_op rfl (op_append rfl rfl (append_own_eq (M := mz G) (st := 42) (xt := 42) (m := 1) Tryz.underlying42 Tryz.underlying42 rfl zs4 zb4 zz4 rfl (Sl.ofAt at_A rfl (Nat.le_refl _)) rfl (b := e) (c := (List.range k).map (fun i => Value.bool (I i))) at_A hlen (by omega) (by omega))) rfl rfl ?_) | ((with_reducible refine ik_fieldAddr ?_); refine wo_op rfl (op_fieldAddr (o := 4) rfl Tryz.underlying37 rfl zs3 rfl) rfl rfl ?_) | ((with_reducible refine ik_load ?_); first | refine wo_op rfl (op_ldAt rfl at_A Tryz.underlying3 rfl rfl) rfl rfl ?_ | refine wo_op rfl (op_ldAgg rfl at_A Tryz.underlying37 rfl zs37 rfl rfl) rfl rfl ?_ | refine wo_op rfl (op_ldAgg rfl at_A Tryz.underlying39 rfl zs39 rfl rfl) rfl rfl ?_) | ((with_reducible refine ik_bin ?_); first | refine wo_op rfl (op_lss rfl rfl) rfl rfl ?_ | refine wo_op rfl (op_add' rfl rfl (w64 (by omega) (by omega))) rfl rfl ?_) | ((with_reducible refine ik_buildSlice ?_); refine wo_op rfl (op_buildSl rfl Tryz.underlying42 zs4 zz4 rfl rfl) rfl rfl ?_) | ((with_reducible refine ik_callv ?_); (refine wo_call rfl rfl rfl rfl (qk _ gr_A wf_A) rfl rfl ?_; rintro _ _ ⟨rfl, hq⟩; all_goals ((try (have hqn := hq.nx)); (try simp only [H.nx_push, H.nx_set, H.nx_bump] at hqn))))) | with_reducible refine sq_norm ?_ | with_reducible refine wc_seq ?_ | with_reducible refine wc_region ?_ | with_reducible refine wc_skip ?_ | with_reducible refine wc_block ?_ | with_reducible refine bq_norm ?_ | (refine wc_if rfl (fun hb => ?_) (fun hb => dead_A hb); (try simp only [decide_eq_true_eq, decide_eq_false_iff_not, Bool.not_eq_true', Bool.not_eq_false', Int.not_lt, Int.not_le, Decidable.not_not, not_true_eq_false, not_false_eq_true, beq_self_eq_true, reduceCtorEq] at hb)))
      exact lq_norm (k + 1, .slice (some ⟨_, 0, some 0⟩) (k + 1) (k + 1)) (by simp only; omega) (within_lk ⟨rfl, rfl, rfl, rfl, rfl, trivial⟩) ⟨⟨wf_A, gr_A⟩, ⟨at_A, at_A⟩, by simp only; omega, .inr ⟨_, by simp only [H.nx_push, H.nx_set, H.nx_bump, H.nx_kill]; omega, rfl, by simp only; rw [e1]; exact at_A⟩⟩
  · have hkn : k = T := by omega
    subst hkn
    repeat' (first | with_reducible refine wo_nil ?_ | ((with_reducible refine wo_any ?_); first | ((with_reducible refine ik_move ?_); refine wo_op rfl (op_move rfl) rfl rfl ?_) | ((with_reducible refine ik_assign ?_); refine wo_op rfl (op_assign rfl) rfl rfl ?_) | ((with_reducible refine ik_fieldAddr ?_); refine wo_op rfl (op_fieldAddr (o := 4) rfl Tryz.underlying37 rfl zs3 rfl) rfl rfl ?_) | ((with_reducible refine ik_load ?_); refine wo_op rfl (op_ldAt rfl at_A Tryz.underlying3 rfl rfl) rfl rfl ?_) | ((with_reducible refine ik_bin ?_); refine wo_op rfl (op_lss rfl rfl) rfl rfl ?_)) | with_reducible refine sq_norm ?_ | with_reducible refine wc_seq ?_ | with_reducible refine wc_region ?_ | with_reducible refine wc_ret ?_ | with_reducible refine wc_exit ?_ | with_reducible refine sq_exit ?_ | with_reducible refine lq_exit ?_ | refine bq_eq rfl ?_ | (refine wc_if rfl (fun hb => ?_) (fun hb => ?_) <;> (try simp only [decide_eq_true_eq, decide_eq_false_iff_not, Bool.not_eq_true', Bool.not_eq_false', Int.not_lt, Int.not_le, Decidable.not_not, not_true_eq_false, not_false_eq_true, beq_self_eq_true, reduceCtorEq] at hb) <;> (try (exfalso; omega))))
    refine rq1 rfl ⟨?_, gr_A⟩
    have q := hv.sl (G := G) (by simp)
    unfold inL
    rw [List.map_map]
    exact q
end Go.Proofs.YtepomgdlihoipaaGreatDoor

/- Survey: what may be inside, and levels, by the program; lists compared. -/
namespace Go.Proofs.YtepomgdlihoipaaGreatDoor
open Go Go.Ab Go.Fl
attribute [local irreducible] SeqQ BlkQ LpQ RetQ Wc Wo WD WX Op1 Op1q Op1a Cf Cl From
attribute [local irreducible] Ieee.Format.order Ieee.Format.read Ieee.Format.nearest Ieee.Format.write Ieee.Format.mul Ieee.Format.div Ieee.Format.sqrt Ieee.Datum.order Ieee.Datum.integral K U rngE errN ptE firstNZ vesE watE sgE sgsE allE hitB sqD insB qsL lvl
set_option maxRecDepth 10000
variable {G : Base} {h : H}

theorem errN_all {f : Nat → Int} {n k : Nat} (h : errN f n = 0) (hk : k < n) : f k = 0 := by
  by_cases q : f k = 0
  · exact q
  · exfalso
    have hz : errN f k = 0 := by
      by_cases z : errN f k = 0
      · exact z
      · rw [errN_hit (by omega) z] at h; exact absurd h z
    have nx := errN_next hz
    have := errN_hit (f := f) (k := k + 1) (n := n) (by omega) (by rw [nx]; exact q)
    rw [h, nx] at this
    exact q this.symm
theorem sgs_ok {l : List Sg} (h : sgsE l = 0) : l.length ≤ 64 ∧ ∀ p ∈ l, sgE p = 0 := by
  unfold sgsE at h
  split at h
  · cases h
  · refine ⟨by omega, fun p hp => ?_⟩
    obtain ⟨i, hi, rfl⟩ := List.getElem_of_mem hp
    have a := errN_all h hi
    unfold sucA at a
    rw [show l.getD i ⟨0, 0, 0⟩ = l[i] by simp [List.getD, List.getElem?_eq_getElem hi]] at a
    by_cases q : sgE l[i] = 0
    · exact q
    · rw [if_pos q] at a; exact a
theorem all_ok {x y u v t r sp lo cl so : Int} {l : List Sg} (h : allE x y u v t r sp lo cl so l = 0) : (x.natAbs ≤ 100000 ∧ y.natAbs ≤ 100000) ∧ (u.natAbs ≤ 1000 ∧ v.natAbs ≤ 1000) ∧ (1 ≤ t ∧ t ≤ 4096) ∧ (0 ≤ r ∧ r ≤ 10000) ∧ (0 ≤ sp ∧ sp ≤ 1000) ∧ (0 ≤ lo ∧ lo ≤ 1000) ∧ (0 ≤ cl ∧ cl ≤ 1000) ∧ (0 ≤ so ∧ so ≤ 1000) ∧ l.length ≤ 64 ∧ ∀ p ∈ l, sgE p = 0 := by
  unfold allE at h
  have a := firstNZ_zero h
  obtain ⟨⟨v1, v2⟩, ⟨v3, v4⟩, v5, v6⟩ := ves_ok (a (vesE x y u v t) (by simp))
  obtain ⟨w1, w2, w3, w4, w5⟩ := wat_ok (a (watE r sp lo cl so) (by simp))
  obtain ⟨s1, s2⟩ := sgs_ok (a (sgsE l) (by simp))
  exact ⟨⟨by omega, by omega⟩, ⟨by omega, by omega⟩, ⟨v5, v6⟩, w1, w2, w3, w4, w5, s1, s2⟩
def insN (x y u v t r sp lo cl so : Int) (l : List Sg) : List Bool := if allE x y u v t r sp lo cl so l = 0 then inL (insB x y u v r sp lo l) t.toNat else []
def levN (x y u v t r sp lo cl so : Int) (l : List Sg) : List Int := if allE x y u v t r sp lo cl so l = 0 then leL cl so (insB x y u v r sp lo l) t.toNat else []
theorem qs_in {I : Nat → Bool} {T : Nat} : (qsL I T).map (fun q => decide (q = 0)) = inL I T := by
  unfold qsL inL
  rw [List.map_map]
  apply List.map_congr_left
  intro i _
  show decide ((qt I (i + 1) : Int) = 0) = I i
  rw [qt]
  cases I i with
  | true => rfl
  | false => exact decide_eq_false (by simp; omega)
theorem qs_le {cl so : Int} {I : Nat → Bool} {T : Nat} : (qsL I T).map (lvl cl so) = leL cl so I T := by
  unfold qsL leL
  rw [List.map_map]
  rfl
theorem qs_mem {I : Nat → Bool} {T : Nat} {q : Int} (h : q ∈ qsL I T) : 0 ≤ q ∧ q ≤ T := by
  unfold qsL at h
  obtain ⟨i, hi, rfl⟩ := List.mem_map.1 h
  have := qt_le I (i + 1)
  have := List.mem_range.1 hi
  omega
theorem in_atV {α : Type} (K : α → Value) (d : α) {v : Value} {n : Nat} {l : List α} (s : Sl G h 1 v n (l.map K)) {st et : TypeId} (hu : Tryz.prog.underlying st = some (.slice et)) (hz : tsz Tryz.prog et = some 1) {i : Int} {q : Nat} (hq : q < n) (hi : i = (q : Int)) :
    ∃ ad, aindexAddr Tryz.prog st v (.int .i64 i) = some (.pointer (some ad)) ∧ ∀ h', Grow h h' → acell G h' ad = some (K (l.getD q d)) := by
  have hl := s.length
  rw [List.length_map, Nat.mul_one] at hl
  rw [List.map_eq_flatMap] at s
  obtain ⟨ad, h1, h2⟩ := rl_at (f := fun a => [K a]) (fun _ => rfl) d s hl hu hz hq hi
  exact ⟨ad, h1, fun h' g => (h2 h' g).get 0 _ rfl⟩
set_option maxHeartbeats 4000000 in
theorem c17 {x y u v t r sp lo cl so : Int} {w : Value} {n : Nat} {l : List Sg} (s : Sl G h 3 w n (l.flatMap Sg.cells)) (hl : l.length = n) (hn : n < 1000000) (hw : Wf h) : Cf (mz G) (.func (.func 17) #[] #[]) [.agg ⟨[.int .i64 x, .int .i64 y, .int .i64 u, .int .i64 v, .int .i64 t]⟩, .agg ⟨[.int .i64 r, .int .i64 sp, .int .i64 lo, .int .i64 cl, .int .i64 so]⟩, w] h fun r' h' => (∃ X, r' = .tuple #[X, .int .i64 (allE x y u v t r sp lo cl so l)] ∧ Sl G h' 1 X (insN x y u v t r sp lo cl so l).length ((insN x y u v t r sp lo cl so l).map Value.bool)) ∧ Grow h h' := by
  have q81 := fun (h' : H) (g : Grow h h') (w' : Wf h') => c81 (x := x) (y := y) (u := u) (v := v) (t := t) (r := r) (sp := sp) (lo := lo) (cl := cl) (so := so) (s.grow g) hl hn w'
  by_cases he : allE x y u v t r sp lo cl so l = 0
  · rw [he] at q81 ⊢
    have hN : insN x y u v t r sp lo cl so l = inL (insB x y u v r sp lo l) t.toNat := by unfold insN; rw [if_pos he]
    obtain ⟨⟨b1, b2⟩, ⟨b3, b4⟩, ⟨bt, bT⟩, hr, hs, hlo, hcl, hso, hlen, hall⟩ := all_ok he
    obtain ⟨T, rfl⟩ : ∃ T : Nat, t = T := ⟨t.toNat, by omega⟩
    rw [Int.toNat_natCast] at hN
    rw [hN, inL_len]
    have hT : T ≤ 4096 := by omega
    have q83 := fun (h' : H) (g : Grow h h') (w' : Wf h') => c83 (cl := cl) (so := so) (T := T) (s.grow g) hl hn w' b1 b2 b3 b4 hT hr hs hlo hall
    have q82 := fun (h' : H) (b : Nat) (hat : At h' b (.cells ((qsL (insB x y u v r sp lo l) T).flatMap (stC r sp lo cl so)) 157 6 false)) (w' : Wf h') => c82 (f := 84) (fun q => decide (q = 0)) (Sl.ofAt (G := G) hat (by rw [flat_len (stC_len r sp lo cl so), qsL_len]) (Nat.le_refl T)) qsL_len (by omega) w' (fun h2 q w2 m => c84 w2)
    rw [qs_in] at q82
    clear hN he hall
    obtain ⟨a, c, rfl⟩ := s.form
    refine cf_enter0 21 [.tmp 6, .tmp 7] Tryz.func17 rfl rfl rfl rfl ?_
    repeat' (first | with_reducible refine wo_nil ?_ | ((with_reducible refine wo_any ?_); first | ((with_reducible refine ik_move ?_); refine wo_op rfl (op_move rfl) rfl rfl ?_) | ((with_reducible refine ik_assign ?_); refine wo_op rfl (op_assign rfl) rfl rfl ?_) | ((with_reducible refine ik_box ?_); refine wo_op rfl (op_boxAgg rfl zs45 rfl) rfl rfl ?_) | ((with_reducible refine ik_load ?_); first | refine wo_op rfl (op_ldAgg rfl at_A Tryz.underlying45 rfl zs45 rfl rfl) rfl rfl ?_ | refine wo_op rfl (op_ldAgg rfl at_A Tryz.underlying46 rfl zs46 rfl rfl) rfl rfl ?_) | ((with_reducible refine ik_bin ?_); refine wo_op rfl (op_neq rfl rfl) rfl rfl ?_) | ((with_reducible refine ik_callv ?_); first | (refine wo_call rfl rfl rfl rfl (q81 _ gr_A wf_A) rfl rfl ?_; rintro _ _ ⟨rfl, hq⟩; all_goals ((try (have hqn := hq.nx)); (try simp only [H.nx_push, H.nx_set, H.nx_bump] at hqn))) | (refine wo_call rfl rfl rfl rfl (q83 _ gr_A wf_A) rfl rfl ?_; rintro _ _ ⟨⟨bb, rfl, atb⟩, hq⟩; all_goals ((try (have hqn := hq.nx)); (try simp only [H.nx_push, H.nx_set, H.nx_bump] at hqn))) | (refine wo_call rfl rfl rfl rfl (q82 _ _ at_A wf_A) rfl rfl ?_; rintro _ _ ⟨rfl, atr, hq⟩; all_goals ((try (have hqn := hq.nx)); (try simp only [H.nx_push, H.nx_set, H.nx_bump] at hqn))))) | with_reducible refine sq_norm ?_ | with_reducible refine wc_seq ?_ | with_reducible refine wc_region ?_ | with_reducible refine wc_skip ?_ | with_reducible refine wc_ret ?_ | refine wc_iff rfl ?_)
    exact rq2 rfl rfl ⟨⟨_, rfl, Sl.ofAt (by unfold inL at *; exact at_A) (by simp [inL_len]) (Nat.le_refl _)⟩, gr_A⟩
  · have hN : insN x y u v t r sp lo cl so l = [] := by unfold insN; rw [if_neg he]
    rw [hN]
    generalize allE x y u v t r sp lo cl so l = E at q81 he ⊢
    obtain ⟨a, c, rfl⟩ := s.form
    refine cf_enter0 21 [.tmp 6, .tmp 7] Tryz.func17 rfl rfl rfl rfl ?_
    repeat' (first | with_reducible refine wo_nil ?_ | ((with_reducible refine wo_any ?_); first | ((with_reducible refine ik_move ?_); refine wo_op rfl (op_move rfl) rfl rfl ?_) | ((with_reducible refine ik_assign ?_); refine wo_op rfl (op_assign rfl) rfl rfl ?_) | ((with_reducible refine ik_box ?_); refine wo_op rfl (op_boxAgg rfl zs45 rfl) rfl rfl ?_) | ((with_reducible refine ik_load ?_); first | refine wo_op rfl (op_ldAgg rfl at_A Tryz.underlying45 rfl zs45 rfl rfl) rfl rfl ?_ | refine wo_op rfl (op_ldAgg rfl at_A Tryz.underlying46 rfl zs46 rfl rfl) rfl rfl ?_) | ((with_reducible refine ik_bin ?_); refine wo_op rfl (op_neq rfl rfl) rfl rfl ?_) | ((with_reducible refine ik_callv ?_); (refine wo_call rfl rfl rfl rfl (q81 _ gr_A wf_A) rfl rfl ?_; rintro _ _ ⟨rfl, hq⟩; all_goals ((try (have hqn := hq.nx)); (try simp only [H.nx_push, H.nx_set, H.nx_bump] at hqn))))) | with_reducible refine sq_norm ?_ | with_reducible refine wc_seq ?_ | with_reducible refine wc_region ?_ | with_reducible refine wc_ret ?_ | with_reducible refine sq_ret ?_ | (refine wc_if rfl (fun hb => ?_) (fun hb => dead_A hb); (try simp only [decide_eq_true_eq, decide_eq_false_iff_not, Bool.not_eq_true', Bool.not_eq_false', Int.not_lt, Int.not_le, Decidable.not_not, not_true_eq_false, not_false_eq_true, beq_self_eq_true, reduceCtorEq] at hb)))
    exact rq2 rfl rfl ⟨⟨_, rfl, .nil⟩, gr_A⟩
set_option maxHeartbeats 4000000 in
theorem c19 {x y u v t r sp lo cl so : Int} {w : Value} {n : Nat} {l : List Sg} (s : Sl G h 3 w n (l.flatMap Sg.cells)) (hl : l.length = n) (hn : n < 1000000) (hw : Wf h) : Cf (mz G) (.func (.func 19) #[] #[]) [.agg ⟨[.int .i64 x, .int .i64 y, .int .i64 u, .int .i64 v, .int .i64 t]⟩, .agg ⟨[.int .i64 r, .int .i64 sp, .int .i64 lo, .int .i64 cl, .int .i64 so]⟩, w] h fun r' h' => (∃ X, r' = .tuple #[X, .int .i64 (allE x y u v t r sp lo cl so l)] ∧ Sl G h' 1 X (levN x y u v t r sp lo cl so l).length ((levN x y u v t r sp lo cl so l).map (Value.int .i64))) ∧ Grow h h' := by
  have q81 := fun (h' : H) (g : Grow h h') (w' : Wf h') => c81 (x := x) (y := y) (u := u) (v := v) (t := t) (r := r) (sp := sp) (lo := lo) (cl := cl) (so := so) (s.grow g) hl hn w'
  by_cases he : allE x y u v t r sp lo cl so l = 0
  · rw [he] at q81 ⊢
    have hN : levN x y u v t r sp lo cl so l = leL cl so (insB x y u v r sp lo l) t.toNat := by unfold levN; rw [if_pos he]
    obtain ⟨⟨b1, b2⟩, ⟨b3, b4⟩, ⟨bt, bT⟩, hr, hs, hlo, hcl, hso, hlen, hall⟩ := all_ok he
    obtain ⟨T, rfl⟩ : ∃ T : Nat, t = T := ⟨t.toNat, by omega⟩
    rw [Int.toNat_natCast] at hN
    rw [hN, leL_len]
    have hT : T ≤ 4096 := by omega
    have q83 := fun (h' : H) (g : Grow h h') (w' : Wf h') => c83 (cl := cl) (so := so) (T := T) (s.grow g) hl hn w' b1 b2 b3 b4 hT hr hs hlo hall
    have q82 := fun (h' : H) (b : Nat) (hat : At h' b (.cells ((qsL (insB x y u v r sp lo l) T).flatMap (stC r sp lo cl so)) 157 6 false)) (w' : Wf h') => c85 (f := 86) (lvl cl so) (Sl.ofAt (G := G) hat (by rw [flat_len (stC_len r sp lo cl so), qsL_len]) (Nat.le_refl T)) qsL_len (by omega) w' (fun h2 q w2 m => c86 (by have := qs_mem m; omega) hcl hso w2)
    rw [qs_le] at q82
    clear hN he hall
    obtain ⟨a, c, rfl⟩ := s.form
    refine cf_enter0 21 [.tmp 6, .tmp 7] Tryz.func19 rfl rfl rfl rfl ?_
    repeat' (first | with_reducible refine wo_nil ?_ | ((with_reducible refine wo_any ?_); first | ((with_reducible refine ik_move ?_); refine wo_op rfl (op_move rfl) rfl rfl ?_) | ((with_reducible refine ik_assign ?_); refine wo_op rfl (op_assign rfl) rfl rfl ?_) | ((with_reducible refine ik_box ?_); refine wo_op rfl (op_boxAgg rfl zs45 rfl) rfl rfl ?_) | ((with_reducible refine ik_load ?_); first | refine wo_op rfl (op_ldAgg rfl at_A Tryz.underlying45 rfl zs45 rfl rfl) rfl rfl ?_ | refine wo_op rfl (op_ldAgg rfl at_A Tryz.underlying46 rfl zs46 rfl rfl) rfl rfl ?_) | ((with_reducible refine ik_bin ?_); refine wo_op rfl (op_neq rfl rfl) rfl rfl ?_) | ((with_reducible refine ik_callv ?_); first | (refine wo_call rfl rfl rfl rfl (q81 _ gr_A wf_A) rfl rfl ?_; rintro _ _ ⟨rfl, hq⟩; all_goals ((try (have hqn := hq.nx)); (try simp only [H.nx_push, H.nx_set, H.nx_bump] at hqn))) | (refine wo_call rfl rfl rfl rfl (q83 _ gr_A wf_A) rfl rfl ?_; rintro _ _ ⟨⟨bb, rfl, atb⟩, hq⟩; all_goals ((try (have hqn := hq.nx)); (try simp only [H.nx_push, H.nx_set, H.nx_bump] at hqn))) | (refine wo_call rfl rfl rfl rfl (q82 _ _ at_A wf_A) rfl rfl ?_; rintro _ _ ⟨rfl, atr, hq⟩; all_goals ((try (have hqn := hq.nx)); (try simp only [H.nx_push, H.nx_set, H.nx_bump] at hqn))))) | with_reducible refine sq_norm ?_ | with_reducible refine wc_seq ?_ | with_reducible refine wc_region ?_ | with_reducible refine wc_skip ?_ | with_reducible refine wc_ret ?_ | refine wc_iff rfl ?_)
    exact rq2 rfl rfl ⟨⟨_, rfl, Sl.ofAt (by unfold leL at *; exact at_A) (by simp [leL_len]) (Nat.le_refl _)⟩, gr_A⟩
  · have hN : levN x y u v t r sp lo cl so l = [] := by unfold levN; rw [if_neg he]
    rw [hN]
    generalize allE x y u v t r sp lo cl so l = E at q81 he ⊢
    obtain ⟨a, c, rfl⟩ := s.form
    refine cf_enter0 21 [.tmp 6, .tmp 7] Tryz.func19 rfl rfl rfl rfl ?_
    repeat' (first | with_reducible refine wo_nil ?_ | ((with_reducible refine wo_any ?_); first | ((with_reducible refine ik_move ?_); refine wo_op rfl (op_move rfl) rfl rfl ?_) | ((with_reducible refine ik_assign ?_); refine wo_op rfl (op_assign rfl) rfl rfl ?_) | ((with_reducible refine ik_box ?_); refine wo_op rfl (op_boxAgg rfl zs45 rfl) rfl rfl ?_) | ((with_reducible refine ik_load ?_); first | refine wo_op rfl (op_ldAgg rfl at_A Tryz.underlying45 rfl zs45 rfl rfl) rfl rfl ?_ | refine wo_op rfl (op_ldAgg rfl at_A Tryz.underlying46 rfl zs46 rfl rfl) rfl rfl ?_) | ((with_reducible refine ik_bin ?_); refine wo_op rfl (op_neq rfl rfl) rfl rfl ?_) | ((with_reducible refine ik_callv ?_); (refine wo_call rfl rfl rfl rfl (q81 _ gr_A wf_A) rfl rfl ?_; rintro _ _ ⟨rfl, hq⟩; all_goals ((try (have hqn := hq.nx)); (try simp only [H.nx_push, H.nx_set, H.nx_bump] at hqn))))) | with_reducible refine sq_norm ?_ | with_reducible refine wc_seq ?_ | with_reducible refine wc_region ?_ | with_reducible refine wc_ret ?_ | with_reducible refine sq_ret ?_ | (refine wc_if rfl (fun hb => ?_) (fun hb => dead_A hb); (try simp only [decide_eq_true_eq, decide_eq_false_iff_not, Bool.not_eq_true', Bool.not_eq_false', Int.not_lt, Int.not_le, Decidable.not_not, not_true_eq_false, not_false_eq_true, beq_self_eq_true, reduceCtorEq] at hb)))
    exact rq2 rfl rfl ⟨⟨_, rfl, .nil⟩, gr_A⟩
end Go.Proofs.YtepomgdlihoipaaGreatDoor
