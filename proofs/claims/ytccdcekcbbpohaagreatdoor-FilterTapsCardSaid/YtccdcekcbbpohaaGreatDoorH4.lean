/- Taps applied by the reference, and their adjoint. -/
import Derived.Test.YtccdcekcbbpohaaGreatDoorH1
import Derived.Test.YtccdcekcbbpohaaGreatDoorH0
import Derived.Test.YtccdcekcbbpohaaGreatDoorH3
set_option linter.all false
/- Taps applied, by the reference. -/
namespace Go.Proofs.YtccdcekcbbpohaaGreatDoor
open Go Go.Ab Go.Fl
attribute [local irreducible] SeqQ BlkQ LpQ RetQ Wc Wo WD WX Op1 Op1q Op1a Cf Cl From
attribute [local irreducible] Ieee.Format.order Ieee.Format.read Ieee.Format.nearest Ieee.Format.write Ieee.Format.mul Ieee.Format.div Ieee.Datum.order Ieee.Datum.integral smpE smp smpW K J U sumN lchk tchk trE hdrE appL
set_option maxRecDepth 10000
variable {G : Base} {h : H}

theorem sumN_b {f : Nat → Int} {B : Nat} (h : ∀ k, (f k).natAbs ≤ B) : ∀ j, (sumN j f).natAbs ≤ j * B
  | 0 => by unfold sumN; simp
  | j + 1 => by
    have ih := sumN_b h j
    have h2 := h j
    unfold sumN
    rw [Nat.succ_mul]
    omega
theorem appv_b {t l : List Int} (ht : ∀ x ∈ t, x.natAbs ≤ 16) (hl : ∀ x ∈ l, x.natAbs ≤ 16384) (i k : Nat) : (appv t l i k).natAbs ≤ 16 * 16384 := app_bound ht hl i k
def advv (t l : List Int) (n k : Nat) : Int := if n + k < l.length then t.getD k 0 * l.getD (n + k) 0 else 0
theorem advv_b {t l : List Int} (ht : ∀ x ∈ t, x.natAbs ≤ 16) (hl : ∀ x ∈ l, x.natAbs ≤ 16384) (i k : Nat) : (advv t l i k).natAbs ≤ 16 * 16384 := by
  unfold advv
  split
  · exact prod_bound (getD_bound ht _) (getD_bound hl _)
  · simp
theorem adj_row (t l : List Int) : adjL t l = (List.range l.length).map fun n => sumN t.length (advv t l n) := by
  unfold adjL appL
  apply List.ext_getElem
  · simp
  · intro i h1 h2
    simp at h1 h2
    rw [List.getElem_reverse]
    simp only [List.getElem_map, List.getElem_range, List.length_map, List.length_range, List.length_reverse]
    congr 1
    funext k
    unfold appv advv
    by_cases hk : i + k < l.length
    · rw [if_pos (by omega), if_pos hk]
      congr 1
      rw [← getElem_getD (by simp; omega), List.getElem_reverse, ← getElem_getD hk]
      congr 1
      omega
    · rw [if_neg (by omega), if_neg hk]
set_option maxHeartbeats 4000000 in
theorem c26 {v w : Value} {n m : Nat} {t l : List Int} (s : Sl G h 1 v m (t.map (.int .i64))) (u : Sl G h 1 w n (l.map (.int .i64))) (hn : n < 1000000) (hm2 : m ≤ 64) (ht0 : ∀ x ∈ t, x.natAbs ≤ 16) (hl0 : ∀ x ∈ l, x.natAbs ≤ 16384) (hw : Wf h) :
    Cf (mz G) (.func (.func 26) #[] #[]) [v, w] h fun r h' => (∃ a c, r = .slice a n c ∧ Sl G h' 1 (.slice a n c) n ((appL t l).map (.int .i64))) ∧ Grow h h' := by
  obtain ⟨a, c, rfl⟩ := s.form
  obtain ⟨b, d, rfl⟩ := u.form
  have ht := s.length
  have hl := u.length
  simp at hl ht
  have hres : appL t l = (List.range n).map fun i => sumN m (appv t l i) := by rw [← hl, ← ht]; unfold appL; rfl
  rw [hres]
  obtain ⟨F, hF⟩ : ∃ F : Nat → Int, (fun i => sumN m (appv t l i)) = F := ⟨_, rfl⟩
  have hFi : ∀ i, F i = sumN m (appv t l i) := fun i => by rw [← hF]
  rw [hF]
  refine cf_enter0 44 [.tmp 4] Tryz.func26 rfl rfl rfl rfl ?_
  repeat' (first | with_reducible refine wo_nil ?_ | ((with_reducible refine wo_any ?_); ((with_reducible refine ik_assign ?_); refine wo_op rfl (op_assign rfl) rfl rfl ?_)) | with_reducible refine sq_norm ?_ | with_reducible refine wc_seq ?_ | with_reducible refine wc_region ?_ | with_reducible refine wc_block ?_)
  refine wc_loop (fun p : Nat × Value => n - p.1) (fun p => [(0, .slice a m c), (1, .slice b n d), (5, p.2), (6, .int .i64 (p.1 : Nat))]) (fun p h' => (Wf h' ∧ Ow h h' 3 1 p.2 p.1 (((List.range p.1).map F).map (.int .i64))) ∧ p.1 ≤ n) (0, .slice none 0 0) (within_lk ⟨rfl, rfl, rfl, rfl, trivial⟩) ⟨⟨hw, .nil (.refl _)⟩, Nat.zero_le _⟩ ?_
  rintro ⟨i, r⟩ h1 ⟨⟨w1, ow⟩, hi⟩
  simp only at ow hi ⊢
  have g2 := ow.grow
  by_cases hlt : i < n
  · have hsr := ow.sl (G := G)
    obtain ⟨a3, c3, rfl⟩ := hsr.form
    repeat' (first | with_reducible refine wo_nil ?_ | ((with_reducible refine wo_any ?_); first | ((with_reducible refine ik_move ?_); refine wo_op rfl (op_move rfl) rfl rfl ?_) | ((with_reducible refine ik_assign ?_); refine wo_op rfl (op_assign rfl) rfl rfl ?_) | ((with_reducible refine ik_callb ?_); refine wo_op rfl (op_lenSl rfl Tryz.underlying22) rfl rfl ?_) | ((with_reducible refine ik_bin ?_); refine wo_op rfl (op_lss rfl rfl) rfl rfl ?_)) | with_reducible refine sq_norm ?_ | with_reducible refine wc_seq ?_ | with_reducible refine wc_region ?_ | with_reducible refine wc_skip ?_ | with_reducible refine wc_block ?_ | (refine wc_if rfl (fun hb => ?_) (fun hb => dead_A hb); (try simp only [decide_eq_true_eq, decide_eq_false_iff_not, Bool.not_eq_true', Bool.not_eq_false', Int.not_lt, Int.not_le, Decidable.not_not, not_true_eq_false, not_false_eq_true, beq_self_eq_true, reduceCtorEq] at hb)))
    refine wc_loop (fun j : Nat => m - j) (fun j => [(0, .slice a m c), (1, .slice b n d), (5, .slice a3 i c3), (6, .int .i64 (i : Nat)), (7, .int .i64 (sumN j (appv t l i))), (8, .int .i64 (j : Nat))]) (fun j h' => (Wf h' ∧ Ow h h' 3 1 (.slice a3 i c3) i (((List.range i).map F).map (.int .i64))) ∧ j ≤ m ∧ j ≤ i + 1) 0 (within_lk ⟨rfl, rfl, rfl, rfl, by rw [sumN]; rfl, rfl, trivial⟩) ⟨⟨w1, ow⟩, Nat.zero_le _, by omega⟩ ?_
    clear ow w1 g2 hsr
    rintro j ha ⟨⟨wa, ow⟩, hj1, hj2⟩
    have g2 := ow.grow
    have hub := sumN_b (f := appv t l i) (B := 262144) (fun k => by have := appv_b ht0 hl0 i k; omega) j
    by_cases hjl : j < m ∧ j ≤ i
    · obtain ⟨hm1, hi1⟩ := hjl
      have hst : sumN (j + 1) (appv t l i) = sumN j (appv t l i) + t.getD j 0 * l.getD (i - j) 0 := by
        rw [sumN]
        congr 1
        unfold appv; rw [if_pos (by omega)]
      have hpb := prod_bound (getD_bound ht0 j) (getD_bound hl0 (i - j))
      obtain ⟨d2, j1, j3⟩ := slI_at (s.grow g2) (i := (j : Int)) (q := j) hm1 rfl
      obtain ⟨d3, k1, k3⟩ := slI_at (u.grow g2) (i := (i : Int) - (j : Int)) (q := i - j) (by omega) (by omega)
      obtain ⟨U, hU⟩ : ∃ z, sumN j (appv t l i) = z := ⟨_, rfl⟩
      obtain ⟨A, hA⟩ : ∃ z, t.getD j 0 = z := ⟨_, rfl⟩
      obtain ⟨B, hB⟩ : ∃ z, l.getD (i - j) 0 = z := ⟨_, rfl⟩
      rw [hA] at j3 hst hpb
      rw [hB] at k3 hst hpb
      rw [hU] at hub hst ⊢
      have o1 : IntKind.wrap .i64 (A * B) = A * B := w64 (by omega) (by omega)
      have o2 : IntKind.wrap .i64 (U + A * B) = U + A * B := w64 (by omega) (by omega)
      repeat' (first | with_reducible refine wo_nil ?_ | ((with_reducible refine wo_any ?_); first | ((with_reducible refine ik_move ?_); refine wo_op rfl (op_move rfl) rfl rfl ?_) | ((with_reducible refine ik_assign ?_); refine wo_op rfl (op_assign rfl) rfl rfl ?_) | ((with_reducible refine ik_bin ?_); first | refine wo_op rfl (op_lss rfl rfl) rfl rfl ?_ | refine wo_op rfl (op_add' rfl rfl (w64 (by omega) (by omega))) rfl rfl ?_) | ((with_reducible refine ik_callb ?_); refine wo_op rfl (op_lenSl rfl Tryz.underlying22) rfl rfl ?_) | ((with_reducible refine ik_pick ?_); refine wo_op rfl (op_pickt rfl rfl) rfl rfl ?_) | ((with_reducible refine ik_g ?_); first | ((with_reducible refine ig_move ?_); refine wo_grun rfl rfl rfl (op_move rfl) rfl rfl ?_) | ((with_reducible refine ig_bin ?_); refine wo_grun rfl rfl rfl (op_leq rfl rfl) rfl rfl ?_) | (refine wo_gsplit rfl rfl rfl (fun hb => ?_) (fun hb => dead_A hb); (try simp only [decide_eq_true_eq, decide_eq_false_iff_not, Bool.not_eq_true', Bool.not_eq_false', Int.not_lt, Int.not_le, Decidable.not_not, not_true_eq_false, not_false_eq_true, beq_self_eq_true, reduceCtorEq] at hb)))) | ((with_reducible refine xk_any ?_); ((with_reducible refine xk_as0 ?_); first | ((with_reducible refine xk_move ?_); refine wx_q (wt_none rfl) rfl rfl (op_q rfl (op_move rfl)) rfl rfl rfl ?_) | ((with_reducible refine xk_assign ?_); refine wx_q (wt_none rfl) rfl rfl (op_q rfl (op_assign rfl)) rfl rfl rfl ?_) | ((with_reducible refine xk_indexAddr ?_); first | refine wx_q (wt_none rfl) rfl rfl (op_q rfl (op_indexAddr rfl rfl j1)) rfl rfl rfl ?_ | refine wx_q (wt_none rfl) rfl rfl (op_q rfl (op_indexAddr rfl rfl k1)) rfl rfl rfl ?_) | ((with_reducible refine xk_load ?_); first | refine wx_h0 (wt_none rfl) rfl (op_q rfl (op_ldCell rfl Tryz.underlying3 rfl j3)) rfl rfl rfl ?_ | refine wx_h0 (wt_none rfl) rfl (op_q rfl (op_ldCell rfl Tryz.underlying3 rfl k3)) rfl rfl rfl ?_) | ((with_reducible refine xk_bin ?_); first | refine wx_q (wt_none rfl) rfl rfl (op_q rfl (op_mul' rfl rfl o1)) rfl rfl rfl ?_ | refine wx_q (wt_none rfl) rfl rfl (op_q rfl (op_add' rfl rfl o2)) rfl rfl rfl ?_ | refine wx_q (wt_none rfl) rfl rfl (op_q rfl (op_sub' rfl rfl (w64 (by omega) (by omega)))) rfl rfl rfl ?_) | with_reducible refine wx_nil0 ?_ ?_)) | with_reducible exact obl_nil | with_reducible refine obl_cons ?_ ?_ | ((with_reducible refine ik_obs ?_); first | exact obs_nil | refine obs_chkn rfl rfl (op_q rfl (op_ldCell rfl Tryz.underlying3 rfl j3)) ?_ | refine obs_chkn rfl rfl (op_q rfl (op_ldCell rfl Tryz.underlying3 rfl k3)) ?_) | with_reducible refine sq_norm ?_ | with_reducible refine wc_seq ?_ | with_reducible refine wc_region ?_ | with_reducible refine wc_skip ?_ | with_reducible refine wc_block ?_ | with_reducible refine bq_norm ?_ | (refine wc_if rfl (fun hb => ?_) (fun hb => dead_A hb); (try simp only [decide_eq_true_eq, decide_eq_false_iff_not, Bool.not_eq_true', Bool.not_eq_false', Int.not_lt, Int.not_le, Decidable.not_not, not_true_eq_false, not_false_eq_true, beq_self_eq_true, reduceCtorEq] at hb)) | refine wc_drawB (id := 9) 14 [0, 0, 0, 6, 14, 0, 0, 0, 192, 480, 992, 2046, 4095, 8191] [0, 1, 2, 3, 4, 5, 6, 7, 8, 9, 10, 11, 12, 13] (by kernel_rfl) (by kernel_rfl) rfl rfl ?_)
      exact lq_norm (j + 1) (by omega) (within_lk ⟨rfl, rfl, rfl, rfl, by rw [hst]; rfl, rfl, trivial⟩) ⟨⟨wf_A, ow.next gr_A⟩, by omega, by omega⟩
    · have hX : sumN j (appv t l i) = F i := by
        rw [hFi]
        exact (sumN_cut (by omega) (fun k h1 h2 => by unfold appv; rw [if_neg (by omega)])).symm
      rw [hX]
      obtain ⟨X, hXe⟩ : ∃ X, F i = X := ⟨_, rfl⟩
      have e3 := rowI_step F i
      rw [hXe] at e3 ⊢
      obtain ⟨r2, h3, hap, ow3, _, hwf, _⟩ := append_ow (M := mz G) (st := 22) (xt := 22) (h := ha.push (.cells [.int .i64 X] 3 1 false)) (new := [.int .i64 X]) (m := 1) Tryz.underlying22 Tryz.underlying22 rfl zs3 zb3 zz3 rfl (ow.next ((Grow.refl _).push _)) (Sl.ofAt (At.new _ _) rfl (Nat.le_refl _)) rfl (by omega)
      rw [e3] at ow3
      by_cases hm1 : j < m
      · repeat' (first | with_reducible refine wo_nil ?_ | ((with_reducible refine wo_any ?_); first | ((with_reducible refine ik_move ?_); refine wo_op rfl (op_move rfl) rfl rfl ?_) | ((with_reducible refine ik_assign ?_); refine wo_op rfl (op_assign rfl) rfl rfl ?_) | ((with_reducible refine ik_callb ?_); first | refine wo_op rfl (op_append rfl rfl hap) rfl rfl ?_ | refine wo_op rfl (op_lenSl rfl Tryz.underlying22) rfl rfl ?_) | ((with_reducible refine ik_bin ?_); first | refine wo_op rfl (op_lss rfl rfl) rfl rfl ?_ | refine wo_op rfl (op_add' rfl rfl (w64 (by omega) (by omega))) rfl rfl ?_) | ((with_reducible refine ik_pick ?_); refine wo_op rfl (op_pickt rfl rfl) rfl rfl ?_) | ((with_reducible refine ik_buildSlice ?_); refine wo_op rfl (op_buildSl rfl Tryz.underlying22 zs3 zz3 rfl rfl) rfl rfl ?_) | ((with_reducible refine ik_g ?_); first | ((with_reducible refine ig_move ?_); refine wo_grun rfl rfl rfl (op_move rfl) rfl rfl ?_) | ((with_reducible refine ig_bin ?_); refine wo_grun rfl rfl rfl (op_leq rfl rfl) rfl rfl ?_) | (refine wo_gsplit rfl rfl rfl (fun hb => ?_) (fun hb => dead_A hb); (try simp only [decide_eq_true_eq, decide_eq_false_iff_not, Bool.not_eq_true', Bool.not_eq_false', Int.not_lt, Int.not_le, Decidable.not_not, not_true_eq_false, not_false_eq_true, beq_self_eq_true, reduceCtorEq] at hb)))) | with_reducible refine sq_norm ?_ | with_reducible refine wc_seq ?_ | with_reducible refine wc_region ?_ | with_reducible refine wc_exit ?_ | with_reducible refine bq_norm ?_ | with_reducible refine sq_exit ?_ | with_reducible refine lq_exit ?_ | refine bq_eq rfl ?_ | (refine wc_if rfl (fun hb => dead_A hb) (fun hb => ?_); (try simp only [decide_eq_true_eq, decide_eq_false_iff_not, Bool.not_eq_true', Bool.not_eq_false', Int.not_lt, Int.not_le, Decidable.not_not, not_true_eq_false, not_false_eq_true, beq_self_eq_true, reduceCtorEq] at hb)))
        exact lq_norm (i + 1, r2) (by simp only; omega) (within_lk ⟨rfl, rfl, rfl, rfl, trivial⟩) ⟨⟨hwf wf_A, ow3⟩, by simp only; omega⟩
      · repeat' (first | with_reducible refine wo_nil ?_ | ((with_reducible refine wo_any ?_); first | ((with_reducible refine ik_move ?_); refine wo_op rfl (op_move rfl) rfl rfl ?_) | ((with_reducible refine ik_assign ?_); refine wo_op rfl (op_assign rfl) rfl rfl ?_) | ((with_reducible refine ik_callb ?_); first | refine wo_op rfl (op_append rfl rfl hap) rfl rfl ?_ | refine wo_op rfl (op_lenSl rfl Tryz.underlying22) rfl rfl ?_) | ((with_reducible refine ik_bin ?_); first | refine wo_op rfl (op_lss rfl rfl) rfl rfl ?_ | refine wo_op rfl (op_add' rfl rfl (w64 (by omega) (by omega))) rfl rfl ?_) | ((with_reducible refine ik_pick ?_); refine wo_op rfl (op_pickf rfl rfl) rfl rfl ?_) | ((with_reducible refine ik_buildSlice ?_); refine wo_op rfl (op_buildSl rfl Tryz.underlying22 zs3 zz3 rfl rfl) rfl rfl ?_) | ((with_reducible refine ik_g ?_); first | refine wo_gskip rfl rfl rfl rfl rfl rfl ?_ | (refine wo_gsplit rfl rfl rfl (fun hb => dead_A hb) (fun hb => ?_); (try simp only [decide_eq_true_eq, decide_eq_false_iff_not, Bool.not_eq_true', Bool.not_eq_false', Int.not_lt, Int.not_le, Decidable.not_not, not_true_eq_false, not_false_eq_true, beq_self_eq_true, reduceCtorEq] at hb)))) | with_reducible refine sq_norm ?_ | with_reducible refine wc_seq ?_ | with_reducible refine wc_region ?_ | with_reducible refine wc_exit ?_ | with_reducible refine bq_norm ?_ | with_reducible refine sq_exit ?_ | with_reducible refine lq_exit ?_ | refine bq_eq rfl ?_ | refine wc_iff rfl ?_)
        exact lq_norm (i + 1, r2) (by simp only; omega) (within_lk ⟨rfl, rfl, rfl, rfl, trivial⟩) ⟨⟨hwf wf_A, ow3⟩, by simp only; omega⟩
  · have hin : i = n := by omega
    subst hin
    have hs := ow.sl (G := G)
    obtain ⟨a2, c2, rfl⟩ := hs.form
    repeat' (first | with_reducible refine wo_nil ?_ | ((with_reducible refine wo_any ?_); first | ((with_reducible refine ik_move ?_); refine wo_op rfl (op_move rfl) rfl rfl ?_) | ((with_reducible refine ik_assign ?_); refine wo_op rfl (op_assign rfl) rfl rfl ?_) | ((with_reducible refine ik_callb ?_); refine wo_op rfl (op_lenSl rfl Tryz.underlying22) rfl rfl ?_) | ((with_reducible refine ik_bin ?_); refine wo_op rfl (op_lss rfl rfl) rfl rfl ?_)) | with_reducible refine sq_norm ?_ | with_reducible refine wc_seq ?_ | with_reducible refine wc_region ?_ | with_reducible refine wc_ret ?_ | with_reducible refine wc_exit ?_ | with_reducible refine sq_exit ?_ | with_reducible refine lq_exit ?_ | refine bq_eq rfl ?_ | (refine wc_if rfl (fun hb => dead_A hb) (fun hb => ?_); (try simp only [decide_eq_true_eq, decide_eq_false_iff_not, Bool.not_eq_true', Bool.not_eq_false', Int.not_lt, Int.not_le, Decidable.not_not, not_true_eq_false, not_false_eq_true, beq_self_eq_true, reduceCtorEq] at hb)))
    exact rq1 rfl ⟨⟨a2, c2, rfl, hs⟩, gr_A⟩
set_option maxHeartbeats 4000000 in
theorem c27 {v w : Value} {n m : Nat} {t l : List Int} (s : Sl G h 1 v m (t.map (.int .i64))) (u : Sl G h 1 w n (l.map (.int .i64))) (hn : n < 1000000) (hm2 : m ≤ 64) (ht0 : ∀ x ∈ t, x.natAbs ≤ 16) (hl0 : ∀ x ∈ l, x.natAbs ≤ 16384) (hw : Wf h) :
    Cf (mz G) (.func (.func 27) #[] #[]) [v, w] h fun r h' => (∃ a c, r = .slice a n c ∧ Sl G h' 1 (.slice a n c) n ((adjL t l).map (.int .i64))) ∧ Grow h h' := by
  obtain ⟨a, c, rfl⟩ := s.form
  obtain ⟨b, d, rfl⟩ := u.form
  have ht := s.length
  have hl := u.length
  simp at hl ht
  have hres : adjL t l = (List.range n).map fun i => sumN m (advv t l i) := by rw [← hl, ← ht]; exact adj_row t l
  rw [hres]
  obtain ⟨F, hF⟩ : ∃ F : Nat → Int, (fun i => sumN m (advv t l i)) = F := ⟨_, rfl⟩
  have hFi : ∀ i, F i = sumN m (advv t l i) := fun i => by rw [← hF]
  rw [hF]
  refine cf_enter0 47 [.tmp 4] Tryz.func27 rfl rfl rfl rfl ?_
  repeat' (first | with_reducible refine wo_nil ?_ | ((with_reducible refine wo_any ?_); ((with_reducible refine ik_assign ?_); refine wo_op rfl (op_assign rfl) rfl rfl ?_)) | with_reducible refine sq_norm ?_ | with_reducible refine wc_seq ?_ | with_reducible refine wc_region ?_ | with_reducible refine wc_block ?_)
  refine wc_loop (fun p : Nat × Value => n - p.1) (fun p => [(0, .slice a m c), (1, .slice b n d), (5, p.2), (6, .int .i64 (p.1 : Nat))]) (fun p h' => (Wf h' ∧ Ow h h' 3 1 p.2 p.1 (((List.range p.1).map F).map (.int .i64))) ∧ p.1 ≤ n) (0, .slice none 0 0) (within_lk ⟨rfl, rfl, rfl, rfl, trivial⟩) ⟨⟨hw, .nil (.refl _)⟩, Nat.zero_le _⟩ ?_
  rintro ⟨i, r⟩ h1 ⟨⟨w1, ow⟩, hi⟩
  simp only at ow hi ⊢
  have g2 := ow.grow
  by_cases hlt : i < n
  · have hsr := ow.sl (G := G)
    obtain ⟨a3, c3, rfl⟩ := hsr.form
    repeat' (first | with_reducible refine wo_nil ?_ | ((with_reducible refine wo_any ?_); first | ((with_reducible refine ik_move ?_); refine wo_op rfl (op_move rfl) rfl rfl ?_) | ((with_reducible refine ik_assign ?_); refine wo_op rfl (op_assign rfl) rfl rfl ?_) | ((with_reducible refine ik_callb ?_); refine wo_op rfl (op_lenSl rfl Tryz.underlying22) rfl rfl ?_) | ((with_reducible refine ik_bin ?_); refine wo_op rfl (op_lss rfl rfl) rfl rfl ?_)) | with_reducible refine sq_norm ?_ | with_reducible refine wc_seq ?_ | with_reducible refine wc_region ?_ | with_reducible refine wc_skip ?_ | with_reducible refine wc_block ?_ | (refine wc_if rfl (fun hb => ?_) (fun hb => dead_A hb); (try simp only [decide_eq_true_eq, decide_eq_false_iff_not, Bool.not_eq_true', Bool.not_eq_false', Int.not_lt, Int.not_le, Decidable.not_not, not_true_eq_false, not_false_eq_true, beq_self_eq_true, reduceCtorEq] at hb)))
    refine wc_loop (fun j : Nat => m - j) (fun j => [(0, .slice a m c), (1, .slice b n d), (5, .slice a3 i c3), (6, .int .i64 (i : Nat)), (7, .int .i64 (sumN j (advv t l i))), (8, .int .i64 (j : Nat))]) (fun j h' => (Wf h' ∧ Ow h h' 3 1 (.slice a3 i c3) i (((List.range i).map F).map (.int .i64))) ∧ j ≤ m ∧ i + j ≤ n) 0 (within_lk ⟨rfl, rfl, rfl, rfl, by rw [sumN]; rfl, rfl, trivial⟩) ⟨⟨w1, ow⟩, Nat.zero_le _, by omega⟩ ?_
    clear ow w1 g2 hsr
    rintro j ha ⟨⟨wa, ow⟩, hj1, hj2⟩
    have g2 := ow.grow
    have hub := sumN_b (f := advv t l i) (B := 262144) (fun k => by have := advv_b ht0 hl0 i k; omega) j
    by_cases hjl : j < m ∧ i + j < n
    · obtain ⟨hm1, hi1⟩ := hjl
      have hst : sumN (j + 1) (advv t l i) = sumN j (advv t l i) + t.getD j 0 * l.getD (i + j) 0 := by
        rw [sumN]
        congr 1
        unfold advv; rw [if_pos (by omega)]
      have hpb := prod_bound (getD_bound ht0 j) (getD_bound hl0 (i + j))
      obtain ⟨d2, j1, j3⟩ := slI_at (s.grow g2) (i := (j : Int)) (q := j) hm1 rfl
      obtain ⟨d3, k1, k3⟩ := slI_at (u.grow g2) (i := (i : Int) + (j : Int)) (q := i + j) (by omega) (by omega)
      obtain ⟨U, hU⟩ : ∃ z, sumN j (advv t l i) = z := ⟨_, rfl⟩
      obtain ⟨A, hA⟩ : ∃ z, t.getD j 0 = z := ⟨_, rfl⟩
      obtain ⟨B, hB⟩ : ∃ z, l.getD (i + j) 0 = z := ⟨_, rfl⟩
      rw [hA] at j3 hst hpb
      rw [hB] at k3 hst hpb
      rw [hU] at hub hst ⊢
      have o1 : IntKind.wrap .i64 (A * B) = A * B := w64 (by omega) (by omega)
      have o2 : IntKind.wrap .i64 (U + A * B) = U + A * B := w64 (by omega) (by omega)
      repeat' (first | with_reducible refine wo_nil ?_ | ((with_reducible refine wo_any ?_); first | ((with_reducible refine ik_move ?_); refine wo_op rfl (op_move rfl) rfl rfl ?_) | ((with_reducible refine ik_assign ?_); refine wo_op rfl (op_assign rfl) rfl rfl ?_) | ((with_reducible refine ik_bin ?_); first | refine wo_op rfl (op_lss rfl rfl) rfl rfl ?_ | refine wo_op rfl (op_add' rfl rfl (w64 (by omega) (by omega))) rfl rfl ?_) | ((with_reducible refine ik_callb ?_); refine wo_op rfl (op_lenSl rfl Tryz.underlying22) rfl rfl ?_) | ((with_reducible refine ik_pick ?_); refine wo_op rfl (op_pickt rfl rfl) rfl rfl ?_) | ((with_reducible refine ik_g ?_); first | ((with_reducible refine ig_move ?_); refine wo_grun rfl rfl rfl (op_move rfl) rfl rfl ?_) | ((with_reducible refine ig_bin ?_); first | refine wo_grun rfl rfl rfl (op_lss rfl rfl) rfl rfl ?_ | refine wo_grun rfl rfl rfl (op_add' rfl rfl (w64 (by omega) (by omega))) rfl rfl ?_) | ((with_reducible refine ig_callb ?_); refine wo_grun rfl rfl rfl (op_lenSl rfl Tryz.underlying22) rfl rfl ?_) | (refine wo_gsplit rfl rfl rfl (fun hb => ?_) (fun hb => dead_A hb); (try simp only [decide_eq_true_eq, decide_eq_false_iff_not, Bool.not_eq_true', Bool.not_eq_false', Int.not_lt, Int.not_le, Decidable.not_not, not_true_eq_false, not_false_eq_true, beq_self_eq_true, reduceCtorEq] at hb)))) | ((with_reducible refine xk_any ?_); ((with_reducible refine xk_as0 ?_); first | ((with_reducible refine xk_move ?_); refine wx_q (wt_none rfl) rfl rfl (op_q rfl (op_move rfl)) rfl rfl rfl ?_) | ((with_reducible refine xk_assign ?_); refine wx_q (wt_none rfl) rfl rfl (op_q rfl (op_assign rfl)) rfl rfl rfl ?_) | ((with_reducible refine xk_indexAddr ?_); first | refine wx_q (wt_none rfl) rfl rfl (op_q rfl (op_indexAddr rfl rfl j1)) rfl rfl rfl ?_ | refine wx_q (wt_none rfl) rfl rfl (op_q rfl (op_indexAddr rfl rfl k1)) rfl rfl rfl ?_) | ((with_reducible refine xk_load ?_); first | refine wx_h0 (wt_none rfl) rfl (op_q rfl (op_ldCell rfl Tryz.underlying3 rfl j3)) rfl rfl rfl ?_ | refine wx_h0 (wt_none rfl) rfl (op_q rfl (op_ldCell rfl Tryz.underlying3 rfl k3)) rfl rfl rfl ?_) | ((with_reducible refine xk_bin ?_); first | refine wx_q (wt_none rfl) rfl rfl (op_q rfl (op_mul' rfl rfl o1)) rfl rfl rfl ?_ | refine wx_q (wt_none rfl) rfl rfl (op_q rfl (op_add' rfl rfl o2)) rfl rfl rfl ?_ | refine wx_q (wt_none rfl) rfl rfl (op_q rfl (op_add' rfl rfl (w64 (by omega) (by omega)))) rfl rfl rfl ?_) | with_reducible refine wx_nil0 ?_ ?_)) | with_reducible exact obl_nil | with_reducible refine obl_cons ?_ ?_ | ((with_reducible refine ik_obs ?_); first | exact obs_nil | refine obs_chkn rfl rfl (op_q rfl (op_ldCell rfl Tryz.underlying3 rfl j3)) ?_ | refine obs_chkn rfl rfl (op_q rfl (op_ldCell rfl Tryz.underlying3 rfl k3)) ?_) | with_reducible refine sq_norm ?_ | with_reducible refine wc_seq ?_ | with_reducible refine wc_region ?_ | with_reducible refine wc_skip ?_ | with_reducible refine wc_block ?_ | with_reducible refine bq_norm ?_ | (refine wc_if rfl (fun hb => ?_) (fun hb => dead_A hb); (try simp only [decide_eq_true_eq, decide_eq_false_iff_not, Bool.not_eq_true', Bool.not_eq_false', Int.not_lt, Int.not_le, Decidable.not_not, not_true_eq_false, not_false_eq_true, beq_self_eq_true, reduceCtorEq] at hb)) | refine wc_drawB (id := 9) 14 [0, 0, 0, 6, 14, 0, 0, 0, 192, 480, 992, 2046, 4095, 8191] [0, 1, 2, 3, 4, 5, 6, 7, 8, 9, 10, 11, 12, 13] (by kernel_rfl) (by kernel_rfl) rfl rfl ?_)
      exact lq_norm (j + 1) (by omega) (within_lk ⟨rfl, rfl, rfl, rfl, by rw [hst]; rfl, rfl, trivial⟩) ⟨⟨wf_A, ow.next gr_A⟩, by omega, by omega⟩
    · have hX : sumN j (advv t l i) = F i := by
        rw [hFi]
        exact (sumN_cut (by omega) (fun k h1 h2 => by unfold advv; rw [if_neg (by omega)])).symm
      rw [hX]
      obtain ⟨X, hXe⟩ : ∃ X, F i = X := ⟨_, rfl⟩
      have e3 := rowI_step F i
      rw [hXe] at e3 ⊢
      obtain ⟨r2, h3, hap, ow3, _, hwf, _⟩ := append_ow (M := mz G) (st := 22) (xt := 22) (h := ha.push (.cells [.int .i64 X] 3 1 false)) (new := [.int .i64 X]) (m := 1) Tryz.underlying22 Tryz.underlying22 rfl zs3 zb3 zz3 rfl (ow.next ((Grow.refl _).push _)) (Sl.ofAt (At.new _ _) rfl (Nat.le_refl _)) rfl (by omega)
      rw [e3] at ow3
      by_cases hm1 : j < m
      · repeat' (first | with_reducible refine wo_nil ?_ | ((with_reducible refine wo_any ?_); first | ((with_reducible refine ik_move ?_); refine wo_op rfl (op_move rfl) rfl rfl ?_) | ((with_reducible refine ik_assign ?_); refine wo_op rfl (op_assign rfl) rfl rfl ?_) | ((with_reducible refine ik_callb ?_); first | refine wo_op rfl (op_append rfl rfl hap) rfl rfl ?_ | refine wo_op rfl (op_lenSl rfl Tryz.underlying22) rfl rfl ?_) | ((with_reducible refine ik_bin ?_); first | refine wo_op rfl (op_lss rfl rfl) rfl rfl ?_ | refine wo_op rfl (op_add' rfl rfl (w64 (by omega) (by omega))) rfl rfl ?_) | ((with_reducible refine ik_pick ?_); refine wo_op rfl (op_pickt rfl rfl) rfl rfl ?_) | ((with_reducible refine ik_buildSlice ?_); refine wo_op rfl (op_buildSl rfl Tryz.underlying22 zs3 zz3 rfl rfl) rfl rfl ?_) | ((with_reducible refine ik_g ?_); first | ((with_reducible refine ig_move ?_); refine wo_grun rfl rfl rfl (op_move rfl) rfl rfl ?_) | ((with_reducible refine ig_callb ?_); refine wo_grun rfl rfl rfl (op_lenSl rfl Tryz.underlying22) rfl rfl ?_) | ((with_reducible refine ig_bin ?_); first | refine wo_grun rfl rfl rfl (op_lss rfl rfl) rfl rfl ?_ | refine wo_grun rfl rfl rfl (op_add' rfl rfl (w64 (by omega) (by omega))) rfl rfl ?_) | (refine wo_gsplit rfl rfl rfl (fun hb => ?_) (fun hb => dead_A hb); (try simp only [decide_eq_true_eq, decide_eq_false_iff_not, Bool.not_eq_true', Bool.not_eq_false', Int.not_lt, Int.not_le, Decidable.not_not, not_true_eq_false, not_false_eq_true, beq_self_eq_true, reduceCtorEq] at hb)))) | with_reducible refine sq_norm ?_ | with_reducible refine wc_seq ?_ | with_reducible refine wc_region ?_ | with_reducible refine wc_exit ?_ | with_reducible refine bq_norm ?_ | with_reducible refine sq_exit ?_ | with_reducible refine lq_exit ?_ | refine bq_eq rfl ?_ | (refine wc_if rfl (fun hb => dead_A hb) (fun hb => ?_); (try simp only [decide_eq_true_eq, decide_eq_false_iff_not, Bool.not_eq_true', Bool.not_eq_false', Int.not_lt, Int.not_le, Decidable.not_not, not_true_eq_false, not_false_eq_true, beq_self_eq_true, reduceCtorEq] at hb)))
        exact lq_norm (i + 1, r2) (by simp only; omega) (within_lk ⟨rfl, rfl, rfl, rfl, trivial⟩) ⟨⟨hwf wf_A, ow3⟩, by simp only; omega⟩
      · repeat' (first | with_reducible refine wo_nil ?_ | ((with_reducible refine wo_any ?_); first | ((with_reducible refine ik_move ?_); refine wo_op rfl (op_move rfl) rfl rfl ?_) | ((with_reducible refine ik_assign ?_); refine wo_op rfl (op_assign rfl) rfl rfl ?_) | ((with_reducible refine ik_callb ?_); first | refine wo_op rfl (op_append rfl rfl hap) rfl rfl ?_ | refine wo_op rfl (op_lenSl rfl Tryz.underlying22) rfl rfl ?_) | ((with_reducible refine ik_bin ?_); first | refine wo_op rfl (op_lss rfl rfl) rfl rfl ?_ | refine wo_op rfl (op_add' rfl rfl (w64 (by omega) (by omega))) rfl rfl ?_) | ((with_reducible refine ik_pick ?_); refine wo_op rfl (op_pickf rfl rfl) rfl rfl ?_) | ((with_reducible refine ik_buildSlice ?_); refine wo_op rfl (op_buildSl rfl Tryz.underlying22 zs3 zz3 rfl rfl) rfl rfl ?_) | ((with_reducible refine ik_g ?_); first | refine wo_gskip rfl rfl rfl rfl rfl rfl ?_ | (refine wo_gsplit rfl rfl rfl (fun hb => dead_A hb) (fun hb => ?_); (try simp only [decide_eq_true_eq, decide_eq_false_iff_not, Bool.not_eq_true', Bool.not_eq_false', Int.not_lt, Int.not_le, Decidable.not_not, not_true_eq_false, not_false_eq_true, beq_self_eq_true, reduceCtorEq] at hb)))) | with_reducible refine sq_norm ?_ | with_reducible refine wc_seq ?_ | with_reducible refine wc_region ?_ | with_reducible refine wc_exit ?_ | with_reducible refine bq_norm ?_ | with_reducible refine sq_exit ?_ | with_reducible refine lq_exit ?_ | refine bq_eq rfl ?_ | refine wc_iff rfl ?_)
        exact lq_norm (i + 1, r2) (by simp only; omega) (within_lk ⟨rfl, rfl, rfl, rfl, trivial⟩) ⟨⟨hwf wf_A, ow3⟩, by simp only; omega⟩
  · have hin : i = n := by omega
    subst hin
    have hs := ow.sl (G := G)
    obtain ⟨a2, c2, rfl⟩ := hs.form
    repeat' (first | with_reducible refine wo_nil ?_ | ((with_reducible refine wo_any ?_); first | ((with_reducible refine ik_move ?_); refine wo_op rfl (op_move rfl) rfl rfl ?_) | ((with_reducible refine ik_assign ?_); refine wo_op rfl (op_assign rfl) rfl rfl ?_) | ((with_reducible refine ik_callb ?_); refine wo_op rfl (op_lenSl rfl Tryz.underlying22) rfl rfl ?_) | ((with_reducible refine ik_bin ?_); refine wo_op rfl (op_lss rfl rfl) rfl rfl ?_)) | with_reducible refine sq_norm ?_ | with_reducible refine wc_seq ?_ | with_reducible refine wc_region ?_ | with_reducible refine wc_ret ?_ | with_reducible refine wc_exit ?_ | with_reducible refine sq_exit ?_ | with_reducible refine lq_exit ?_ | refine bq_eq rfl ?_ | (refine wc_if rfl (fun hb => dead_A hb) (fun hb => ?_); (try simp only [decide_eq_true_eq, decide_eq_false_iff_not, Bool.not_eq_true', Bool.not_eq_false', Int.not_lt, Int.not_le, Decidable.not_not, not_true_eq_false, not_false_eq_true, beq_self_eq_true, reduceCtorEq] at hb)))
    exact rq1 rfl ⟨⟨a2, c2, rfl, hs⟩, gr_A⟩
end Go.Proofs.YtccdcekcbbpohaaGreatDoor

/- The law FilterTaps, walked. -/
namespace Go.Proofs.YtccdcekcbbpohaaGreatDoor
open Go Go.Ab Go.Fl
attribute [local irreducible] SeqQ BlkQ LpQ RetQ Wc Wo WD WX Op1 Op1q Op1a Cf Cl From
attribute [local irreducible] Ieee.Format.order Ieee.Format.read Ieee.Format.nearest Ieee.Format.write Ieee.Format.mul Ieee.Format.div Ieee.Datum.order Ieee.Datum.integral smpE smp smpW K J U sumN lchk tchk trE hdrE appL undL undA undI wr ghoL rnd mulL dghL dghA rngE notN pR pI resR resI tR tI rowE allE fz
set_option maxRecDepth 10000
variable {G : Base} {h : H}

theorem resC_form (t : List Int) (n : Nat) : ∃ p0 q0 p1 q1 p2 q2 p3 q3, resC t n = [.complex .f64 p0 q0, .complex .f64 p1 q1, .complex .f64 p2 q2, .complex .f64 p3 q3] := by
  unfold resC
  split
  · rw [cL4]; exact ⟨_, _, _, _, _, _, _, _, rfl⟩
  · unfold cL; exact ⟨_, _, _, _, _, _, _, _, rfl⟩
theorem resC_same {t : List Int} {n : Nat} (hn : n ≤ 64) (ht : tchk t = 0 → ∀ x ∈ t, x.natAbs ≤ 16) : prun Tryz.prog (Op.equal 41 (.agg ⟨resC t n⟩) (.agg ⟨resC t n⟩)) = some true := by
  unfold resC
  split
  · rename_i h
    exact cx_same (fun k => by have := resR_b (ht h) k n; omega) (fun k => by have := resI_b (ht h) k n; omega)
  · exact cz_same
section
variable {v w : Value} {n m : Nat} {t : List Int} {l : List Nat}
theorem c14s (s : Sl G h 1 v m (t.map (.int .i64))) (u : Sl G h 1 w n (l.map (.float .f32))) (hm : m < 1000000) (hn : n < 1000000) (hw : Wf h) (hG : ∀ a v, laidBase a = some v → G a = some v) :
    Cf (mz G) (.func (.func 14) #[] #[]) [v, w] h fun r h' => (∃ i : Option Addr × Nat × Nat, r = .tuple #[.slice i.1 i.2.1 i.2.2, .int .i64 (madeE (firstNZ [tchk t, lchk l]) (appL t (l.map smp)))] ∧ MadeS G h' i n (madeE (firstNZ [tchk t, lchk l]) (appL t (l.map smp))) (appL t (l.map smp))) ∧ Grow h h' :=
  (c14 s u hm hn hw hG).mono fun r h' ⟨q, g⟩ => ⟨made_s q, g⟩
theorem c17s (s : Sl G h 1 v m (t.map (.int .i64))) (u : Sl G h 1 w n (l.map (.float .f32))) (hm : m < 1000000) (hn : n < 1000000) (hw : Wf h) (hG : ∀ a v, laidBase a = some v → G a = some v) :
    Cf (mz G) (.func (.func 17) #[] #[]) [v, w] h fun r h' => (∃ i : Option Addr × Nat × Nat, r = .tuple #[.slice i.1 i.2.1 i.2.2, .int .i64 (madeE (firstNZ [tchk t, lchk l]) (adjL t (l.map smp)))] ∧ MadeS G h' i n (madeE (firstNZ [tchk t, lchk l]) (adjL t (l.map smp))) (adjL t (l.map smp))) ∧ Grow h h' :=
  (c17 s u hm hn hw hG).mono fun r h' ⟨q, g⟩ => ⟨made_s q, g⟩
theorem c21s (s : Sl G h 1 v m (t.map (.int .i64))) (u : Sl G h 1 w n (l.map (.float .f32))) (hm : m < 1000000) (hn : n < 1000000) (hw : Wf h) (hG : ∀ a v, laidBase a = some v → G a = some v) :
    Cf (mz G) (.func (.func 21) #[] #[]) [v, w] h fun r h' => (∃ i : Option Addr × Nat × Nat, r = .tuple #[.slice i.1 i.2.1 i.2.2, .int .i64 (undU t l)] ∧ MadeS G h' i n (undU t l) (undL t (l.map smp))) ∧ Grow h h' :=
  (c21 s u hm hn hw hG).mono fun r h' ⟨q, g⟩ => ⟨made_s q, g⟩
theorem c28s {v w : Value} {n m : Nat} {t l : List Int} (s : Sl G h 1 v m (t.map (.int .i64))) (u : Sl G h 1 w n (l.map (.int .i64))) (hn : n ≤ 1024) (hm : 1 ≤ m) (hm2 : m ≤ 64) (ht0 : ∀ x ∈ t, x.natAbs ≤ 16) (hl0 : ∀ x ∈ l, x.natAbs ≤ 16384) (hw : Wf h) :
    Cf (mz G) (.func (.func 28) #[] #[]) [v, w] h fun r h' => (∃ (i : Option Addr × Nat × Nat) (two : Int), r = .tuple #[.slice i.1 i.2.1 i.2.2, .int .i64 two] ∧ UndR G h' (.tuple #[.slice i.1 i.2.1 i.2.2, .int .i64 two]) n t l) ∧ Grow h h' :=
  (c28 s u hn hm hm2 ht0 hl0 hw).mono fun r h' ⟨q, g⟩ => by
    refine ⟨?_, g⟩
    rcases q with ⟨q1, q2, q3⟩ | ⟨q1, q2, q3⟩ | ⟨q1, q2, a, c, q3, q4⟩
    · exact ⟨(none, 0, 0), 21, q3, .inl ⟨q1, q2, rfl⟩⟩
    · exact ⟨(none, 0, 0), 4, q3, .inr (.inl ⟨q1, q2, rfl⟩)⟩
    · exact ⟨(a, n, c), 0, q3, .inr (.inr ⟨q1, q2, a, c, rfl, q4⟩)⟩
end
theorem heard_zero {i : Option Addr × Nat × Nat} {n : Nat} {E : Int} {L L' : List Int} {w : Value} (hE : E ≠ 0) (m : MadeS G h i n E L) : HeardA G h i.1 i.2.1 i.2.2 E E w L' := by
  rcases m with ⟨_, m⟩ | ⟨m, _⟩
  · exact .inl ⟨hE, rfl, m⟩
  · exact absurd m hE
theorem tup_inj {a a2 : Option Addr} {n n2 c c2 : Nat} {x y : Int} (h : Value.tuple #[.slice a n c, .int .i64 x] = .tuple #[.slice a2 n2 c2, .int .i64 y]) : a = a2 ∧ n = n2 ∧ c = c2 ∧ x = y := by
  simp at h
  obtain ⟨⟨h1, h2, h3⟩, h4⟩ := h
  exact ⟨h1, h2, h3, h4⟩
/-- What is heard of a list that is undone. -/
theorem heard_und {i j : Option Addr × Nat × Nat} {n : Nat} {two : Int} {t : List Int} {l : List Nat} (hn : n < 1000000) (hB : firstNZ [tchk t, lchk l] = 0) (r : UndR G h (.tuple #[.slice j.1 j.2.1 j.2.2, .int .i64 two]) n t (l.map smp)) (m : MadeS G h i n (undU t l) (undL t (l.map smp))) : HeardA G h i.1 i.2.1 i.2.2 (undU t l) two (.slice j.1 j.2.1 j.2.2) (undL t (l.map smp)) := by
  unfold undU at m ⊢
  rw [if_neg (by omega)] at m ⊢
  rcases r with ⟨r1, r2, r3⟩ | ⟨r1, r2, r3⟩ | ⟨r1, r2, a, c, r3, r4⟩
  · rw [if_pos ⟨r1, r2⟩] at m ⊢
    have r5 := (tup_inj r3).2.2.2
    subst r5
    exact heard_zero (by decide) m
  · rw [if_neg (by omega), madeE_zero, r2, if_pos rfl] at m ⊢
    have r5 := (tup_inj r3).2.2.2
    subst r5
    exact heard_zero (by decide) m
  · rw [if_neg (by omega), madeE_zero, r2, if_neg (by decide)] at m ⊢
    obtain ⟨e1, e2, e3, e4⟩ := tup_inj r3
    subst e4
    rw [e1, e2, e3]
    refine .inr ⟨rfl, ⟨n, hn, r4⟩, .inr ⟨rfl, r2, ?_⟩⟩
    rcases m with ⟨m, _⟩ | ⟨_, m2, m3⟩
    · exact absurd rfl m
    · rw [m2] at m3 ⊢
      exact m3
end Go.Proofs.YtccdcekcbbpohaaGreatDoor
