/- Contracts of functions on lists of samples: energy, peak, correlations by the reference. -/
import Derived.Test.YtdelgpbfdimefaaGreatDoorL2
set_option linter.all false
/- Energy and peak. -/
namespace Go.Proofs.YtdelgpbfdimefaaGreatDoor
open Go Go.Ab Go.Fl
attribute [local irreducible] SeqQ BlkQ LpQ RetQ Wc Wo WD WX Op1 Op1q Op1a Cf Cl From
attribute [local irreducible] Ieee.Format.order Ieee.Format.read Ieee.Format.nearest Ieee.Format.write Ieee.Format.mul Ieee.Format.div Ieee.Datum.order Ieee.Datum.integral smpE smp smpW K J U spread sumN
set_option maxRecDepth 10000
variable {G : Base} {h : H}

def sqv (x : List Int) (i : Nat) : Int := x.getD i 0 * x.getD i 0
def enL (x : List Int) : Int := sumN x.length (sqv x)
theorem sqv_bound {x : List Int} (hx : ∀ z ∈ x, z.natAbs ≤ 16384) (i : Nat) : (sqv x i).natAbs ≤ 16384 * 16384 := prod_bound (getD_bound hx _) (getD_bound hx _)
theorem c68 {v : Value} {n : Nat} {l : List Nat} (s : Sl G h 1 v n (l.map (.float .f32))) (hn : n ≤ 1024) (hl0 : ∀ x ∈ l, smpE x = 0) (hw : Wf h) :
    Cf (mz G) (.func (.func 68) #[] #[]) [v] h fun r h' => r = .int .i64 (enL (l.map smp)) ∧ Grow h h' := by
  obtain ⟨a, c, rfl⟩ := s.form
  have hl := s.length
  simp at hl
  have hLn : (l.map smp).length = n := by simpa using hl
  have hX := smp_bound hl0
  refine cf_enter0 25 [.tmp 2] Tryz.func68 rfl rfl rfl rfl ?_
  repeat' (first | with_reducible refine wo_nil ?_ | ((with_reducible refine wo_any ?_); ((with_reducible refine ik_assign ?_); refine wo_op rfl (op_assign rfl) rfl rfl ?_)) | with_reducible refine sq_norm ?_ | with_reducible refine wc_seq ?_ | with_reducible refine wc_region ?_ | with_reducible refine wc_block ?_)
  refine wc_loop (fun p : Nat × Int => n - p.1) (fun p => [(0, .slice a n c), (3, .int .i64 p.2), (4, .int .i64 (p.1 : Nat))]) (fun p h' => (Wf h' ∧ Grow h h') ∧ p.1 ≤ n ∧ sumN p.1 (sqv (l.map smp)) = p.2) (0, 0) (within_lk ⟨rfl, rfl, rfl, trivial⟩) ⟨⟨hw, .refl _⟩, Nat.zero_le _, by unfold sumN; rfl⟩ ?_
  rintro ⟨k, S⟩ h' ⟨⟨hw', hgr⟩, hk, hS⟩
  simp only at hk hS ⊢
  have hsb : (sumN k (sqv (l.map smp))).natAbs ≤ k * (16384 * 16384) := sumN_bound fun i _ => sqv_bound hX i
  rw [hS] at hsb
  by_cases hlt : k < n
  · obtain ⟨ad, h1, h3⟩ := sl_at (s.grow hgr) (i := (k : Int)) hlt rfl
    have hx0 := hl0 _ (List.getElem_mem (show k < l.length by omega))
    have hstep : sumN (k + 1) (sqv (l.map smp)) = S + sqv (l.map smp) k := by rw [sumN, hS]
    obtain ⟨x, hx⟩ : ∃ x, smp l[k] = x := ⟨_, rfl⟩
    have hq : sqv (l.map smp) k = x * x := by unfold sqv; rw [map_getD (by omega), hx]
    have hqb := sqv_bound hX k
    rw [hq] at hstep hqb
    have q128 := fun (h : H) => c128 (G := G) (h := h) hx0
    rw [hx] at q128
    repeat' (first | with_reducible refine wo_nil ?_ | ((with_reducible refine wo_any ?_); first | ((with_reducible refine ik_move ?_); refine wo_op rfl (op_move rfl) rfl rfl ?_) | ((with_reducible refine ik_assign ?_); refine wo_op rfl (op_assign rfl) rfl rfl ?_) | ((with_reducible refine ik_callb ?_); refine wo_op rfl (op_lenSl rfl Tryz.underlying45) rfl rfl ?_) | ((with_reducible refine ik_bin ?_); first | refine wo_op rfl (op_lss rfl rfl) rfl rfl ?_ | refine wo_op rfl (op_add' rfl rfl (w64 (by omega) (by omega))) rfl rfl ?_)) | ((with_reducible refine xk_any ?_); ((with_reducible refine xk_as0 ?_); first | ((with_reducible refine xk_move ?_); refine wx_q (wt_none rfl) rfl rfl (op_q rfl (op_move rfl)) rfl rfl rfl ?_) | ((with_reducible refine xk_assign ?_); refine wx_q (wt_none rfl) rfl rfl (op_q rfl (op_assign rfl)) rfl rfl rfl ?_) | ((with_reducible refine xk_indexAddr ?_); refine wx_q (wt_none rfl) rfl rfl (op_q rfl (op_indexAddr rfl rfl h1)) rfl rfl rfl ?_) | ((with_reducible refine xk_load ?_); refine wx_h0 (wt_none rfl) rfl (op_q rfl (op_ldCell rfl Tryz.underlying23 rfl h3)) rfl rfl rfl ?_) | ((with_reducible refine xk_bin ?_); first | refine wx_q (wt_none rfl) rfl rfl (op_q rfl (op_mul' rfl rfl (w64 (by omega) (by omega)))) rfl rfl rfl ?_ | refine wx_q (wt_none rfl) rfl rfl (op_q rfl (op_add' rfl rfl (w64 (by omega) (by omega)))) rfl rfl rfl ?_) | ((with_reducible refine xk_callv ?_); refine wx_ee (wt_none rfl) rfl rfl (op_call rfl rfl (q128 _)) rfl rfl ?_) | with_reducible refine wx_nil0 ?_ ?_)) | with_reducible exact obl_nil | with_reducible refine obl_cons ?_ ?_ | ((with_reducible refine ik_obs ?_); first | exact obs_nil | refine obs_skip rfl ?_ | refine obs_chkn rfl rfl (op_q rfl (op_ldCell rfl Tryz.underlying23 rfl h3)) ?_) | with_reducible refine sq_norm ?_ | with_reducible refine wc_seq ?_ | with_reducible refine wc_region ?_ | with_reducible refine wc_skip ?_ | with_reducible refine wc_block ?_ | with_reducible refine bq_norm ?_ | (refine wc_if rfl (fun hb => ?_) (fun hb => ?_) <;> (try simp only [decide_eq_true_eq, decide_eq_false_iff_not, Bool.not_eq_true', Bool.not_eq_false', Int.not_lt, Int.not_le, Decidable.not_not, not_true_eq_false, not_false_eq_true, beq_self_eq_true, reduceCtorEq] at hb) <;> (try (exfalso; omega))) | refine wc_draw (id := 5) 14 [0, 0, 0, 6, 14, 30, 0, 0, 192, 448, 1022, 2046, 4095, 8191] [0, 1, 2, 3, 4, 5, 6, 7, 8, 9, 10, 11, 12, 13] (by kernel_rfl) (by kernel_rfl) rfl rfl rfl ?_)
    all_goals exact lq_norm (k + 1, S + x * x) (by simp only; omega) (within_lk ⟨rfl, rfl, rfl, trivial⟩) ⟨⟨(by repeat (first | with_reducible assumption | exact Wf.empty | with_reducible refine Wf.push ?_ _ | with_reducible refine Wf.bump ?_ _ | with_reducible refine Wf.set ?_ (by repeat (first | with_reducible assumption | omega | (simp only [H.nx_push, H.nx_set]; omega) | exact At.lt (by assumption) | with_reducible refine lt_bump ?_ | with_reducible refine lt_set ?_ | exact lt_new | with_reducible refine lt_push ?_ | refine lt_grow ?_ (by assumption))) _ | refine Grow.wf (by assumption) ?_)), (by repeat (first | with_reducible assumption | with_reducible exact Grow.refl _ | with_reducible refine Grow.push ?_ _ | with_reducible refine Grow.bump ?_ _ | with_reducible refine Grow.set ?_ (by first | omega | (simp only [H.nx_push, H.nx_set]; omega)) (by repeat (first | with_reducible assumption | omega | (simp only [H.nx_push, H.nx_set]; omega) | exact At.lt (by assumption) | with_reducible refine lt_bump ?_ | with_reducible refine lt_set ?_ | exact lt_new | with_reducible refine lt_push ?_ | refine lt_grow ?_ (by assumption))) _ | refine Grow.trans ?_ (by assumption)))⟩, by simp only; omega, hstep⟩
  · have hkn : k = n := by omega
    subst hkn
    repeat' (first | with_reducible refine wo_nil ?_ | ((with_reducible refine wo_any ?_); first | ((with_reducible refine ik_move ?_); refine wo_op rfl (op_move rfl) rfl rfl ?_) | ((with_reducible refine ik_assign ?_); refine wo_op rfl (op_assign rfl) rfl rfl ?_) | ((with_reducible refine ik_callb ?_); refine wo_op rfl (op_lenSl rfl Tryz.underlying45) rfl rfl ?_) | ((with_reducible refine ik_bin ?_); refine wo_op rfl (op_lss rfl rfl) rfl rfl ?_)) | with_reducible refine sq_norm ?_ | with_reducible refine wc_seq ?_ | with_reducible refine wc_region ?_ | with_reducible refine wc_ret ?_ | with_reducible refine wc_exit ?_ | with_reducible refine sq_exit ?_ | with_reducible refine lq_exit ?_ | refine bq_eq rfl ?_ | (refine wc_if rfl (fun hb => ?_) (fun hb => ?_) <;> (try simp only [decide_eq_true_eq, decide_eq_false_iff_not, Bool.not_eq_true', Bool.not_eq_false', Int.not_lt, Int.not_le, Decidable.not_not, not_true_eq_false, not_false_eq_true, beq_self_eq_true, reduceCtorEq] at hb) <;> (try (exfalso; omega))))
    refine rq1 rfl ⟨?_, hgr⟩
    rw [← hS]; unfold enL; rw [hLn]
/-- What Energy answers. -/
def enR (l : List Nat) : Value := if lchk l ≠ 0 then .tuple #[.int .i64 0, .int .i64 (lchk l)] else .tuple #[.int .i64 (enL (l.map smp)), .int .i64 0]
theorem c62 {v : Value} {n : Nat} {l : List Nat} (s : Sl G h 1 v n (l.map (.float .f32))) (hn : n < 1000000) (hw : Wf h) : Cf (mz G) (.func (.func 62) #[] #[]) [v] h fun r h' => r = enR l ∧ Grow h h' := by
  obtain ⟨a, c, rfl⟩ := s.form
  have hl := s.length
  simp at hl
  by_cases hz : lchk l = 0
  · obtain ⟨k1, k2⟩ := lchk_ok hz
    have hLn : (l.map smp).length = n := by simpa using hl
    have hX := smp_bound k2
    have q106 := fun (h' : H) (g : Grow h h') => c106 (s.grow g) hn
    rw [hz] at q106
    refine cf_enter0 27 [.tmp 2, .tmp 3] Tryz.func62 rfl rfl rfl rfl ?_
    repeat' (first | with_reducible refine wo_nil ?_ | ((with_reducible refine wo_any ?_); first | ((with_reducible refine ik_move ?_); refine wo_op rfl (op_move rfl) rfl rfl ?_) | ((with_reducible refine ik_assign ?_); refine wo_op rfl (op_assign rfl) rfl rfl ?_) | ((with_reducible refine ik_bin ?_); refine wo_op rfl (op_neq rfl rfl) rfl rfl ?_) | ((with_reducible refine ik_callb ?_); refine wo_op rfl (op_lenSl rfl Tryz.underlying25) rfl rfl ?_) | ((with_reducible refine ik_callv ?_); refine wo_op rfl (op_call rfl rfl (q106 _ (by repeat (first | with_reducible assumption | with_reducible exact Grow.refl _ | with_reducible refine Grow.push ?_ _ | with_reducible refine Grow.bump ?_ _ | with_reducible refine Grow.set ?_ (by first | omega | (simp only [H.nx_push, H.nx_set]; omega)) (by repeat (first | with_reducible assumption | omega | (simp only [H.nx_push, H.nx_set]; omega) | exact At.lt (by assumption) | with_reducible refine lt_bump ?_ | with_reducible refine lt_set ?_ | exact lt_new | with_reducible refine lt_push ?_ | refine lt_grow ?_ (by assumption))) _ | refine Grow.trans ?_ (by assumption))))) rfl rfl ?_) | ((with_reducible refine ik_callF (f := 134) ?_); (refine wo_call rfl rfl rfl rfl (c134f (s.grow (by repeat (first | with_reducible assumption | with_reducible exact Grow.refl _ | with_reducible refine Grow.push ?_ _ | with_reducible refine Grow.bump ?_ _ | with_reducible refine Grow.set ?_ (by first | omega | (simp only [H.nx_push, H.nx_set]; omega)) (by repeat (first | with_reducible assumption | omega | (simp only [H.nx_push, H.nx_set]; omega) | exact At.lt (by assumption) | with_reducible refine lt_bump ?_ | with_reducible refine lt_set ?_ | exact lt_new | with_reducible refine lt_push ?_ | refine lt_grow ?_ (by assumption))) _ | refine Grow.trans ?_ (by assumption)))) hn k2 (by repeat (first | with_reducible assumption | exact Wf.empty | with_reducible refine Wf.push ?_ _ | with_reducible refine Wf.bump ?_ _ | with_reducible refine Wf.set ?_ (by repeat (first | with_reducible assumption | omega | (simp only [H.nx_push, H.nx_set]; omega) | exact At.lt (by assumption) | with_reducible refine lt_bump ?_ | with_reducible refine lt_set ?_ | exact lt_new | with_reducible refine lt_push ?_ | refine lt_grow ?_ (by assumption))) _ | refine Grow.wf (by assumption) ?_))) rfl rfl ?_; rintro _ _ ⟨⟨a1, c1, rfl, s1⟩, hq⟩; have hqn := hq.nx; (try simp only [H.nx_push, H.nx_set] at hqn)))) | with_reducible refine sq_norm ?_ | with_reducible refine wc_seq ?_ | with_reducible refine wc_region ?_ | with_reducible refine wc_skip ?_ | with_reducible refine wc_block ?_ | refine wc_iff rfl ?_)
    refine wc_loop (fun p : Nat × Int => n - p.1) (fun p => [(14, .slice a1 n c1), (15, .int .i64 n), (5, .int .i64 p.2), (16, .int .i64 (p.1 : Nat))]) (fun p h' => (Grow h h' ∧ Sl G h' 1 (.slice a1 n c1) n ((l.map smp).map (.int .i64))) ∧ p.1 ≤ n ∧ sumN p.1 (sqv (l.map smp)) = p.2) (0, 0) (within_lk ⟨rfl, rfl, rfl, rfl, trivial⟩) ⟨⟨(by repeat (first | with_reducible assumption | with_reducible exact Grow.refl _ | with_reducible refine Grow.push ?_ _ | with_reducible refine Grow.bump ?_ _ | with_reducible refine Grow.set ?_ (by first | omega | (simp only [H.nx_push, H.nx_set]; omega)) (by repeat (first | with_reducible assumption | omega | (simp only [H.nx_push, H.nx_set]; omega) | exact At.lt (by assumption) | with_reducible refine lt_bump ?_ | with_reducible refine lt_set ?_ | exact lt_new | with_reducible refine lt_push ?_ | refine lt_grow ?_ (by assumption))) _ | refine Grow.trans ?_ (by assumption))), s1⟩, Nat.zero_le _, by unfold sumN; rfl⟩ ?_
    rintro ⟨k, S⟩ h' ⟨⟨hgr, s2⟩, hk, hS⟩
    simp only at hk hS ⊢
    have hsb : (sumN k (sqv (l.map smp))).natAbs ≤ k * (16384 * 16384) := sumN_bound fun i _ => sqv_bound hX i
    rw [hS] at hsb
    by_cases hlt : k < n
    · obtain ⟨ad, h1, h3⟩ := slI_at s2 (i := (k : Int)) hlt rfl
      have hstep : sumN (k + 1) (sqv (l.map smp)) = S + sqv (l.map smp) k := by rw [sumN, hS]
      obtain ⟨x, hx⟩ : ∃ x, (l.map smp).getD k 0 = x := ⟨_, rfl⟩
      have hq : sqv (l.map smp) k = x * x := by unfold sqv; rw [hx]
      have hqb := sqv_bound hX k
      rw [hq] at hstep hqb
      rw [hx] at h3
      repeat' (first | with_reducible refine wo_nil ?_ | ((with_reducible refine wo_any ?_); first | ((with_reducible refine ik_move ?_); refine wo_op rfl (op_move rfl) rfl rfl ?_) | ((with_reducible refine ik_assign ?_); refine wo_op rfl (op_assign rfl) rfl rfl ?_) | ((with_reducible refine ik_indexAddr ?_); refine wo_op rfl (op_indexAddr rfl rfl h1) rfl rfl ?_) | ((with_reducible refine ik_load ?_); refine wo_op rfl (op_ldCell rfl Tryz.underlying3 rfl h3) rfl rfl ?_) | ((with_reducible refine ik_bin ?_); first | refine wo_op rfl (op_lss rfl rfl) rfl rfl ?_ | refine wo_op rfl (op_mul' rfl rfl (w64 (by omega) (by omega))) rfl rfl ?_ | refine wo_op rfl (op_add' rfl rfl (w64 (by omega) (by omega))) rfl rfl ?_)) | with_reducible refine sq_norm ?_ | with_reducible refine wc_seq ?_ | with_reducible refine wc_region ?_ | with_reducible refine wc_skip ?_ | with_reducible refine wc_block ?_ | with_reducible refine bq_norm ?_ | (refine wc_if rfl (fun hb => ?_) (fun hb => ?_) <;> (try simp only [decide_eq_true_eq, decide_eq_false_iff_not, Bool.not_eq_true', Bool.not_eq_false', Int.not_lt, Int.not_le, Decidable.not_not, not_true_eq_false, not_false_eq_true, beq_self_eq_true, reduceCtorEq] at hb) <;> (try (exfalso; omega))))
      all_goals exact lq_norm (k + 1, S + x * x) (by simp only; omega) (within_lk ⟨rfl, rfl, rfl, rfl, trivial⟩) ⟨⟨(by repeat (first | with_reducible assumption | with_reducible exact Grow.refl _ | with_reducible refine Grow.push ?_ _ | with_reducible refine Grow.bump ?_ _ | with_reducible refine Grow.set ?_ (by first | omega | (simp only [H.nx_push, H.nx_set]; omega)) (by repeat (first | with_reducible assumption | omega | (simp only [H.nx_push, H.nx_set]; omega) | exact At.lt (by assumption) | with_reducible refine lt_bump ?_ | with_reducible refine lt_set ?_ | exact lt_new | with_reducible refine lt_push ?_ | refine lt_grow ?_ (by assumption))) _ | refine Grow.trans ?_ (by assumption))), s2.grow (by repeat (first | with_reducible assumption | with_reducible exact Grow.refl _ | with_reducible refine Grow.push ?_ _ | with_reducible refine Grow.bump ?_ _ | with_reducible refine Grow.set ?_ (by first | omega | (simp only [H.nx_push, H.nx_set]; omega)) (by repeat (first | with_reducible assumption | omega | (simp only [H.nx_push, H.nx_set]; omega) | exact At.lt (by assumption) | with_reducible refine lt_bump ?_ | with_reducible refine lt_set ?_ | exact lt_new | with_reducible refine lt_push ?_ | refine lt_grow ?_ (by assumption))) _ | refine Grow.trans ?_ (by assumption)))⟩, by simp only; omega, hstep⟩
    · have hkn : k = n := by omega
      subst hkn
      repeat' (first | with_reducible refine wo_nil ?_ | ((with_reducible refine wo_any ?_); first | ((with_reducible refine ik_move ?_); refine wo_op rfl (op_move rfl) rfl rfl ?_) | ((with_reducible refine ik_assign ?_); refine wo_op rfl (op_assign rfl) rfl rfl ?_) | ((with_reducible refine ik_bin ?_); refine wo_op rfl (op_lss rfl rfl) rfl rfl ?_)) | with_reducible refine sq_norm ?_ | with_reducible refine wc_seq ?_ | with_reducible refine wc_region ?_ | with_reducible refine wc_ret ?_ | with_reducible refine wc_exit ?_ | with_reducible refine sq_exit ?_ | with_reducible refine lq_exit ?_ | refine bq_eq rfl ?_ | (refine wc_if rfl (fun hb => ?_) (fun hb => ?_) <;> (try simp only [decide_eq_true_eq, decide_eq_false_iff_not, Bool.not_eq_true', Bool.not_eq_false', Int.not_lt, Int.not_le, Decidable.not_not, not_true_eq_false, not_false_eq_true, beq_self_eq_true, reduceCtorEq] at hb) <;> (try (exfalso; omega))))
      refine rq2 rfl rfl ⟨?_, hgr⟩
      unfold enR
      rw [if_neg (by simpa using hz), ← hS]; unfold enL; rw [hLn]
  · refine cf_enter0 27 [.tmp 2, .tmp 3] Tryz.func62 rfl rfl rfl rfl ?_
    repeat' (first | with_reducible refine wo_nil ?_ | ((with_reducible refine wo_any ?_); first | ((with_reducible refine ik_move ?_); refine wo_op rfl (op_move rfl) rfl rfl ?_) | ((with_reducible refine ik_assign ?_); refine wo_op rfl (op_assign rfl) rfl rfl ?_) | ((with_reducible refine ik_bin ?_); refine wo_op rfl (op_neq rfl rfl) rfl rfl ?_) | ((with_reducible refine ik_callF (f := 106) ?_); refine wo_op rfl (op_call rfl rfl (c106 (s.grow (by repeat (first | with_reducible assumption | with_reducible exact Grow.refl _ | with_reducible refine Grow.push ?_ _ | with_reducible refine Grow.bump ?_ _ | with_reducible refine Grow.set ?_ (by first | omega | (simp only [H.nx_push, H.nx_set]; omega)) (by repeat (first | with_reducible assumption | omega | (simp only [H.nx_push, H.nx_set]; omega) | exact At.lt (by assumption) | with_reducible refine lt_bump ?_ | with_reducible refine lt_set ?_ | exact lt_new | with_reducible refine lt_push ?_ | refine lt_grow ?_ (by assumption))) _ | refine Grow.trans ?_ (by assumption)))) hn)) rfl rfl ?_)) | with_reducible refine sq_norm ?_ | with_reducible refine wc_seq ?_ | with_reducible refine wc_region ?_ | with_reducible refine wc_ret ?_ | with_reducible refine sq_ret ?_ | (refine wc_if rfl (fun hb => ?_) (fun hb => ?_) <;> (try simp only [decide_eq_true_eq, decide_eq_false_iff_not, Bool.not_eq_true', Bool.not_eq_false', Int.not_lt, Int.not_le, Decidable.not_not, not_true_eq_false, not_false_eq_true, beq_self_eq_true, reduceCtorEq] at hb) <;> (try (exfalso; omega))))
    refine rq2 rfl rfl ⟨?_, (by repeat (first | with_reducible assumption | with_reducible exact Grow.refl _ | with_reducible refine Grow.push ?_ _ | with_reducible refine Grow.bump ?_ _ | with_reducible refine Grow.set ?_ (by first | omega | (simp only [H.nx_push, H.nx_set]; omega)) (by repeat (first | with_reducible assumption | omega | (simp only [H.nx_push, H.nx_set]; omega) | exact At.lt (by assumption) | with_reducible refine lt_bump ?_ | with_reducible refine lt_set ?_ | exact lt_new | with_reducible refine lt_push ?_ | refine lt_grow ?_ (by assumption))) _ | refine Grow.trans ?_ (by assumption)))⟩
    unfold enR
    rw [if_pos hz]

/-! the peak -/
def best (x : List Int) : Nat → Nat
  | 0 => 0
  | i + 1 => if (x.getD (best x i) 0).natAbs < (x.getD i 0).natAbs then i else best x i
theorem best_lt (x : List Int) : ∀ i, 1 ≤ i → best x i < i
  | 0, h => by omega
  | 1, _ => by simp [best]
  | i + 2, _ => by
    have := best_lt x (i + 1) (by omega)
    rw [best]
    split <;> omega
theorem best_one (x : List Int) : best x 1 = 0 := by simp [best]
theorem best_top {x : List Int} {A : Nat} (hx : ∀ z ∈ x, z.natAbs ≤ A) {i : Nat} (h : (x.getD (best x i) 0).natAbs = A) : ∀ d, best x (i + d) = best x i
  | 0 => rfl
  | d + 1 => by
    have ih := best_top hx h d
    show best x ((i + d) + 1) = _
    rw [best, ih, if_neg]
    have := getD_bound hx (i + d)
    omega
theorem sq_nat (a : Int) : a * a = ((a.natAbs * a.natAbs : Nat) : Int) := (Int.natAbs_mul_self (a := a)).symm
theorem sq_lt {a b : Int} (h : b * b < a * a) : b.natAbs < a.natAbs := by
  rw [sq_nat, sq_nat] at h
  exact Nat.mul_self_lt_mul_self_iff.1 (by exact_mod_cast h)
theorem sq_ge {a b : Int} (h : a * a ≤ b * b) : ¬ b.natAbs < a.natAbs := fun q => by
  rw [sq_nat, sq_nat] at h
  have := Nat.mul_self_lt_mul_self_iff.2 q
  omega
theorem c69 {v : Value} {n : Nat} {l : List Nat} (s : Sl G h 1 v n (l.map (.float .f32))) (hn : n ≤ 1024) (hl0 : ∀ x ∈ l, smpE x = 0) (hw : Wf h) :
    Cf (mz G) (.func (.func 69) #[] #[]) [v] h fun r h' => r = (if n = 0 then .tuple #[.int .i64 0, .int .i64 12] else .tuple #[.int .i64 (best (l.map smp) n : Nat), .int .i64 0]) ∧ Grow h h' := by
  obtain ⟨a, c, rfl⟩ := s.form
  have hl := s.length
  simp at hl
  have hLn : (l.map smp).length = n := by simpa using hl
  have hX := smp_bound hl0
  by_cases hn0 : n = 0
  · refine cf_enter0 36 [.tmp 2, .tmp 3] Tryz.func69 rfl rfl rfl rfl ?_
    repeat' (first | with_reducible refine wo_nil ?_ | ((with_reducible refine wo_any ?_); first | ((with_reducible refine ik_move ?_); refine wo_op rfl (op_move rfl) rfl rfl ?_) | ((with_reducible refine ik_assign ?_); refine wo_op rfl (op_assign rfl) rfl rfl ?_) | ((with_reducible refine ik_callb ?_); refine wo_op rfl (op_lenSl rfl Tryz.underlying45) rfl rfl ?_) | ((with_reducible refine ik_bin ?_); refine wo_op rfl (op_eql rfl rfl) rfl rfl ?_)) | with_reducible refine sq_norm ?_ | with_reducible refine wc_seq ?_ | with_reducible refine wc_region ?_ | with_reducible refine wc_ret ?_ | with_reducible refine sq_ret ?_ | (refine wc_if rfl (fun hb => ?_) (fun hb => ?_) <;> (try simp only [decide_eq_true_eq, decide_eq_false_iff_not, Bool.not_eq_true', Bool.not_eq_false', Int.not_lt, Int.not_le, Decidable.not_not, not_true_eq_false, not_false_eq_true, beq_self_eq_true, reduceCtorEq] at hb) <;> (try (exfalso; omega))))
    refine rq2 rfl rfl ⟨?_, .refl _⟩
    rw [if_pos hn0]
  rw [if_neg hn0]
  refine cf_enter0 36 [.tmp 2, .tmp 3] Tryz.func69 rfl rfl rfl rfl ?_
  repeat' (first | with_reducible refine wo_nil ?_ | ((with_reducible refine wo_any ?_); first | ((with_reducible refine ik_move ?_); refine wo_op rfl (op_move rfl) rfl rfl ?_) | ((with_reducible refine ik_assign ?_); refine wo_op rfl (op_assign rfl) rfl rfl ?_) | ((with_reducible refine ik_callb ?_); refine wo_op rfl (op_lenSl rfl Tryz.underlying45) rfl rfl ?_) | ((with_reducible refine ik_bin ?_); refine wo_op rfl (op_eql rfl rfl) rfl rfl ?_)) | with_reducible refine sq_norm ?_ | with_reducible refine wc_seq ?_ | with_reducible refine wc_region ?_ | with_reducible refine wc_skip ?_ | with_reducible refine wc_block ?_ | (refine wc_if rfl (fun hb => ?_) (fun hb => ?_) <;> (try simp only [decide_eq_true_eq, decide_eq_false_iff_not, Bool.not_eq_true', Bool.not_eq_false', Int.not_lt, Int.not_le, Decidable.not_not, not_true_eq_false, not_false_eq_true, beq_self_eq_true, reduceCtorEq] at hb) <;> (try (exfalso; omega))))
  refine wc_loop (fun p : Nat × Nat => n - p.1) (fun p => [(0, .slice a n c), (4, .int .i64 (p.2 : Nat)), (5, .int .i64 (p.1 : Nat))]) (fun p h' => (Wf h' ∧ Grow h h') ∧ (1 ≤ p.1 ∧ p.1 ≤ n) ∧ best (l.map smp) p.1 = p.2) (1, 0) (within_lk ⟨rfl, rfl, rfl, trivial⟩) ⟨⟨hw, .refl _⟩, ⟨Nat.le_refl _, by show 1 ≤ n; omega⟩, best_one _⟩ ?_
  rintro ⟨k, t⟩ h' ⟨⟨hw', hgr⟩, hk, hS⟩
  simp only at hk hS ⊢
  have htk := best_lt (l.map smp) k hk.1
  rw [hS] at htk
  by_cases hlt : k < n
  · obtain ⟨ad, h1, h3⟩ := sl_at (s.grow hgr) (i := (k : Int)) hlt rfl
    obtain ⟨bd, g1, g3⟩ := sl_at (s.grow hgr) (i := (t : Int)) (q := t) (by omega) rfl
    have hx0 := hl0 _ (List.getElem_mem (show k < l.length by omega))
    have hy0 := hl0 _ (List.getElem_mem (show t < l.length by omega))
    obtain ⟨x, hx⟩ : ∃ x, smp l[k] = x := ⟨_, rfl⟩
    obtain ⟨y, hy⟩ : ∃ y, smp l[t] = y := ⟨_, rfl⟩
    have hxx : (l.map smp).getD k 0 = x := by rw [map_getD (by omega), hx]
    have hyy : (l.map smp).getD t 0 = y := by rw [map_getD (by omega), hy]
    have hxb := getD_bound hX k
    have hyb := getD_bound hX t
    have hstep : best (l.map smp) (k + 1) = if y.natAbs < x.natAbs then k else t := by rw [best, hS, hxx, hyy]
    rw [hxx] at hxb
    rw [hyy] at hyb
    have hpx := prod_bound hxb hxb
    have hpy := prod_bound hyb hyb
    have q128 := fun (h : H) => c128 (G := G) (h := h) hx0
    rw [hx] at q128
    have r128 := fun (h : H) => c128 (G := G) (h := h) hy0
    rw [hy] at r128
    repeat' (first | with_reducible refine wo_nil ?_ | ((with_reducible refine wo_any ?_); first | ((with_reducible refine ik_move ?_); refine wo_op rfl (op_move rfl) rfl rfl ?_) | ((with_reducible refine ik_assign ?_); refine wo_op rfl (op_assign rfl) rfl rfl ?_) | ((with_reducible refine ik_callb ?_); refine wo_op rfl (op_lenSl rfl Tryz.underlying45) rfl rfl ?_) | ((with_reducible refine ik_bin ?_); first | refine wo_op rfl (op_lss rfl rfl) rfl rfl ?_ | refine wo_op rfl (op_mul' rfl rfl (w64 (by omega) (by omega))) rfl rfl ?_ | refine wo_op rfl (op_gtr rfl rfl) rfl rfl ?_ | refine wo_op rfl (op_add' rfl rfl (w64 (by omega) (by omega))) rfl rfl ?_)) | ((with_reducible refine xk_any ?_); ((with_reducible refine xk_as0 ?_); first | ((with_reducible refine xk_move ?_); refine wx_q (wt_none rfl) rfl rfl (op_q rfl (op_move rfl)) rfl rfl rfl ?_) | ((with_reducible refine xk_assign ?_); refine wx_q (wt_none rfl) rfl rfl (op_q rfl (op_assign rfl)) rfl rfl rfl ?_) | ((with_reducible refine xk_indexAddr ?_); first | refine wx_q (wt_none rfl) rfl rfl (op_q rfl (op_indexAddr rfl rfl h1)) rfl rfl rfl ?_ | refine wx_q (wt_none rfl) rfl rfl (op_q rfl (op_indexAddr rfl rfl g1)) rfl rfl rfl ?_) | ((with_reducible refine xk_load ?_); first | refine wx_h0 (wt_none rfl) rfl (op_q rfl (op_ldCell rfl Tryz.underlying23 rfl h3)) rfl rfl rfl ?_ | refine wx_h0 (wt_none rfl) rfl (op_q rfl (op_ldCell rfl Tryz.underlying23 rfl g3)) rfl rfl rfl ?_) | ((with_reducible refine xk_callv ?_); first | refine wx_ee (wt_none rfl) rfl rfl (op_call rfl rfl (q128 _)) rfl rfl ?_ | refine wx_ee (wt_none rfl) rfl rfl (op_call rfl rfl (r128 _)) rfl rfl ?_) | with_reducible refine wx_nil0 ?_ ?_)) | with_reducible exact obl_nil | with_reducible refine obl_cons ?_ ?_ | ((with_reducible refine ik_obs ?_); first | exact obs_nil | refine obs_skip rfl ?_ | refine obs_chkn rfl rfl (op_q rfl (op_ldCell rfl Tryz.underlying23 rfl h3)) ?_ | refine obs_chkn rfl rfl (op_q rfl (op_ldCell rfl Tryz.underlying23 rfl g3)) ?_) | with_reducible refine sq_norm ?_ | with_reducible refine wc_seq ?_ | with_reducible refine wc_region ?_ | with_reducible refine wc_skip ?_ | with_reducible refine wc_block ?_ | with_reducible refine bq_norm ?_ | (refine wc_if rfl (fun hb => ?_) (fun hb => ?_) <;> (try simp only [decide_eq_true_eq, decide_eq_false_iff_not, Bool.not_eq_true', Bool.not_eq_false', Int.not_lt, Int.not_le, Decidable.not_not, not_true_eq_false, not_false_eq_true, beq_self_eq_true, reduceCtorEq] at hb) <;> (try (exfalso; omega))) | refine wc_draw (id := 7) 12 [0, 0, 3, 7, 15, 0, 0, 96, 224, 511, 1023, 2047] [0, 1, 2, 3, 4, 5, 6, 7, 8, 9, 10, 11] (by kernel_rfl) (by kernel_rfl) rfl rfl rfl ?_)
    · refine lq_norm (k + 1, k) (by simp only; omega) (within_lk ⟨rfl, rfl, rfl, trivial⟩) ⟨⟨(by repeat (first | with_reducible assumption | exact Wf.empty | with_reducible refine Wf.push ?_ _ | with_reducible refine Wf.bump ?_ _ | with_reducible refine Wf.set ?_ (by repeat (first | with_reducible assumption | omega | (simp only [H.nx_push, H.nx_set]; omega) | exact At.lt (by assumption) | with_reducible refine lt_bump ?_ | with_reducible refine lt_set ?_ | exact lt_new | with_reducible refine lt_push ?_ | refine lt_grow ?_ (by assumption))) _ | refine Grow.wf (by assumption) ?_)), (by repeat (first | with_reducible assumption | with_reducible exact Grow.refl _ | with_reducible refine Grow.push ?_ _ | with_reducible refine Grow.bump ?_ _ | with_reducible refine Grow.set ?_ (by first | omega | (simp only [H.nx_push, H.nx_set]; omega)) (by repeat (first | with_reducible assumption | omega | (simp only [H.nx_push, H.nx_set]; omega) | exact At.lt (by assumption) | with_reducible refine lt_bump ?_ | with_reducible refine lt_set ?_ | exact lt_new | with_reducible refine lt_push ?_ | refine lt_grow ?_ (by assumption))) _ | refine Grow.trans ?_ (by assumption)))⟩, by simp only; omega, ?_⟩
      simp only; rw [hstep, if_pos (sq_lt (by omega))]
    · refine lq_norm (k + 1, t) (by simp only; omega) (within_lk ⟨rfl, rfl, rfl, trivial⟩) ⟨⟨(by repeat (first | with_reducible assumption | exact Wf.empty | with_reducible refine Wf.push ?_ _ | with_reducible refine Wf.bump ?_ _ | with_reducible refine Wf.set ?_ (by repeat (first | with_reducible assumption | omega | (simp only [H.nx_push, H.nx_set]; omega) | exact At.lt (by assumption) | with_reducible refine lt_bump ?_ | with_reducible refine lt_set ?_ | exact lt_new | with_reducible refine lt_push ?_ | refine lt_grow ?_ (by assumption))) _ | refine Grow.wf (by assumption) ?_)), (by repeat (first | with_reducible assumption | with_reducible exact Grow.refl _ | with_reducible refine Grow.push ?_ _ | with_reducible refine Grow.bump ?_ _ | with_reducible refine Grow.set ?_ (by first | omega | (simp only [H.nx_push, H.nx_set]; omega)) (by repeat (first | with_reducible assumption | omega | (simp only [H.nx_push, H.nx_set]; omega) | exact At.lt (by assumption) | with_reducible refine lt_bump ?_ | with_reducible refine lt_set ?_ | exact lt_new | with_reducible refine lt_push ?_ | refine lt_grow ?_ (by assumption))) _ | refine Grow.trans ?_ (by assumption)))⟩, by simp only; omega, ?_⟩
      simp only; rw [hstep, if_neg (sq_ge (by omega))]
  · have hkn : k = n := by omega
    subst hkn
    repeat' (first | with_reducible refine wo_nil ?_ | ((with_reducible refine wo_any ?_); first | ((with_reducible refine ik_move ?_); refine wo_op rfl (op_move rfl) rfl rfl ?_) | ((with_reducible refine ik_assign ?_); refine wo_op rfl (op_assign rfl) rfl rfl ?_) | ((with_reducible refine ik_callb ?_); refine wo_op rfl (op_lenSl rfl Tryz.underlying45) rfl rfl ?_) | ((with_reducible refine ik_bin ?_); refine wo_op rfl (op_lss rfl rfl) rfl rfl ?_)) | with_reducible refine sq_norm ?_ | with_reducible refine wc_seq ?_ | with_reducible refine wc_region ?_ | with_reducible refine wc_ret ?_ | with_reducible refine wc_exit ?_ | with_reducible refine sq_exit ?_ | with_reducible refine lq_exit ?_ | refine bq_eq rfl ?_ | (refine wc_if rfl (fun hb => ?_) (fun hb => ?_) <;> (try simp only [decide_eq_true_eq, decide_eq_false_iff_not, Bool.not_eq_true', Bool.not_eq_false', Int.not_lt, Int.not_le, Decidable.not_not, not_true_eq_false, not_false_eq_true, beq_self_eq_true, reduceCtorEq] at hb) <;> (try (exfalso; omega))))
    refine rq2 rfl rfl ⟨?_, hgr⟩
    rw [hS]
/-- What Peak answers. -/
def pkR (l : List Nat) : Value := if lchk l ≠ 0 then .tuple #[.int .i64 0, .int .i64 (lchk l)] else if l.length = 0 then .tuple #[.int .i64 0, .int .i64 12] else .tuple #[.int .i64 (best (l.map smp) l.length : Nat), .int .i64 0]
theorem c63 {v : Value} {n : Nat} {l : List Nat} (s : Sl G h 1 v n (l.map (.float .f32))) (hn : n < 1000000) (hw : Wf h) : Cf (mz G) (.func (.func 63) #[] #[]) [v] h fun r h' => r = pkR l ∧ Grow h h' := by
  obtain ⟨a, c, rfl⟩ := s.form
  have hl := s.length
  simp at hl
  by_cases hz : lchk l = 0
  · obtain ⟨k1, k2⟩ := lchk_ok hz
    have hLn : (l.map smp).length = n := by simpa using hl
    have hX := smp_bound k2
    have q106 := fun (h' : H) (g : Grow h h') => c106 (s.grow g) hn
    rw [hz] at q106
    have fin : ∀ {r : Value}, r = (if n = 0 then .tuple #[.int .i64 0, .int .i64 12] else .tuple #[.int .i64 (best (l.map smp) n : Nat), .int .i64 0]) → r = pkR l := fun q => by
      unfold pkR; rw [if_neg (by simpa using hz), hl]; exact q
    by_cases hn0 : n = 0
    · refine cf_enter0 42 [.tmp 2, .tmp 3] Tryz.func63 rfl rfl rfl rfl ?_
      repeat' (first | with_reducible refine wo_nil ?_ | ((with_reducible refine wo_any ?_); first | ((with_reducible refine ik_move ?_); refine wo_op rfl (op_move rfl) rfl rfl ?_) | ((with_reducible refine ik_assign ?_); refine wo_op rfl (op_assign rfl) rfl rfl ?_) | ((with_reducible refine ik_bin ?_); first | refine wo_op rfl (op_neq rfl rfl) rfl rfl ?_ | refine wo_op rfl (op_eql rfl rfl) rfl rfl ?_) | ((with_reducible refine ik_callb ?_); refine wo_op rfl (op_lenSl rfl Tryz.underlying45) rfl rfl ?_) | ((with_reducible refine ik_callv ?_); refine wo_op rfl (op_call rfl rfl (q106 _ (by repeat (first | with_reducible assumption | with_reducible exact Grow.refl _ | with_reducible refine Grow.push ?_ _ | with_reducible refine Grow.bump ?_ _ | with_reducible refine Grow.set ?_ (by first | omega | (simp only [H.nx_push, H.nx_set]; omega)) (by repeat (first | with_reducible assumption | omega | (simp only [H.nx_push, H.nx_set]; omega) | exact At.lt (by assumption) | with_reducible refine lt_bump ?_ | with_reducible refine lt_set ?_ | exact lt_new | with_reducible refine lt_push ?_ | refine lt_grow ?_ (by assumption))) _ | refine Grow.trans ?_ (by assumption))))) rfl rfl ?_)) | with_reducible refine sq_norm ?_ | with_reducible refine wc_seq ?_ | with_reducible refine wc_region ?_ | with_reducible refine wc_skip ?_ | with_reducible refine wc_ret ?_ | with_reducible refine wc_scope ?_ | with_reducible refine sq_ret ?_ | refine wc_iff rfl ?_ | (refine wc_if rfl (fun hb => ?_) (fun hb => ?_) <;> (try simp only [decide_eq_true_eq, decide_eq_false_iff_not, Bool.not_eq_true', Bool.not_eq_false', Int.not_lt, Int.not_le, Decidable.not_not, not_true_eq_false, not_false_eq_true, beq_self_eq_true, reduceCtorEq] at hb) <;> (try (exfalso; omega))))
      refine rq2 rfl rfl ⟨fin ?_, (by repeat (first | with_reducible assumption | with_reducible exact Grow.refl _ | with_reducible refine Grow.push ?_ _ | with_reducible refine Grow.bump ?_ _ | with_reducible refine Grow.set ?_ (by first | omega | (simp only [H.nx_push, H.nx_set]; omega)) (by repeat (first | with_reducible assumption | omega | (simp only [H.nx_push, H.nx_set]; omega) | exact At.lt (by assumption) | with_reducible refine lt_bump ?_ | with_reducible refine lt_set ?_ | exact lt_new | with_reducible refine lt_push ?_ | refine lt_grow ?_ (by assumption))) _ | refine Grow.trans ?_ (by assumption)))⟩
      rw [if_pos hn0]
    rw [if_neg hn0] at fin
    refine cf_enter0 42 [.tmp 2, .tmp 3] Tryz.func63 rfl rfl rfl rfl ?_
    repeat' (first | with_reducible refine wo_nil ?_ | ((with_reducible refine wo_any ?_); first | ((with_reducible refine ik_move ?_); refine wo_op rfl (op_move rfl) rfl rfl ?_) | ((with_reducible refine ik_assign ?_); refine wo_op rfl (op_assign rfl) rfl rfl ?_) | ((with_reducible refine ik_bin ?_); first | refine wo_op rfl (op_neq rfl rfl) rfl rfl ?_ | refine wo_op rfl (op_eql rfl rfl) rfl rfl ?_) | ((with_reducible refine ik_callb ?_); first | refine wo_op rfl (op_lenSl rfl Tryz.underlying45) rfl rfl ?_ | refine wo_op rfl (op_lenSl rfl Tryz.underlying25) rfl rfl ?_) | ((with_reducible refine ik_callv ?_); refine wo_op rfl (op_call rfl rfl (q106 _ (by repeat (first | with_reducible assumption | with_reducible exact Grow.refl _ | with_reducible refine Grow.push ?_ _ | with_reducible refine Grow.bump ?_ _ | with_reducible refine Grow.set ?_ (by first | omega | (simp only [H.nx_push, H.nx_set]; omega)) (by repeat (first | with_reducible assumption | omega | (simp only [H.nx_push, H.nx_set]; omega) | exact At.lt (by assumption) | with_reducible refine lt_bump ?_ | with_reducible refine lt_set ?_ | exact lt_new | with_reducible refine lt_push ?_ | refine lt_grow ?_ (by assumption))) _ | refine Grow.trans ?_ (by assumption))))) rfl rfl ?_) | ((with_reducible refine ik_callF (f := 134) ?_); (refine wo_call rfl rfl rfl rfl (c134f (s.grow (by repeat (first | with_reducible assumption | with_reducible exact Grow.refl _ | with_reducible refine Grow.push ?_ _ | with_reducible refine Grow.bump ?_ _ | with_reducible refine Grow.set ?_ (by first | omega | (simp only [H.nx_push, H.nx_set]; omega)) (by repeat (first | with_reducible assumption | omega | (simp only [H.nx_push, H.nx_set]; omega) | exact At.lt (by assumption) | with_reducible refine lt_bump ?_ | with_reducible refine lt_set ?_ | exact lt_new | with_reducible refine lt_push ?_ | refine lt_grow ?_ (by assumption))) _ | refine Grow.trans ?_ (by assumption)))) hn k2 (by repeat (first | with_reducible assumption | exact Wf.empty | with_reducible refine Wf.push ?_ _ | with_reducible refine Wf.bump ?_ _ | with_reducible refine Wf.set ?_ (by repeat (first | with_reducible assumption | omega | (simp only [H.nx_push, H.nx_set]; omega) | exact At.lt (by assumption) | with_reducible refine lt_bump ?_ | with_reducible refine lt_set ?_ | exact lt_new | with_reducible refine lt_push ?_ | refine lt_grow ?_ (by assumption))) _ | refine Grow.wf (by assumption) ?_))) rfl rfl ?_; rintro _ _ ⟨⟨a1, c1, rfl, s1⟩, hq⟩; have hqn := hq.nx; (try simp only [H.nx_push, H.nx_set] at hqn)))) | with_reducible refine sq_norm ?_ | with_reducible refine wc_seq ?_ | with_reducible refine wc_region ?_ | with_reducible refine wc_skip ?_ | with_reducible refine wc_label ?_ | with_reducible refine wc_block ?_ | with_reducible refine wc_scope ?_ | refine wc_iff rfl ?_ | (refine wc_if rfl (fun hb => ?_) (fun hb => ?_) <;> (try simp only [decide_eq_true_eq, decide_eq_false_iff_not, Bool.not_eq_true', Bool.not_eq_false', Int.not_lt, Int.not_le, Decidable.not_not, not_true_eq_false, not_false_eq_true, beq_self_eq_true, reduceCtorEq] at hb) <;> (try (exfalso; omega))))
    refine wc_loop (fun p : Nat × Nat × Nat => n - p.1) (fun p => [(19, .slice a1 n c1), (20, .int .i64 n), (5, .int .i64 (p.2.1 : Nat)), (6, .int .i64 (p.2.2 : Nat)), (21, .int .i64 (p.1 : Nat))])
      (fun p h' => (Grow h h' ∧ Sl G h' 1 (.slice a1 n c1) n ((l.map smp).map (.int .i64))) ∧ p.1 ≤ n ∧ best (l.map smp) p.1 = p.2.1 ∧ p.2.2 < 16384 ∧ p.2.2 = (if p.1 = 0 then 0 else ((l.map smp).getD p.2.1 0).natAbs)) (0, 0, 0) (within_lk ⟨rfl, rfl, rfl, rfl, rfl, trivial⟩) ⟨⟨(by repeat (first | with_reducible assumption | with_reducible exact Grow.refl _ | with_reducible refine Grow.push ?_ _ | with_reducible refine Grow.bump ?_ _ | with_reducible refine Grow.set ?_ (by first | omega | (simp only [H.nx_push, H.nx_set]; omega)) (by repeat (first | with_reducible assumption | omega | (simp only [H.nx_push, H.nx_set]; omega) | exact At.lt (by assumption) | with_reducible refine lt_bump ?_ | with_reducible refine lt_set ?_ | exact lt_new | with_reducible refine lt_push ?_ | refine lt_grow ?_ (by assumption))) _ | refine Grow.trans ?_ (by assumption))), s1⟩, Nat.zero_le _, rfl, by decide, rfl⟩ ?_
    rintro ⟨k, t, z⟩ h' ⟨⟨hgr, s2⟩, hk, hS, hz1, hz2⟩
    simp only at hk hS hz1 hz2 ⊢
    by_cases hlt : k < n
    · obtain ⟨ad, h1, h3⟩ := slI_at s2 (i := (k : Int)) hlt rfl
      obtain ⟨x, hx⟩ : ∃ x, (l.map smp).getD k 0 = x := ⟨_, rfl⟩
      have hxb := getD_bound hX k
      rw [hx] at h3 hxb
      have hstep : best (l.map smp) (k + 1) = if z < x.natAbs then k else t := by
        rw [best, hS, hx]
        by_cases hk0 : k = 0
        · subst hk0
          rw [if_pos rfl] at hz2
          have : t = 0 := by rw [← hS]; rfl
          subst this
          rw [hx]; simp
        · rw [if_neg hk0] at hz2
          rw [← hz2]
      have hmx : max x (0 - x) = (x.natAbs : Int) := by omega
      by_cases htop : x.natAbs = 16384
      · repeat' (first | with_reducible refine wo_nil ?_ | ((with_reducible refine wo_any ?_); first | ((with_reducible refine ik_move ?_); refine wo_op rfl (op_move rfl) rfl rfl ?_) | ((with_reducible refine ik_assign ?_); refine wo_op rfl (op_assign rfl) rfl rfl ?_) | ((with_reducible refine ik_indexAddr ?_); refine wo_op rfl (op_indexAddr rfl rfl h1) rfl rfl ?_) | ((with_reducible refine ik_load ?_); refine wo_op rfl (op_ldCell rfl Tryz.underlying3 rfl h3) rfl rfl ?_) | ((with_reducible refine ik_bin ?_); first | refine wo_op rfl (op_eql rfl rfl) rfl rfl ?_ | refine wo_op rfl (op_lss rfl rfl) rfl rfl ?_) | ((with_reducible refine ik_callb ?_); refine wo_op rfl (op_max rfl rfl) rfl rfl ?_) | ((with_reducible refine ik_un ?_); refine wo_op rfl (op_neg' rfl (w64 (by omega) (by omega))) rfl rfl ?_)) | with_reducible refine sq_norm ?_ | with_reducible refine wc_seq ?_ | with_reducible refine wc_region ?_ | with_reducible refine wc_skip ?_ | with_reducible refine wc_ret ?_ | with_reducible refine wc_exit ?_ | with_reducible refine wc_block ?_ | with_reducible refine sq_exit ?_ | with_reducible refine lq_exit ?_ | refine bq_eq rfl ?_ | refine bq_ne rfl ?_ | (refine wc_if rfl (fun hb => ?_) (fun hb => ?_) <;> (try simp only [decide_eq_true_eq, decide_eq_false_iff_not, Bool.not_eq_true', Bool.not_eq_false', Int.not_lt, Int.not_le, Decidable.not_not, not_true_eq_false, not_false_eq_true, beq_self_eq_true, reduceCtorEq] at hb) <;> (try (exfalso; omega))))
        refine rq2 rfl rfl ⟨fin ?_, hgr⟩
        rw [if_pos (by omega)] at hstep
        have := best_top hX (i := k + 1) (by rw [hstep, hx]; exact htop) (n - (k + 1))
        rw [show k + 1 + (n - (k + 1)) = n by omega, hstep] at this
        rw [this]
        try rfl
      by_cases hgt : z < x.natAbs
      · repeat' (first | with_reducible refine wo_nil ?_ | ((with_reducible refine wo_any ?_); first | ((with_reducible refine ik_move ?_); refine wo_op rfl (op_move rfl) rfl rfl ?_) | ((with_reducible refine ik_assign ?_); refine wo_op rfl (op_assign rfl) rfl rfl ?_) | ((with_reducible refine ik_indexAddr ?_); refine wo_op rfl (op_indexAddr rfl rfl h1) rfl rfl ?_) | ((with_reducible refine ik_load ?_); refine wo_op rfl (op_ldCell rfl Tryz.underlying3 rfl h3) rfl rfl ?_) | ((with_reducible refine ik_bin ?_); first | refine wo_op rfl (op_eql rfl rfl) rfl rfl ?_ | refine wo_op rfl (op_lss rfl rfl) rfl rfl ?_ | refine wo_op rfl (op_gtr rfl rfl) rfl rfl ?_ | refine wo_op rfl (op_add' rfl rfl (w64 (by omega) (by omega))) rfl rfl ?_) | ((with_reducible refine ik_callb ?_); refine wo_op rfl (op_max rfl rfl) rfl rfl ?_) | ((with_reducible refine ik_un ?_); refine wo_op rfl (op_neg' rfl (w64 (by omega) (by omega))) rfl rfl ?_)) | with_reducible refine sq_norm ?_ | with_reducible refine wc_seq ?_ | with_reducible refine wc_region ?_ | with_reducible refine wc_skip ?_ | with_reducible refine wc_block ?_ | with_reducible refine bq_norm ?_ | (refine wc_if rfl (fun hb => ?_) (fun hb => ?_) <;> (try simp only [decide_eq_true_eq, decide_eq_false_iff_not, Bool.not_eq_true', Bool.not_eq_false', Int.not_lt, Int.not_le, Decidable.not_not, not_true_eq_false, not_false_eq_true, beq_self_eq_true, reduceCtorEq] at hb) <;> (try (exfalso; omega))))
        rw [if_pos hgt] at hstep
        rw [hmx]
        exact lq_norm (k + 1, k, x.natAbs) (by simp only; omega) (within_lk ⟨rfl, rfl, rfl, rfl, rfl, trivial⟩) ⟨⟨(by repeat (first | with_reducible assumption | with_reducible exact Grow.refl _ | with_reducible refine Grow.push ?_ _ | with_reducible refine Grow.bump ?_ _ | with_reducible refine Grow.set ?_ (by first | omega | (simp only [H.nx_push, H.nx_set]; omega)) (by repeat (first | with_reducible assumption | omega | (simp only [H.nx_push, H.nx_set]; omega) | exact At.lt (by assumption) | with_reducible refine lt_bump ?_ | with_reducible refine lt_set ?_ | exact lt_new | with_reducible refine lt_push ?_ | refine lt_grow ?_ (by assumption))) _ | refine Grow.trans ?_ (by assumption))), s2.grow (by repeat (first | with_reducible assumption | with_reducible exact Grow.refl _ | with_reducible refine Grow.push ?_ _ | with_reducible refine Grow.bump ?_ _ | with_reducible refine Grow.set ?_ (by first | omega | (simp only [H.nx_push, H.nx_set]; omega)) (by repeat (first | with_reducible assumption | omega | (simp only [H.nx_push, H.nx_set]; omega) | exact At.lt (by assumption) | with_reducible refine lt_bump ?_ | with_reducible refine lt_set ?_ | exact lt_new | with_reducible refine lt_push ?_ | refine lt_grow ?_ (by assumption))) _ | refine Grow.trans ?_ (by assumption)))⟩, by simp only; omega, hstep, by simp only; omega, by simp only; rw [if_neg (by omega), hx]⟩
      · repeat' (first | with_reducible refine wo_nil ?_ | ((with_reducible refine wo_any ?_); first | ((with_reducible refine ik_move ?_); refine wo_op rfl (op_move rfl) rfl rfl ?_) | ((with_reducible refine ik_assign ?_); refine wo_op rfl (op_assign rfl) rfl rfl ?_) | ((with_reducible refine ik_indexAddr ?_); refine wo_op rfl (op_indexAddr rfl rfl h1) rfl rfl ?_) | ((with_reducible refine ik_load ?_); refine wo_op rfl (op_ldCell rfl Tryz.underlying3 rfl h3) rfl rfl ?_) | ((with_reducible refine ik_bin ?_); first | refine wo_op rfl (op_eql rfl rfl) rfl rfl ?_ | refine wo_op rfl (op_lss rfl rfl) rfl rfl ?_ | refine wo_op rfl (op_gtr rfl rfl) rfl rfl ?_ | refine wo_op rfl (op_add' rfl rfl (w64 (by omega) (by omega))) rfl rfl ?_) | ((with_reducible refine ik_callb ?_); refine wo_op rfl (op_max rfl rfl) rfl rfl ?_) | ((with_reducible refine ik_un ?_); refine wo_op rfl (op_neg' rfl (w64 (by omega) (by omega))) rfl rfl ?_)) | with_reducible refine sq_norm ?_ | with_reducible refine wc_seq ?_ | with_reducible refine wc_region ?_ | with_reducible refine wc_skip ?_ | with_reducible refine wc_block ?_ | with_reducible refine bq_norm ?_ | (refine wc_if rfl (fun hb => ?_) (fun hb => ?_) <;> (try simp only [decide_eq_true_eq, decide_eq_false_iff_not, Bool.not_eq_true', Bool.not_eq_false', Int.not_lt, Int.not_le, Decidable.not_not, not_true_eq_false, not_false_eq_true, beq_self_eq_true, reduceCtorEq] at hb) <;> (try (exfalso; omega))))
        rw [if_neg hgt] at hstep
        refine lq_norm (k + 1, t, z) (by simp only; omega) (within_lk ⟨rfl, rfl, rfl, rfl, rfl, trivial⟩) ⟨⟨(by repeat (first | with_reducible assumption | with_reducible exact Grow.refl _ | with_reducible refine Grow.push ?_ _ | with_reducible refine Grow.bump ?_ _ | with_reducible refine Grow.set ?_ (by first | omega | (simp only [H.nx_push, H.nx_set]; omega)) (by repeat (first | with_reducible assumption | omega | (simp only [H.nx_push, H.nx_set]; omega) | exact At.lt (by assumption) | with_reducible refine lt_bump ?_ | with_reducible refine lt_set ?_ | exact lt_new | with_reducible refine lt_push ?_ | refine lt_grow ?_ (by assumption))) _ | refine Grow.trans ?_ (by assumption))), s2.grow (by repeat (first | with_reducible assumption | with_reducible exact Grow.refl _ | with_reducible refine Grow.push ?_ _ | with_reducible refine Grow.bump ?_ _ | with_reducible refine Grow.set ?_ (by first | omega | (simp only [H.nx_push, H.nx_set]; omega)) (by repeat (first | with_reducible assumption | omega | (simp only [H.nx_push, H.nx_set]; omega) | exact At.lt (by assumption) | with_reducible refine lt_bump ?_ | with_reducible refine lt_set ?_ | exact lt_new | with_reducible refine lt_push ?_ | refine lt_grow ?_ (by assumption))) _ | refine Grow.trans ?_ (by assumption)))⟩, by simp only; omega, hstep, by simp only; omega, ?_⟩
        simp only
        rw [if_neg (by omega)]
        by_cases hk0 : k = 0
        · subst hk0
          rw [if_pos rfl] at hz2
          have : t = 0 := by rw [← hS]; rfl
          subst this
          rw [hx]; omega
        · rw [if_neg hk0] at hz2
          exact hz2
    · have hkn : k = n := by omega
      subst hkn
      repeat' (first | with_reducible refine wo_nil ?_ | ((with_reducible refine wo_any ?_); first | ((with_reducible refine ik_move ?_); refine wo_op rfl (op_move rfl) rfl rfl ?_) | ((with_reducible refine ik_assign ?_); refine wo_op rfl (op_assign rfl) rfl rfl ?_) | ((with_reducible refine ik_bin ?_); refine wo_op rfl (op_lss rfl rfl) rfl rfl ?_)) | with_reducible refine sq_norm ?_ | with_reducible refine wc_seq ?_ | with_reducible refine wc_region ?_ | with_reducible refine wc_ret ?_ | with_reducible refine wc_exit ?_ | with_reducible refine sq_exit ?_ | with_reducible refine lq_exit ?_ | refine bq_eq rfl ?_ | (refine wc_if rfl (fun hb => ?_) (fun hb => ?_) <;> (try simp only [decide_eq_true_eq, decide_eq_false_iff_not, Bool.not_eq_true', Bool.not_eq_false', Int.not_lt, Int.not_le, Decidable.not_not, not_true_eq_false, not_false_eq_true, beq_self_eq_true, reduceCtorEq] at hb) <;> (try (exfalso; omega))))
      refine rq2 rfl rfl ⟨fin ?_, hgr⟩
      rw [hS]
  · refine cf_enter0 42 [.tmp 2, .tmp 3] Tryz.func63 rfl rfl rfl rfl ?_
    repeat' (first | with_reducible refine wo_nil ?_ | ((with_reducible refine wo_any ?_); first | ((with_reducible refine ik_move ?_); refine wo_op rfl (op_move rfl) rfl rfl ?_) | ((with_reducible refine ik_assign ?_); refine wo_op rfl (op_assign rfl) rfl rfl ?_) | ((with_reducible refine ik_bin ?_); refine wo_op rfl (op_neq rfl rfl) rfl rfl ?_) | ((with_reducible refine ik_callF (f := 106) ?_); refine wo_op rfl (op_call rfl rfl (c106 (s.grow (by repeat (first | with_reducible assumption | with_reducible exact Grow.refl _ | with_reducible refine Grow.push ?_ _ | with_reducible refine Grow.bump ?_ _ | with_reducible refine Grow.set ?_ (by first | omega | (simp only [H.nx_push, H.nx_set]; omega)) (by repeat (first | with_reducible assumption | omega | (simp only [H.nx_push, H.nx_set]; omega) | exact At.lt (by assumption) | with_reducible refine lt_bump ?_ | with_reducible refine lt_set ?_ | exact lt_new | with_reducible refine lt_push ?_ | refine lt_grow ?_ (by assumption))) _ | refine Grow.trans ?_ (by assumption)))) hn)) rfl rfl ?_)) | with_reducible refine sq_norm ?_ | with_reducible refine wc_seq ?_ | with_reducible refine wc_region ?_ | with_reducible refine wc_ret ?_ | with_reducible refine wc_scope ?_ | with_reducible refine sq_ret ?_ | (refine wc_if rfl (fun hb => ?_) (fun hb => ?_) <;> (try simp only [decide_eq_true_eq, decide_eq_false_iff_not, Bool.not_eq_true', Bool.not_eq_false', Int.not_lt, Int.not_le, Decidable.not_not, not_true_eq_false, not_false_eq_true, beq_self_eq_true, reduceCtorEq] at hb) <;> (try (exfalso; omega))))
    refine rq2 rfl rfl ⟨?_, (by repeat (first | with_reducible assumption | with_reducible exact Grow.refl _ | with_reducible refine Grow.push ?_ _ | with_reducible refine Grow.bump ?_ _ | with_reducible refine Grow.set ?_ (by first | omega | (simp only [H.nx_push, H.nx_set]; omega)) (by repeat (first | with_reducible assumption | omega | (simp only [H.nx_push, H.nx_set]; omega) | exact At.lt (by assumption) | with_reducible refine lt_bump ?_ | with_reducible refine lt_set ?_ | exact lt_new | with_reducible refine lt_push ?_ | refine lt_grow ?_ (by assumption))) _ | refine Grow.trans ?_ (by assumption)))⟩
    unfold pkR
    rw [if_pos hz]
end Go.Proofs.YtdelgpbfdimefaaGreatDoor

/- What the functions on lists answer, in one form; the reference's correlation. -/
namespace Go.Proofs.YtdelgpbfdimefaaGreatDoor
open Go Go.Ab Go.Fl
attribute [local irreducible] SeqQ BlkQ LpQ RetQ Wc Wo WD WX Op1 Op1q Op1a Cf Cl From
attribute [local irreducible] Ieee.Format.order Ieee.Format.read Ieee.Format.nearest Ieee.Format.write Ieee.Format.mul Ieee.Format.div Ieee.Datum.order Ieee.Datum.integral smpE smp smpW K J U spread sumN
set_option maxRecDepth 10000
variable {G : Base} {h : H}

theorem c67 {v w : Value} {n m : Nat} {l t : List Nat} (s : Sl G h 1 v n (l.map (.float .f32))) (u : Sl G h 1 w m (t.map (.float .f32))) (hn : n ≤ 1024) (hm : m ≤ 1024) (hl0 : ∀ x ∈ l, smpE x = 0) (ht0 : ∀ x ∈ t, smpE x = 0) (hw : Wf h) :
    Cf (mz G) (.func (.func 67) #[] #[]) [v, w] h fun r h' => (if n = 0 ∨ m = 0 then r = .slice none 0 0 else Sl G h' 1 r (n + m - 1) ((corL (l.map smp) (t.map smp)).map (.int .i64))) ∧ Grow h h' := by
  obtain ⟨a, c, rfl⟩ := s.form
  obtain ⟨b, d, rfl⟩ := u.form
  have hl := s.length
  have ht := u.length
  simp at hl ht
  by_cases hn0 : n = 0 ∨ m = 0
  · refine cf_enter0 64 [.tmp 4] Tryz.func67 rfl rfl rfl rfl ?_
    repeat' (first | with_reducible refine wo_nil ?_ | ((with_reducible refine wo_any ?_); first | ((with_reducible refine ik_move ?_); refine wo_op rfl (op_move rfl) rfl rfl ?_) | ((with_reducible refine ik_assign ?_); refine wo_op rfl (op_assign rfl) rfl rfl ?_) | ((with_reducible refine ik_callb ?_); refine wo_op rfl (op_lenSl rfl Tryz.underlying45) rfl rfl ?_) | ((with_reducible refine ik_bin ?_); refine wo_op rfl (op_eql rfl rfl) rfl rfl ?_) | ((with_reducible refine ik_pick ?_); first | refine wo_op rfl (op_pickt rfl rfl) rfl rfl ?_ | refine wo_op rfl (op_pickf rfl rfl) rfl rfl ?_) | ((with_reducible refine ik_g ?_); first | refine wo_gskip rfl rfl rfl rfl rfl rfl ?_ | ((with_reducible refine ig_move ?_); refine wo_grun rfl rfl rfl (op_move rfl) rfl rfl ?_) | ((with_reducible refine ig_callb ?_); refine wo_grun rfl rfl rfl (op_lenSl rfl Tryz.underlying45) rfl rfl ?_) | ((with_reducible refine ig_bin ?_); refine wo_grun rfl rfl rfl (op_eql rfl rfl) rfl rfl ?_) | (refine wo_gsplit rfl rfl rfl (fun hb => ?_) (fun hb => ?_) <;> (try simp only [decide_eq_true_eq, decide_eq_false_iff_not, Bool.not_eq_true', Bool.not_eq_false', Int.not_lt, Int.not_le, Decidable.not_not, not_true_eq_false, not_false_eq_true, beq_self_eq_true, reduceCtorEq] at hb) <;> (try (exfalso; omega))))) | with_reducible refine sq_norm ?_ | with_reducible refine wc_seq ?_ | with_reducible refine wc_region ?_ | with_reducible refine wc_ret ?_ | with_reducible refine sq_ret ?_ | refine wc_ift rfl ?_ | (refine wc_if rfl (fun hb => ?_) (fun hb => ?_) <;> (try simp only [decide_eq_true_eq, decide_eq_false_iff_not, Bool.not_eq_true', Bool.not_eq_false', Int.not_lt, Int.not_le, Decidable.not_not, not_true_eq_false, not_false_eq_true, beq_self_eq_true, reduceCtorEq] at hb) <;> (try (exfalso; omega))))
    all_goals
      refine rq1 rfl ⟨?_, .refl _⟩
      rw [if_pos hn0]
  obtain ⟨N, hN1, hN2⟩ : ∃ N : Nat, (n : Int) + m - 1 = (N : Int) ∧ N = n + m - 1 := ⟨n + m - 1, by omega, rfl⟩
  have hxL : (l.map smp).length = n := by simpa using hl
  have hyL : (t.map smp).length = m := by simpa using ht
  have hcb := colw_bound (smp_bound hl0) (smp_bound ht0)
  simp only [if_neg hn0]
  rw [← hN2]
  have hcl : corL (l.map smp) (t.map smp) = (List.range N).map fun k => sumN m (colw (l.map smp) (t.map smp) k) := by unfold corL; rw [hxL, hyL, hN2]
  rw [hcl]
  refine cf_enter0 64 [.tmp 4] Tryz.func67 rfl rfl rfl rfl ?_
  repeat' (first | with_reducible refine wo_nil ?_ | ((with_reducible refine wo_any ?_); first | ((with_reducible refine ik_move ?_); refine wo_op rfl (op_move rfl) rfl rfl ?_) | ((with_reducible refine ik_assign ?_); refine wo_op rfl (op_assign rfl) rfl rfl ?_) | ((with_reducible refine ik_callb ?_); refine wo_op rfl (op_lenSl rfl Tryz.underlying45) rfl rfl ?_) | ((with_reducible refine ik_bin ?_); first | refine wo_op rfl (op_eql rfl rfl) rfl rfl ?_ | refine wo_op rfl (op_sub' rfl rfl (w64 (by omega) (by omega))) rfl rfl ?_) | ((with_reducible refine ik_pick ?_); refine wo_op rfl (op_pickf rfl rfl) rfl rfl ?_) | ((with_reducible refine ik_g ?_); first | ((with_reducible refine ig_move ?_); refine wo_grun rfl rfl rfl (op_move rfl) rfl rfl ?_) | ((with_reducible refine ig_callb ?_); refine wo_grun rfl rfl rfl (op_lenSl rfl Tryz.underlying45) rfl rfl ?_) | ((with_reducible refine ig_bin ?_); refine wo_grun rfl rfl rfl (op_eql rfl rfl) rfl rfl ?_) | (refine wo_gsplit rfl rfl rfl (fun hb => ?_) (fun hb => ?_) <;> (try simp only [decide_eq_true_eq, decide_eq_false_iff_not, Bool.not_eq_true', Bool.not_eq_false', Int.not_lt, Int.not_le, Decidable.not_not, not_true_eq_false, not_false_eq_true, beq_self_eq_true, reduceCtorEq] at hb) <;> (try (exfalso; omega))))) | with_reducible refine sq_norm ?_ | with_reducible refine wc_seq ?_ | with_reducible refine wc_region ?_ | with_reducible refine wc_skip ?_ | with_reducible refine wc_block ?_ | (refine wc_if rfl (fun hb => ?_) (fun hb => ?_) <;> (try simp only [decide_eq_true_eq, decide_eq_false_iff_not, Bool.not_eq_true', Bool.not_eq_false', Int.not_lt, Int.not_le, Decidable.not_not, not_true_eq_false, not_false_eq_true, beq_self_eq_true, reduceCtorEq] at hb) <;> (try (exfalso; omega))))
  refine wc_loop (fun p : Nat × Value => N - p.1) (fun p => [(0, .slice a n c), (1, .slice b m d), (5, p.2), (6, .int .i64 ((p.1 : Nat) + (1 - (m : Int))))])
    (fun p h' => (Wf h' ∧ Ow h h' 3 1 p.2 p.1 (((List.range p.1).map fun k => sumN m (colw (l.map smp) (t.map smp) k)).map (.int .i64))) ∧ p.1 ≤ N) (0, .slice none 0 0) (within_lk ⟨rfl, rfl, rfl, by simp only [lk]; simp, trivial⟩) ⟨⟨hw, .nil (.refl _)⟩, Nat.zero_le _⟩ ?_
  rintro ⟨k, r⟩ h' ⟨⟨hw', ow⟩, hk⟩
  simp only at ow hk ⊢
  have hgr := ow.grow
  by_cases hlt : k < N
  · repeat' (first | with_reducible refine wo_nil ?_ | ((with_reducible refine wo_any ?_); first | ((with_reducible refine ik_move ?_); refine wo_op rfl (op_move rfl) rfl rfl ?_) | ((with_reducible refine ik_assign ?_); refine wo_op rfl (op_assign rfl) rfl rfl ?_) | ((with_reducible refine ik_callb ?_); refine wo_op rfl (op_lenSl rfl Tryz.underlying45) rfl rfl ?_) | ((with_reducible refine ik_bin ?_); refine wo_op rfl (op_lss rfl rfl) rfl rfl ?_)) | with_reducible refine sq_norm ?_ | with_reducible refine wc_seq ?_ | with_reducible refine wc_region ?_ | with_reducible refine wc_skip ?_ | with_reducible refine wc_block ?_ | (refine wc_if rfl (fun hb => ?_) (fun hb => ?_) <;> (try simp only [decide_eq_true_eq, decide_eq_false_iff_not, Bool.not_eq_true', Bool.not_eq_false', Int.not_lt, Int.not_le, Decidable.not_not, not_true_eq_false, not_false_eq_true, beq_self_eq_true, reduceCtorEq] at hb) <;> (try (exfalso; omega))))
    refine wc_loop (fun p : Nat × Int => m - p.1) (fun p => [(0, .slice a n c), (1, .slice b m d), (5, r), (6, .int .i64 ((k : Nat) + (1 - (m : Int)))), (7, .int .i64 p.2), (8, .int .i64 (p.1 : Nat))]) (fun p h2 => (Wf h2 ∧ Ow h h2 3 1 r k (((List.range k).map fun k => sumN m (colw (l.map smp) (t.map smp) k)).map (.int .i64))) ∧ p.1 ≤ m ∧ sumN p.1 (colw (l.map smp) (t.map smp) k) = p.2) (0, 0) (within_lk ⟨rfl, rfl, rfl, rfl, rfl, rfl, trivial⟩) ⟨⟨hw', ow⟩, Nat.zero_le _, by unfold sumN; rfl⟩ ?_
    rintro ⟨j, S⟩ h2 ⟨⟨hw2, ow2⟩, hj, hS⟩
    simp only at hj hS ⊢
    have hsb : (sumN j (colw (l.map smp) (t.map smp) k)).natAbs ≤ j * (16384 * 16384) := sumN_bound fun i _ => hcb k i
    rw [hS] at hsb
    by_cases hjt : j < m
    · have hstep : sumN (j + 1) (colw (l.map smp) (t.map smp) k) = S + colw (l.map smp) (t.map smp) k j := by rw [sumN, hS]
      by_cases hin : m - 1 ≤ j + k ∧ j + k - (m - 1) < n
      · obtain ⟨ad, h1, h3⟩ := sl_at (s.grow ow2.grow) (i := (j : Int) + ((k : Int) + (1 - (m : Int)))) (q := j + k - (m - 1)) (by omega) (by omega)
        obtain ⟨bd, g1, g3⟩ := sl_at (u.grow ow2.grow) (i := (j : Int)) (q := j) (by omega) rfl
        have hx0 := hl0 _ (List.getElem_mem (show j + k - (m - 1) < l.length by omega))
        have hy0 := ht0 _ (List.getElem_mem (show j < t.length by omega))
        obtain ⟨x, hx⟩ : ∃ x, smp l[j + k - (m - 1)] = x := ⟨_, rfl⟩
        obtain ⟨y, hy⟩ : ∃ y, smp t[j] = y := ⟨_, rfl⟩
        have hc1 : colw (l.map smp) (t.map smp) k j = x * y := by
          unfold colw
          rw [hyL, hxL, if_pos hin, map_getD (by omega), map_getD (by omega), hx, hy]
        have hpb := hcb k j
        rw [hc1] at hpb hstep
        have q128 := fun (h : H) => c128 (G := G) (h := h) hx0
        rw [hx] at q128
        have r128 := fun (h : H) => c128 (G := G) (h := h) hy0
        rw [hy] at r128
        repeat' (first | with_reducible refine wo_nil ?_ | ((with_reducible refine wo_any ?_); first | ((with_reducible refine ik_move ?_); refine wo_op rfl (op_move rfl) rfl rfl ?_) | ((with_reducible refine ik_assign ?_); refine wo_op rfl (op_assign rfl) rfl rfl ?_) | ((with_reducible refine ik_callb ?_); refine wo_op rfl (op_lenSl rfl Tryz.underlying45) rfl rfl ?_) | ((with_reducible refine ik_bin ?_); first | refine wo_op rfl (op_lss rfl rfl) rfl rfl ?_ | refine wo_op rfl (op_add' rfl rfl (w64 (by omega) (by omega))) rfl rfl ?_ | refine wo_op rfl (op_geq rfl rfl) rfl rfl ?_) | ((with_reducible refine ik_pick ?_); refine wo_op rfl (op_pickt rfl rfl) rfl rfl ?_) | ((with_reducible refine ik_g ?_); first | ((with_reducible refine ig_move ?_); refine wo_grun rfl rfl rfl (op_move rfl) rfl rfl ?_) | ((with_reducible refine ig_callb ?_); refine wo_grun rfl rfl rfl (op_lenSl rfl Tryz.underlying45) rfl rfl ?_) | ((with_reducible refine ig_bin ?_); first | refine wo_grun rfl rfl rfl (op_lss rfl rfl) rfl rfl ?_ | refine wo_grun rfl rfl rfl (op_add' rfl rfl (w64 (by omega) (by omega))) rfl rfl ?_) | (refine wo_gsplit rfl rfl rfl (fun hb => ?_) (fun hb => ?_) <;> (try simp only [decide_eq_true_eq, decide_eq_false_iff_not, Bool.not_eq_true', Bool.not_eq_false', Int.not_lt, Int.not_le, Decidable.not_not, not_true_eq_false, not_false_eq_true, beq_self_eq_true, reduceCtorEq] at hb) <;> (try (exfalso; omega))))) | ((with_reducible refine xk_any ?_); ((with_reducible refine xk_as0 ?_); first | ((with_reducible refine xk_move ?_); refine wx_q (wt_none rfl) rfl rfl (op_q rfl (op_move rfl)) rfl rfl rfl ?_) | ((with_reducible refine xk_assign ?_); refine wx_q (wt_none rfl) rfl rfl (op_q rfl (op_assign rfl)) rfl rfl rfl ?_) | ((with_reducible refine xk_indexAddr ?_); first | refine wx_q (wt_none rfl) rfl rfl (op_q rfl (op_indexAddr rfl rfl h1)) rfl rfl rfl ?_ | refine wx_q (wt_none rfl) rfl rfl (op_q rfl (op_indexAddr rfl rfl g1)) rfl rfl rfl ?_) | ((with_reducible refine xk_load ?_); first | refine wx_h0 (wt_none rfl) rfl (op_q rfl (op_ldCell rfl Tryz.underlying23 rfl g3)) rfl rfl rfl ?_ | refine wx_h0 (wt_none rfl) rfl (op_q rfl (op_ldCell rfl Tryz.underlying23 rfl h3)) rfl rfl rfl ?_) | ((with_reducible refine xk_bin ?_); first | refine wx_q (wt_none rfl) rfl rfl (op_q rfl (op_add' rfl rfl (w64 (by omega) (by omega)))) rfl rfl rfl ?_ | refine wx_q (wt_none rfl) rfl rfl (op_q rfl (op_mul' rfl rfl (w64 (by omega) (by omega)))) rfl rfl rfl ?_) | ((with_reducible refine xk_callv ?_); first | refine wx_ee (wt_none rfl) rfl rfl (op_call rfl rfl (q128 _)) rfl rfl ?_ | refine wx_ee (wt_none rfl) rfl rfl (op_call rfl rfl (r128 _)) rfl rfl ?_) | with_reducible refine wx_nil0 ?_ ?_)) | with_reducible exact obl_nil | with_reducible refine obl_cons ?_ ?_ | ((with_reducible refine ik_obs ?_); first | exact obs_nil | refine obs_skip rfl ?_ | refine obs_chkn rfl rfl (op_q rfl (op_ldCell rfl Tryz.underlying23 rfl g3)) ?_ | refine obs_chkn rfl rfl (op_q rfl (op_ldCell rfl Tryz.underlying23 rfl h3)) ?_) | with_reducible refine sq_norm ?_ | with_reducible refine wc_seq ?_ | with_reducible refine wc_region ?_ | with_reducible refine wc_skip ?_ | with_reducible refine wc_block ?_ | with_reducible refine bq_norm ?_ | (refine wc_if rfl (fun hb => ?_) (fun hb => ?_) <;> (try simp only [decide_eq_true_eq, decide_eq_false_iff_not, Bool.not_eq_true', Bool.not_eq_false', Int.not_lt, Int.not_le, Decidable.not_not, not_true_eq_false, not_false_eq_true, beq_self_eq_true, reduceCtorEq] at hb) <;> (try (exfalso; omega))) | refine wc_draw (id := 12) 16 [0, 0, 0, 0, 12, 30, 62, 126, 0, 0, 768, 1792, 4094, 8190, 16383, 32767] [0, 1, 2, 3, 4, 5, 6, 7, 8, 9, 10, 11, 12, 13, 14, 15] (by kernel_rfl) (by kernel_rfl) rfl rfl rfl ?_)
        all_goals exact lq_norm (j + 1, S + x * y) (by simp only; omega) (within_lk ⟨rfl, rfl, rfl, rfl, rfl, rfl, trivial⟩) ⟨⟨(by repeat (first | with_reducible assumption | exact Wf.empty | with_reducible refine Wf.push ?_ _ | with_reducible refine Wf.bump ?_ _ | with_reducible refine Wf.set ?_ (by repeat (first | with_reducible assumption | omega | (simp only [H.nx_push, H.nx_set]; omega) | exact At.lt (by assumption) | with_reducible refine lt_bump ?_ | with_reducible refine lt_set ?_ | exact lt_new | with_reducible refine lt_push ?_ | refine lt_grow ?_ (by assumption))) _ | refine Grow.wf (by assumption) ?_)), ow2.next (by repeat (first | with_reducible assumption | with_reducible exact Grow.refl _ | with_reducible refine Grow.push ?_ _ | with_reducible refine Grow.bump ?_ _ | with_reducible refine Grow.set ?_ (by first | omega | (simp only [H.nx_push, H.nx_set]; omega)) (by repeat (first | with_reducible assumption | omega | (simp only [H.nx_push, H.nx_set]; omega) | exact At.lt (by assumption) | with_reducible refine lt_bump ?_ | with_reducible refine lt_set ?_ | exact lt_new | with_reducible refine lt_push ?_ | refine lt_grow ?_ (by assumption))) _ | refine Grow.trans ?_ (by assumption)))⟩, by simp only; omega, hstep⟩
      · have hc1 : colw (l.map smp) (t.map smp) k j = 0 := by
          unfold colw
          rw [hyL, hxL, if_neg hin]
        rw [hc1, Int.add_zero] at hstep
        repeat' (first | with_reducible refine wo_nil ?_ | ((with_reducible refine wo_any ?_); first | ((with_reducible refine ik_move ?_); refine wo_op rfl (op_move rfl) rfl rfl ?_) | ((with_reducible refine ik_assign ?_); refine wo_op rfl (op_assign rfl) rfl rfl ?_) | ((with_reducible refine ik_callb ?_); refine wo_op rfl (op_lenSl rfl Tryz.underlying45) rfl rfl ?_) | ((with_reducible refine ik_bin ?_); first | refine wo_op rfl (op_lss rfl rfl) rfl rfl ?_ | refine wo_op rfl (op_add' rfl rfl (w64 (by omega) (by omega))) rfl rfl ?_ | refine wo_op rfl (op_geq rfl rfl) rfl rfl ?_) | ((with_reducible refine ik_pick ?_); first | refine wo_op rfl (op_pickt rfl rfl) rfl rfl ?_ | refine wo_op rfl (op_pickf rfl rfl) rfl rfl ?_) | ((with_reducible refine ik_g ?_); first | refine wo_gskip rfl rfl rfl rfl rfl rfl ?_ | ((with_reducible refine ig_move ?_); refine wo_grun rfl rfl rfl (op_move rfl) rfl rfl ?_) | ((with_reducible refine ig_callb ?_); refine wo_grun rfl rfl rfl (op_lenSl rfl Tryz.underlying45) rfl rfl ?_) | ((with_reducible refine ig_bin ?_); first | refine wo_grun rfl rfl rfl (op_lss rfl rfl) rfl rfl ?_ | refine wo_grun rfl rfl rfl (op_add' rfl rfl (w64 (by omega) (by omega))) rfl rfl ?_) | (refine wo_gsplit rfl rfl rfl (fun hb => ?_) (fun hb => ?_) <;> (try simp only [decide_eq_true_eq, decide_eq_false_iff_not, Bool.not_eq_true', Bool.not_eq_false', Int.not_lt, Int.not_le, Decidable.not_not, not_true_eq_false, not_false_eq_true, beq_self_eq_true, reduceCtorEq] at hb) <;> (try (exfalso; omega))))) | with_reducible refine sq_norm ?_ | with_reducible refine wc_seq ?_ | with_reducible refine wc_region ?_ | with_reducible refine wc_skip ?_ | with_reducible refine wc_block ?_ | with_reducible refine bq_norm ?_ | refine wc_iff rfl ?_ | (refine wc_if rfl (fun hb => ?_) (fun hb => ?_) <;> (try simp only [decide_eq_true_eq, decide_eq_false_iff_not, Bool.not_eq_true', Bool.not_eq_false', Int.not_lt, Int.not_le, Decidable.not_not, not_true_eq_false, not_false_eq_true, beq_self_eq_true, reduceCtorEq] at hb) <;> (try (exfalso; omega))))
        all_goals exact lq_norm (j + 1, S) (by simp only; omega) (within_lk ⟨rfl, rfl, rfl, rfl, rfl, rfl, trivial⟩) ⟨⟨hw2, ow2⟩, by simp only; omega, hstep⟩
    · have hjm : j = m := by omega
      subst hjm
      obtain ⟨r2, h3, hap, ow3, _, hwf, _⟩ := append_ow (M := mz G) (st := 25) (xt := 25) (h := h2.push (.cells [.int .i64 S] 3 1 false)) (new := [.int .i64 S]) (m := 1) Tryz.underlying25 Tryz.underlying25 rfl zs3 zb3 zz3 rfl (ow2.next ((Grow.refl _).push _)) (Sl.ofAt (At.new _ _) rfl (Nat.le_refl _)) rfl (by omega)
      repeat' (first | with_reducible refine wo_nil ?_ | ((with_reducible refine wo_any ?_); first | ((with_reducible refine ik_move ?_); refine wo_op rfl (op_move rfl) rfl rfl ?_) | ((with_reducible refine ik_assign ?_); refine wo_op rfl (op_assign rfl) rfl rfl ?_) | ((with_reducible refine ik_callb ?_); first | refine wo_op rfl (op_append rfl rfl hap) rfl rfl ?_ | refine wo_op rfl (op_lenSl rfl Tryz.underlying45) rfl rfl ?_) | ((with_reducible refine ik_bin ?_); first | refine wo_op rfl (op_lss rfl rfl) rfl rfl ?_ | refine wo_op rfl (op_add' rfl rfl (w64 (by omega) (by omega))) rfl rfl ?_) | ((with_reducible refine ik_buildSlice ?_); refine wo_op rfl (op_buildSl rfl Tryz.underlying25 zs3 zz3 rfl rfl) rfl rfl ?_)) | with_reducible refine sq_norm ?_ | with_reducible refine wc_seq ?_ | with_reducible refine wc_region ?_ | with_reducible refine wc_exit ?_ | with_reducible refine bq_norm ?_ | with_reducible refine sq_exit ?_ | with_reducible refine lq_exit ?_ | refine bq_eq rfl ?_ | (refine wc_if rfl (fun hb => ?_) (fun hb => ?_) <;> (try simp only [decide_eq_true_eq, decide_eq_false_iff_not, Bool.not_eq_true', Bool.not_eq_false', Int.not_lt, Int.not_le, Decidable.not_not, not_true_eq_false, not_false_eq_true, beq_self_eq_true, reduceCtorEq] at hb) <;> (try (exfalso; omega))))
      refine lq_norm (k + 1, r2) (by simp only; omega) (within_lk ⟨rfl, rfl, rfl, by simp only [lk]; congr 2; push_cast; omega, trivial⟩) ⟨⟨hwf (hw2.push _), ?_⟩, by simp only; omega⟩
      simp only [List.range_succ, List.map_append, List.map_cons, List.map_nil, hS]
      exact ow3
  · have hkn : k = N := by omega
    subst hkn
    repeat' (first | with_reducible refine wo_nil ?_ | ((with_reducible refine wo_any ?_); first | ((with_reducible refine ik_move ?_); refine wo_op rfl (op_move rfl) rfl rfl ?_) | ((with_reducible refine ik_assign ?_); refine wo_op rfl (op_assign rfl) rfl rfl ?_) | ((with_reducible refine ik_callb ?_); refine wo_op rfl (op_lenSl rfl Tryz.underlying45) rfl rfl ?_) | ((with_reducible refine ik_bin ?_); refine wo_op rfl (op_lss rfl rfl) rfl rfl ?_)) | with_reducible refine sq_norm ?_ | with_reducible refine wc_seq ?_ | with_reducible refine wc_region ?_ | with_reducible refine wc_ret ?_ | with_reducible refine wc_exit ?_ | with_reducible refine sq_exit ?_ | with_reducible refine lq_exit ?_ | refine bq_eq rfl ?_ | (refine wc_if rfl (fun hb => ?_) (fun hb => ?_) <;> (try simp only [decide_eq_true_eq, decide_eq_false_iff_not, Bool.not_eq_true', Bool.not_eq_false', Int.not_lt, Int.not_le, Decidable.not_not, not_true_eq_false, not_false_eq_true, beq_self_eq_true, reduceCtorEq] at hb) <;> (try (exfalso; omega))))
    exact rq1 rfl ⟨ow.sl, hgr⟩
end Go.Proofs.YtdelgpbfdimefaaGreatDoor

/- What the functions on lists answer, in one form. -/
namespace Go.Proofs.YtdelgpbfdimefaaGreatDoor
open Go Go.Ab Go.Fl
variable {G : Base} {h : H}

theorem c59f {v : Value} {n : Nat} {l : List Nat} (s : Sl G h 1 v n (l.map (.float .f32))) (hn : n < 1000000) : Cf (mz G) (.func (.func 59) #[] #[]) [v] h fun r h' => (∃ a c, r = .slice a n c ∧ Sl G h' 1 (.slice a n c) n (l.map (.float .f32))) ∧ Grow h h' :=
  (c59 s hn).mono fun r h' ⟨q, g, _⟩ => by
    obtain ⟨a, c, rfl⟩ := q.form
    exact ⟨⟨a, c, rfl, q⟩, g⟩
theorem c60f {v : Value} {n : Nat} {l : List Int} (s : Sl G h 1 v n (l.map (.int .i64))) (hn : n < 1000000) : Cf (mz G) (.func (.func 60) #[] #[]) [v] h fun r h' => (∃ a c, r = .slice a n c ∧ Sl G h' 1 (.slice a n c) n (l.map (.int .i64))) ∧ Grow h h' :=
  (c60 s hn).mono fun r h' ⟨q, g, _⟩ => by
    obtain ⟨a, c, rfl⟩ := q.form
    exact ⟨⟨a, c, rfl, q⟩, g⟩

def convE (l : List Nat) (t : List Int) : Int := if firstNZ [lchk l, tchk t] ≠ 0 then firstNZ [lchk l, tchk t] else if l.length = 0 then 0 else if 1024 < l.length + t.length - 1 then 5 else if anyLarge (convL (l.map smp) t) then 4 else 0
def convW (l : List Nat) (t : List Int) : List Nat := if convE l t ≠ 0 then [] else if l.length = 0 then [] else (convL (l.map smp) t).map smpW
theorem convP_form {l : List Nat} {t : List Int} {r : Value} {h' : H} (hz : firstNZ [lchk l, tchk t] = 0) (q : convP l t r G h') : ∃ w, r = .tuple #[w, .int .i64 (convE l t)] ∧ Sl G h' 1 w (convW l t).length ((convW l t).map (.float .f32)) := by
  unfold convP at q
  have e0 : convE l t = if l.length = 0 then 0 else if 1024 < l.length + t.length - 1 then 5 else if anyLarge (convL (l.map smp) t) then 4 else 0 := by unfold convE; rw [if_neg (by simpa using hz)]
  by_cases h0 : l.length = 0
  · rw [if_pos h0] at q e0
    have e1 : convW l t = [] := by unfold convW; rw [e0]; simp [h0]
    exact ⟨_, by rw [e0]; exact q, by rw [e1]; exact .nil⟩
  rw [if_neg h0] at q e0
  by_cases h1 : 1024 < l.length + t.length - 1
  · rw [if_pos h1] at q e0
    have e1 : convW l t = [] := by unfold convW; rw [e0]; simp
    exact ⟨_, by rw [e0]; exact q, by rw [e1]; exact .nil⟩
  rw [if_neg h1] at q e0
  by_cases h2 : anyLarge (convL (l.map smp) t) = true
  · rw [if_pos h2] at q e0
    have e1 : convW l t = [] := by unfold convW; rw [e0]; simp
    exact ⟨_, by rw [e0]; exact q, by rw [e1]; exact .nil⟩
  rw [if_neg h2] at q e0
  obtain ⟨u, rfl, su⟩ := q
  have e1 : convW l t = (convL (l.map smp) t).map smpW := by unfold convW; rw [e0]; simp [h0]
  refine ⟨u, by rw [e0], ?_⟩
  rw [e1]
  have : ((convL (l.map smp) t).map smpW).length = l.length + t.length - 1 := by simp [convL]
  rw [this]; exact su
theorem c58w {v w : Value} {n m : Nat} {l : List Nat} {t : List Int} (s : Sl G h 1 v n (l.map (.float .f32))) (u : Sl G h 1 w m (t.map (.int .i64))) (hn : n < 1000000) (hm : m < 1000000) (hw : Wf h) :
    Cf (mz G) (.func (.func 58) #[] #[]) [v, w] h fun r h' => (∃ w, r = .tuple #[w, .int .i64 (convE l t)] ∧ Sl G h' 1 w (convW l t).length ((convW l t).map (.float .f32))) ∧ Grow h h' :=
  (c58 s u hn hm hw).mono fun r h' ⟨q, g⟩ => by
    refine ⟨?_, g⟩
    unfold convR at q
    by_cases hz : firstNZ [lchk l, tchk t] = 0
    · rw [if_neg (by simpa using hz)] at q
      exact convP_form hz q
    · rw [if_pos hz] at q
      have e0 : convE l t = firstNZ [lchk l, tchk t] := by unfold convE; rw [if_pos hz]
      have e1 : convW l t = [] := by unfold convW; rw [e0, if_pos hz]
      exact ⟨_, by rw [e0]; exact q, by rw [e1]; exact .nil⟩
theorem c66w {v w : Value} {n m : Nat} {l : List Nat} {t : List Int} (s : Sl G h 1 v n (l.map (.float .f32))) (u : Sl G h 1 w m (t.map (.int .i64))) (hz : firstNZ [lchk l, tchk t] = 0) (hw : Wf h) :
    Cf (mz G) (.func (.func 66) #[] #[]) [v, w] h fun r h' => (∃ w, r = .tuple #[w, .int .i64 (convE l t)] ∧ Sl G h' 1 w (convW l t).length ((convW l t).map (.float .f32))) ∧ Grow h h' := by
  have hz2 := firstNZ_zero hz
  obtain ⟨k1, k2⟩ := lchk_ok (hz2 (lchk l) (by simp))
  obtain ⟨k3, k4⟩ := tchk_ok (hz2 (tchk t) (by simp))
  have hl := s.length
  have ht := u.length
  simp at hl ht
  exact (c66 s u (by omega) (by omega) k2 k4 hw).mono fun r h' ⟨q, g⟩ => ⟨convP_form hz q, g⟩
def corE (l t : List Nat) : Int := firstNZ [lchk l, lchk t]
def corW (l t : List Nat) : List Int := if corE l t ≠ 0 then [] else if l.length = 0 ∨ t.length = 0 then [] else corL (l.map smp) (t.map smp)
theorem c61w {v w : Value} {n m : Nat} {l t : List Nat} (s : Sl G h 1 v n (l.map (.float .f32))) (u : Sl G h 1 w m (t.map (.float .f32))) (hn : n < 1000000) (hm : m < 1000000) (hw : Wf h) :
    Cf (mz G) (.func (.func 61) #[] #[]) [v, w] h fun r h' => (∃ w, r = .tuple #[w, .int .i64 (corE l t)] ∧ Sl G h' 1 w (corW l t).length ((corW l t).map (.int .i64))) ∧ Grow h h' :=
  (c61 s u hn hm hw).mono fun r h' ⟨q, g⟩ => by
    refine ⟨?_, g⟩
    unfold corR at q
    by_cases hz : firstNZ [lchk l, lchk t] = 0
    · rw [if_neg (by simpa using hz)] at q
      have e0 : corE l t = 0 := hz
      by_cases h0 : l.length = 0 ∨ t.length = 0
      · rw [if_pos h0] at q
        have e1 : corW l t = [] := by unfold corW; rw [e0, if_neg (by simp), if_pos h0]
        exact ⟨_, by rw [e0]; exact q, by rw [e1]; exact .nil⟩
      · rw [if_neg h0] at q
        obtain ⟨u, rfl, su⟩ := q
        have e1 : corW l t = corL (l.map smp) (t.map smp) := by unfold corW; rw [e0, if_neg (by simp), if_neg h0]
        refine ⟨u, by rw [e0], ?_⟩
        rw [e1, show (corL (l.map smp) (t.map smp)).length = l.length + t.length - 1 by simp [corL]]
        exact su
    · rw [if_pos hz] at q
      have e1 : corW l t = [] := by unfold corW corE; rw [if_pos hz]
      exact ⟨_, q, by rw [e1]; exact .nil⟩
theorem c67w {v w : Value} {n m : Nat} {l t : List Nat} (s : Sl G h 1 v n (l.map (.float .f32))) (u : Sl G h 1 w m (t.map (.float .f32))) (hz : firstNZ [lchk l, lchk t] = 0) (hw : Wf h) :
    Cf (mz G) (.func (.func 67) #[] #[]) [v, w] h fun r h' => Sl G h' 1 r (corW l t).length ((corW l t).map (.int .i64)) ∧ Grow h h' := by
  have hz2 := firstNZ_zero hz
  obtain ⟨k1, k2⟩ := lchk_ok (hz2 (lchk l) (by simp))
  obtain ⟨k3, k4⟩ := lchk_ok (hz2 (lchk t) (by simp))
  have hl := s.length
  have ht := u.length
  simp at hl ht
  refine (c67 s u (by omega) (by omega) k2 k4 hw).mono fun r h' ⟨q, g⟩ => ⟨?_, g⟩
  have e0 : corE l t = 0 := hz
  by_cases h0 : n = 0 ∨ m = 0
  · rw [if_pos h0] at q
    have e1 : corW l t = [] := by unfold corW; rw [e0, if_neg (by simp), if_pos (by omega)]
    subst q
    rw [e1]; exact .nil
  · rw [if_neg h0] at q
    have e1 : corW l t = corL (l.map smp) (t.map smp) := by unfold corW; rw [e0, if_neg (by simp), if_neg (by omega)]
    rw [e1, show (corL (l.map smp) (t.map smp)).length = n + m - 1 by simp [corL, hl, ht]]
    exact q
def enV (l : List Nat) : Int := if lchk l ≠ 0 then 0 else enL (l.map smp)
theorem c62w {v : Value} {n : Nat} {l : List Nat} (s : Sl G h 1 v n (l.map (.float .f32))) (hn : n < 1000000) (hw : Wf h) : Cf (mz G) (.func (.func 62) #[] #[]) [v] h fun r h' => r = .tuple #[.int .i64 (enV l), .int .i64 (lchk l)] ∧ Grow h h' :=
  (c62 s hn hw).mono fun r h' ⟨q, g⟩ => by
    refine ⟨?_, g⟩
    unfold enR at q
    unfold enV
    by_cases hz : lchk l = 0
    · rw [if_neg (by simpa using hz)] at q ⊢
      rw [hz]; exact q
    · rw [if_pos hz] at q ⊢
      exact q
theorem c68w {v : Value} {n : Nat} {l : List Nat} (s : Sl G h 1 v n (l.map (.float .f32))) (hz : lchk l = 0) (hw : Wf h) : Cf (mz G) (.func (.func 68) #[] #[]) [v] h fun r h' => r = .int .i64 (enV l) ∧ Grow h h' := by
  obtain ⟨k1, k2⟩ := lchk_ok hz
  have hl := s.length
  simp at hl
  refine (c68 s (by omega) k2 hw).mono fun r h' ⟨q, g⟩ => ⟨?_, g⟩
  unfold enV
  rw [if_neg (by simpa using hz)]; exact q
def pkV (l : List Nat) : Int := if lchk l ≠ 0 then 0 else if l.length = 0 then 0 else (best (l.map smp) l.length : Nat)
def pkE (l : List Nat) : Int := if lchk l ≠ 0 then lchk l else if l.length = 0 then 12 else 0
theorem c63w {v : Value} {n : Nat} {l : List Nat} (s : Sl G h 1 v n (l.map (.float .f32))) (hn : n < 1000000) (hw : Wf h) : Cf (mz G) (.func (.func 63) #[] #[]) [v] h fun r h' => r = .tuple #[.int .i64 (pkV l), .int .i64 (pkE l)] ∧ Grow h h' :=
  (c63 s hn hw).mono fun r h' ⟨q, g⟩ => by
    refine ⟨?_, g⟩
    unfold pkR at q
    unfold pkV pkE
    by_cases hz : lchk l = 0
    · rw [if_neg (by simpa using hz)] at q
      have hz' : ¬ (lchk l ≠ 0) := by simpa using hz
      simp only [if_neg hz']
      by_cases h0 : l.length = 0
      · simp only [if_pos h0] at q ⊢
        exact q
      · simp only [if_neg h0] at q ⊢
        exact q
    · simp only [if_pos (show lchk l ≠ 0 from hz)] at q ⊢
      exact q
theorem c69w {v : Value} {n : Nat} {l : List Nat} (s : Sl G h 1 v n (l.map (.float .f32))) (hz : lchk l = 0) (hw : Wf h) : Cf (mz G) (.func (.func 69) #[] #[]) [v] h fun r h' => r = .tuple #[.int .i64 (pkV l), .int .i64 (pkE l)] ∧ Grow h h' := by
  obtain ⟨k1, k2⟩ := lchk_ok hz
  have hl := s.length
  simp at hl
  refine (c69 s (by omega) k2 hw).mono fun r h' ⟨q, g⟩ => ⟨?_, g⟩
  unfold pkV pkE
  have hz' : ¬ (lchk l ≠ 0) := by simpa using hz
  simp only [if_neg hz', hl]
  by_cases h0 : n = 0
  · simp only [if_pos h0] at q ⊢
    exact q
  · simp only [if_neg h0] at q ⊢
    exact q
theorem convW_self {l : List Nat} {t : List Int} : selfEq (convW l t) := by
  intro x hx
  unfold convW at hx
  by_cases h0 : convE l t ≠ 0
  · rw [if_pos h0] at hx; cases hx
  · rw [if_neg h0] at hx
    by_cases h1 : l.length = 0
    · rw [if_pos h1] at hx; cases hx
    · rw [if_neg h1] at hx
      obtain ⟨z, hz, rfl⟩ := List.mem_map.1 hx
      refine smpW_self ?_
      have he : convE l t = 0 := by simpa using h0
      unfold convE at he
      split at he
      · rename_i q; exact absurd he q
      · try rw [if_neg h1] at he
        split at he
        · exact absurd he (by decide)
        · split at he
          · exact absurd he (by decide)
          · rename_i q
            have q : anyLarge (convL (l.map smp) t) = false := by simpa using q
            unfold anyLarge at q
            rw [List.any_eq_false] at q
            have := of_decide_eq_false (Bool.eq_false_iff.2 (q z hz))
            omega
/-- What is heard is what was made. -/
theorem c56w {v w : Value} {l : List Nat} {t : List Int} (s : Sl G h 1 v (convW l t).length ((convW l t).map (.float .f32))) (u : Sl G h 1 w (convW l t).length ((convW l t).map (.float .f32)) ∨ convE l t ≠ 0) (hn : (convW l t).length < 1000000) : Cf (mz G) (.func (.func 56) #[] #[]) [v, .int .i64 (convE l t), .int .i64 (convE l t), w] h fun r h' => r = .bool true ∧ Grow h h' := by
  by_cases h0 : convE l t = 0
  · rcases u with u | u
    · rw [h0]; exact c56 s u hn convW_self
    · exact absurd h0 u
  · have e1 : convW l t = [] := by unfold convW; rw [if_pos h0]
    rw [e1] at s
    exact c56e s h0
end Go.Proofs.YtdelgpbfdimefaaGreatDoor
