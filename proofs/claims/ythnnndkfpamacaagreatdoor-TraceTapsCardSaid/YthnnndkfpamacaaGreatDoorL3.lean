/- Contracts of functions on lists of samples: energy, peak, correlations by the reference. -/
import Derived.Test.YthnnndkfpamacaaGreatDoorL2
import Derived.Test.YthnnndkfpamacaaGreatDoorK2
set_option linter.all false
/- Energy and peak. -/
namespace Go.Proofs.YthnnndkfpamacaaGreatDoor
open Go Go.Ab Go.Fl
attribute [local irreducible] SeqQ BlkQ LpQ RetQ Wc Wo WD WX Op1 Op1q Op1a Cf Cl From
attribute [local irreducible] Ieee.Format.order Ieee.Format.read Ieee.Format.nearest Ieee.Format.write Ieee.Format.mul Ieee.Format.div Ieee.Datum.order Ieee.Datum.integral smpE smp smpW K J U spread sumN
set_option maxRecDepth 10000
variable {G : Base} {h : H}

def sqv (x : List Int) (i : Nat) : Int := x.getD i 0 * x.getD i 0
def enL (x : List Int) : Int := sumN x.length (sqv x)
theorem sqv_bound {x : List Int} (hx : ∀ z ∈ x, z.natAbs ≤ 16384) (i : Nat) : (sqv x i).natAbs ≤ 16384 * 16384 := prod_bound (getD_bound hx _) (getD_bound hx _)
/-- What Energy answers. -/
def enR (l : List Nat) : Value := if lchk l ≠ 0 then .tuple #[.int .i64 0, .int .i64 (lchk l)] else .tuple #[.int .i64 (enL (l.map smp)), .int .i64 0]
theorem c62 {v : Value} {n : Nat} {l : List Nat} (s : Sl G h 1 v n (l.map (.float .f32))) (hn : n < 1000000) (hw : Wf h) : Cf (mz G) (.func (.func 62) #[] #[]) [v] h fun r h' => r = enR l ∧ Grow h h' := by
  obtain ⟨a, c, rfl⟩ := s.form
  have hl := s.length
  simp at hl
  by_cases hz : lchk l = 0
  · obtain ⟨k1, k2⟩ := lchk_ok hz
    have hLn : (l.map smp).length = n := by simpa using hl
    have hX := smp_bound k2
    have q106 := fun (h' : H) (g : Grow h h') => c107 (s.grow g) hn
    rw [hz] at q106
    refine cf_enter0 27 [.tmp 2, .tmp 3] Tryz.func62 rfl rfl rfl rfl ?_
    repeat' (first | with_reducible refine wo_nil ?_ | ((with_reducible refine wo_any ?_); first | ((with_reducible refine ik_move ?_); refine wo_op rfl (op_move rfl) rfl rfl ?_) | ((with_reducible refine ik_assign ?_); refine wo_op rfl (op_assign rfl) rfl rfl ?_) | ((with_reducible refine ik_bin ?_); refine wo_op rfl (op_neq rfl rfl) rfl rfl ?_) | ((with_reducible refine ik_callb ?_); refine wo_op rfl (op_lenSl rfl Tryz.underlying25) rfl rfl ?_) | ((with_reducible refine ik_callv ?_); refine wo_op rfl (op_call rfl rfl (q106 _ gr_A)) rfl rfl ?_) | ((with_reducible refine ik_callF (f := 135) ?_); (refine wo_call rfl rfl rfl rfl (c135f (s.grow gr_A) hn k2 wf_A) rfl rfl ?_; rintro _ _ ⟨⟨a1, c1, rfl, s1⟩, hq⟩; all_goals ((try (have hqn := hq.nx)); (try simp only [H.nx_push, H.nx_set, H.nx_bump] at hqn))))) | with_reducible refine sq_norm ?_ | with_reducible refine wc_seq ?_ | with_reducible refine wc_region ?_ | with_reducible refine wc_skip ?_ | with_reducible refine wc_block ?_ | refine wc_iff rfl ?_)
    refine wc_loop (fun p : Nat × Int => n - p.1) (fun p => [(14, .slice a1 n c1), (15, .int .i64 n), (5, .int .i64 p.2), (16, .int .i64 (p.1 : Nat))]) (fun p h' => (Grow h h' ∧ Sl G h' 1 (.slice a1 n c1) n ((l.map smp).map (.int .i64))) ∧ p.1 ≤ n ∧ sumN p.1 (sqv (l.map smp)) = p.2) (0, 0) (within_lk ⟨rfl, rfl, rfl, rfl, trivial⟩) ⟨⟨gr_A, s1⟩, Nat.zero_le _, by unfold sumN; rfl⟩ ?_
    rintro ⟨k, S⟩ h' ⟨⟨hgr, s2⟩, hk, hS⟩
    simp only at hk hS ⊢
    have hsb : (sumN k (sqv (l.map smp))).natAbs ≤ k * (16384 * 16384) := sumN_bound fun i _ => sqv_bound hX i
    rw [hS] at hsb
    by_cases hlt : k < n
    · obtain ⟨ad, h1, h3⟩ := slI_at s2 (i := (k : Int)) hlt rfl
      have hstep : sumN (k + 1) (sqv (l.map smp)) = S + sqv (l.map smp) k := by rw [sumN, hS]
      obtain ⟨x, hx⟩ : ∃ x, (l.map smp).getD k 0 = x := ⟨_, rfl⟩
      have hq : sqv (l.map smp) k = x * x := by unfold sqv; rw [hx]
      have hqb := sqv_bound hX k
      rw [hq] at hstep hqb
      rw [hx] at h3
      repeat' (first | with_reducible refine wo_nil ?_ | ((with_reducible refine wo_any ?_); first | ((with_reducible refine ik_move ?_); refine wo_op rfl (op_move rfl) rfl rfl ?_) | ((with_reducible refine ik_assign ?_); refine wo_op rfl (op_assign rfl) rfl rfl ?_) | ((with_reducible refine ik_indexAddr ?_); refine wo_op rfl (op_indexAddr rfl rfl h1) rfl rfl ?_) | ((with_reducible refine ik_load ?_); refine wo_op rfl (op_ldCell rfl Tryz.underlying3 rfl h3) rfl rfl ?_) | ((with_reducible refine ik_bin ?_); first | refine wo_op rfl (op_lss rfl rfl) rfl rfl ?_ | refine wo_op rfl (op_mul' rfl rfl (w64 (by omega) (by omega))) rfl rfl ?_ | refine wo_op rfl (op_add' rfl rfl (w64 (by omega) (by omega))) rfl rfl ?_)) | with_reducible refine sq_norm ?_ | with_reducible refine wc_seq ?_ | with_reducible refine wc_region ?_ | with_reducible refine wc_skip ?_ | with_reducible refine wc_block ?_ | with_reducible refine bq_norm ?_ | (refine wc_if rfl (fun hb => ?_) (fun hb => ?_) <;> (try simp only [decide_eq_true_eq, decide_eq_false_iff_not, Bool.not_eq_true', Bool.not_eq_false', Int.not_lt, Int.not_le, Decidable.not_not, not_true_eq_false, not_false_eq_true, beq_self_eq_true, reduceCtorEq] at hb) <;> (try (exfalso; omega))))
      all_goals exact lq_norm (k + 1, S + x * x) (by simp only; omega) (within_lk ⟨rfl, rfl, rfl, rfl, trivial⟩) ⟨⟨gr_A, s2.grow gr_A⟩, by simp only; omega, hstep⟩
    · have hkn : k = n := by omega
      subst hkn
      repeat' (first | with_reducible refine wo_nil ?_ | ((with_reducible refine wo_any ?_); first | ((with_reducible refine ik_move ?_); refine wo_op rfl (op_move rfl) rfl rfl ?_) | ((with_reducible refine ik_assign ?_); refine wo_op rfl (op_assign rfl) rfl rfl ?_) | ((with_reducible refine ik_bin ?_); refine wo_op rfl (op_lss rfl rfl) rfl rfl ?_)) | with_reducible refine sq_norm ?_ | with_reducible refine wc_seq ?_ | with_reducible refine wc_region ?_ | with_reducible refine wc_ret ?_ | with_reducible refine wc_exit ?_ | with_reducible refine sq_exit ?_ | with_reducible refine lq_exit ?_ | refine bq_eq rfl ?_ | (refine wc_if rfl (fun hb => ?_) (fun hb => ?_) <;> (try simp only [decide_eq_true_eq, decide_eq_false_iff_not, Bool.not_eq_true', Bool.not_eq_false', Int.not_lt, Int.not_le, Decidable.not_not, not_true_eq_false, not_false_eq_true, beq_self_eq_true, reduceCtorEq] at hb) <;> (try (exfalso; omega))))
      refine rq2 rfl rfl ⟨?_, hgr⟩
      unfold enR
      rw [if_neg (by simpa using hz), ← hS]; unfold enL; rw [hLn]
  · refine cf_enter0 27 [.tmp 2, .tmp 3] Tryz.func62 rfl rfl rfl rfl ?_
    repeat' (first | with_reducible refine wo_nil ?_ | ((with_reducible refine wo_any ?_); first | ((with_reducible refine ik_move ?_); refine wo_op rfl (op_move rfl) rfl rfl ?_) | ((with_reducible refine ik_assign ?_); refine wo_op rfl (op_assign rfl) rfl rfl ?_) | ((with_reducible refine ik_bin ?_); refine wo_op rfl (op_neq rfl rfl) rfl rfl ?_) | ((with_reducible refine ik_callF (f := 107) ?_); refine wo_op rfl (op_call rfl rfl (c107 (s.grow gr_A) hn)) rfl rfl ?_)) | with_reducible refine sq_norm ?_ | with_reducible refine wc_seq ?_ | with_reducible refine wc_region ?_ | with_reducible refine wc_ret ?_ | with_reducible refine sq_ret ?_ | (refine wc_if rfl (fun hb => ?_) (fun hb => ?_) <;> (try simp only [decide_eq_true_eq, decide_eq_false_iff_not, Bool.not_eq_true', Bool.not_eq_false', Int.not_lt, Int.not_le, Decidable.not_not, not_true_eq_false, not_false_eq_true, beq_self_eq_true, reduceCtorEq] at hb) <;> (try (exfalso; omega))))
    refine rq2 rfl rfl ⟨?_, gr_A⟩
    unfold enR
    rw [if_pos hz]

/-! the peak -/
def best (x : List Int) : Nat → Nat
  | 0 => 0
  | i + 1 => if (x.getD (best x i) 0).natAbs < (x.getD i 0).natAbs then i else best x i
theorem best_lt (x : List Int) : ∀ i, 1 ≤ i → best x i < i
  | 0, h => by omega
  | 1, _ => by simp [best]
  | i + 2, _ => by
    have := best_lt x (i + 1) (by omega)
    rw [best]
    split <;> omega
theorem best_top {x : List Int} {A : Nat} (hx : ∀ z ∈ x, z.natAbs ≤ A) {i : Nat} (h : (x.getD (best x i) 0).natAbs = A) : ∀ d, best x (i + d) = best x i
  | 0 => rfl
  | d + 1 => by
    have ih := best_top hx h d
    show best x ((i + d) + 1) = _
    rw [best, ih, if_neg]
    have := getD_bound hx (i + d)
    omega
/-- What Peak answers. -/
def pkR (l : List Nat) : Value := if lchk l ≠ 0 then .tuple #[.int .i64 0, .int .i64 (lchk l)] else if l.length = 0 then .tuple #[.int .i64 0, .int .i64 12] else .tuple #[.int .i64 (best (l.map smp) l.length : Nat), .int .i64 0]
theorem c63 {v : Value} {n : Nat} {l : List Nat} (s : Sl G h 1 v n (l.map (.float .f32))) (hn : n < 1000000) (hw : Wf h) : Cf (mz G) (.func (.func 63) #[] #[]) [v] h fun r h' => r = pkR l ∧ Grow h h' := by
  obtain ⟨a, c, rfl⟩ := s.form
  have hl := s.length
  simp at hl
  by_cases hz : lchk l = 0
  · obtain ⟨k1, k2⟩ := lchk_ok hz
    have hLn : (l.map smp).length = n := by simpa using hl
    have hX := smp_bound k2
    have q106 := fun (h' : H) (g : Grow h h') => c107 (s.grow g) hn
    rw [hz] at q106
    have fin : ∀ {r : Value}, r = (if n = 0 then .tuple #[.int .i64 0, .int .i64 12] else .tuple #[.int .i64 (best (l.map smp) n : Nat), .int .i64 0]) → r = pkR l := fun q => by
      unfold pkR; rw [if_neg (by simpa using hz), hl]; exact q
    by_cases hn0 : n = 0
    · refine cf_enter0 42 [.tmp 2, .tmp 3] Tryz.func63 rfl rfl rfl rfl ?_
      repeat' (first | with_reducible refine wo_nil ?_ | ((with_reducible refine wo_any ?_); first | ((with_reducible refine ik_move ?_); refine wo_op rfl (op_move rfl) rfl rfl ?_) | ((with_reducible refine ik_assign ?_); refine wo_op rfl (op_assign rfl) rfl rfl ?_) | ((with_reducible refine ik_bin ?_); first | refine wo_op rfl (op_neq rfl rfl) rfl rfl ?_ | refine wo_op rfl (op_eql rfl rfl) rfl rfl ?_) | ((with_reducible refine ik_callb ?_); refine wo_op rfl (op_lenSl rfl Tryz.underlying45) rfl rfl ?_) | ((with_reducible refine ik_callv ?_); refine wo_op rfl (op_call rfl rfl (q106 _ gr_A)) rfl rfl ?_)) | with_reducible refine sq_norm ?_ | with_reducible refine wc_seq ?_ | with_reducible refine wc_region ?_ | with_reducible refine wc_skip ?_ | with_reducible refine wc_ret ?_ | with_reducible refine wc_scope ?_ | with_reducible refine sq_ret ?_ | refine wc_iff rfl ?_ | (refine wc_if rfl (fun hb => ?_) (fun hb => ?_) <;> (try simp only [decide_eq_true_eq, decide_eq_false_iff_not, Bool.not_eq_true', Bool.not_eq_false', Int.not_lt, Int.not_le, Decidable.not_not, not_true_eq_false, not_false_eq_true, beq_self_eq_true, reduceCtorEq] at hb) <;> (try (exfalso; omega))))
      refine rq2 rfl rfl ⟨fin ?_, gr_A⟩
      rw [if_pos hn0]
    rw [if_neg hn0] at fin
    refine cf_enter0 42 [.tmp 2, .tmp 3] Tryz.func63 rfl rfl rfl rfl ?_
    repeat' (first | with_reducible refine wo_nil ?_ | ((with_reducible refine wo_any ?_); first | ((with_reducible refine ik_move ?_); refine wo_op rfl (op_move rfl) rfl rfl ?_) | ((with_reducible refine ik_assign ?_); refine wo_op rfl (op_assign rfl) rfl rfl ?_) | ((with_reducible refine ik_bin ?_); first | refine wo_op rfl (op_neq rfl rfl) rfl rfl ?_ | refine wo_op rfl (op_eql rfl rfl) rfl rfl ?_) | ((with_reducible refine ik_callb ?_); first | refine wo_op rfl (op_lenSl rfl Tryz.underlying45) rfl rfl ?_ | refine wo_op rfl (op_lenSl rfl Tryz.underlying25) rfl rfl ?_) | ((with_reducible refine ik_callv ?_); refine wo_op rfl (op_call rfl rfl (q106 _ gr_A)) rfl rfl ?_) | ((with_reducible refine ik_callF (f := 135) ?_); (refine wo_call rfl rfl rfl rfl (c135f (s.grow gr_A) hn k2 wf_A) rfl rfl ?_; rintro _ _ ⟨⟨a1, c1, rfl, s1⟩, hq⟩; all_goals ((try (have hqn := hq.nx)); (try simp only [H.nx_push, H.nx_set, H.nx_bump] at hqn))))) | with_reducible refine sq_norm ?_ | with_reducible refine wc_seq ?_ | with_reducible refine wc_region ?_ | with_reducible refine wc_skip ?_ | with_reducible refine wc_label ?_ | with_reducible refine wc_block ?_ | with_reducible refine wc_scope ?_ | refine wc_iff rfl ?_ | (refine wc_if rfl (fun hb => ?_) (fun hb => ?_) <;> (try simp only [decide_eq_true_eq, decide_eq_false_iff_not, Bool.not_eq_true', Bool.not_eq_false', Int.not_lt, Int.not_le, Decidable.not_not, not_true_eq_false, not_false_eq_true, beq_self_eq_true, reduceCtorEq] at hb) <;> (try (exfalso; omega))))
    refine wc_loop (fun p : Nat × Nat × Nat => n - p.1) (fun p => [(19, .slice a1 n c1), (20, .int .i64 n), (5, .int .i64 (p.2.1 : Nat)), (6, .int .i64 (p.2.2 : Nat)), (21, .int .i64 (p.1 : Nat))])
      (fun p h' => (Grow h h' ∧ Sl G h' 1 (.slice a1 n c1) n ((l.map smp).map (.int .i64))) ∧ p.1 ≤ n ∧ best (l.map smp) p.1 = p.2.1 ∧ p.2.2 < 16384 ∧ p.2.2 = (if p.1 = 0 then 0 else ((l.map smp).getD p.2.1 0).natAbs)) (0, 0, 0) (within_lk ⟨rfl, rfl, rfl, rfl, rfl, trivial⟩) ⟨⟨gr_A, s1⟩, Nat.zero_le _, rfl, by decide, rfl⟩ ?_
    rintro ⟨k, t, z⟩ h' ⟨⟨hgr, s2⟩, hk, hS, hz1, hz2⟩
    simp only at hk hS hz1 hz2 ⊢
    by_cases hlt : k < n
    · obtain ⟨ad, h1, h3⟩ := slI_at s2 (i := (k : Int)) hlt rfl
      obtain ⟨x, hx⟩ : ∃ x, (l.map smp).getD k 0 = x := ⟨_, rfl⟩
      have hxb := getD_bound hX k
      rw [hx] at h3 hxb
      have hstep : best (l.map smp) (k + 1) = if z < x.natAbs then k else t := by
        rw [best, hS, hx]
        by_cases hk0 : k = 0
        · subst hk0
          rw [if_pos rfl] at hz2
          have : t = 0 := by rw [← hS]; rfl
          subst this
          rw [hx]; simp
        · rw [if_neg hk0] at hz2
          rw [← hz2]
      have hmx : max x (0 - x) = (x.natAbs : Int) := by omega
      by_cases htop : x.natAbs = 16384
      · repeat' (first | with_reducible refine wo_nil ?_ | ((with_reducible refine wo_any ?_); first | ((with_reducible refine ik_move ?_); refine wo_op rfl (op_move rfl) rfl rfl ?_) | ((with_reducible refine ik_assign ?_); refine wo_op rfl (op_assign rfl) rfl rfl ?_) | ((with_reducible refine ik_indexAddr ?_); refine wo_op rfl (op_indexAddr rfl rfl h1) rfl rfl ?_) | ((with_reducible refine ik_load ?_); refine wo_op rfl (op_ldCell rfl Tryz.underlying3 rfl h3) rfl rfl ?_) | ((with_reducible refine ik_bin ?_); first | refine wo_op rfl (op_eql rfl rfl) rfl rfl ?_ | refine wo_op rfl (op_lss rfl rfl) rfl rfl ?_) | ((with_reducible refine ik_callb ?_); refine wo_op rfl (op_max rfl rfl) rfl rfl ?_) | ((with_reducible refine ik_un ?_); refine wo_op rfl (op_neg' rfl (w64 (by omega) (by omega))) rfl rfl ?_)) | with_reducible refine sq_norm ?_ | with_reducible refine wc_seq ?_ | with_reducible refine wc_region ?_ | with_reducible refine wc_skip ?_ | with_reducible refine wc_ret ?_ | with_reducible refine wc_exit ?_ | with_reducible refine wc_block ?_ | with_reducible refine sq_exit ?_ | with_reducible refine lq_exit ?_ | refine bq_eq rfl ?_ | refine bq_ne rfl ?_ | (refine wc_if rfl (fun hb => ?_) (fun hb => ?_) <;> (try simp only [decide_eq_true_eq, decide_eq_false_iff_not, Bool.not_eq_true', Bool.not_eq_false', Int.not_lt, Int.not_le, Decidable.not_not, not_true_eq_false, not_false_eq_true, beq_self_eq_true, reduceCtorEq] at hb) <;> (try (exfalso; omega))))
        refine rq2 rfl rfl ⟨fin ?_, hgr⟩
        rw [if_pos (by omega)] at hstep
        have := best_top hX (i := k + 1) (by rw [hstep, hx]; exact htop) (n - (k + 1))
        rw [show k + 1 + (n - (k + 1)) = n by omega, hstep] at this
        rw [this]
        try rfl
      by_cases hgt : z < x.natAbs
      · repeat' (first | with_reducible refine wo_nil ?_ | ((with_reducible refine wo_any ?_); first | ((with_reducible refine ik_move ?_); refine wo_op rfl (op_move rfl) rfl rfl ?_) | ((with_reducible refine ik_assign ?_); refine wo_op rfl (op_assign rfl) rfl rfl ?_) | ((with_reducible refine ik_indexAddr ?_); refine wo_op rfl (op_indexAddr rfl rfl h1) rfl rfl ?_) | ((with_reducible refine ik_load ?_); refine wo_op rfl (op_ldCell rfl Tryz.underlying3 rfl h3) rfl rfl ?_) | ((with_reducible refine ik_bin ?_); first | refine wo_op rfl (op_eql rfl rfl) rfl rfl ?_ | refine wo_op rfl (op_lss rfl rfl) rfl rfl ?_ | refine wo_op rfl (op_gtr rfl rfl) rfl rfl ?_ | refine wo_op rfl (op_add' rfl rfl (w64 (by omega) (by omega))) rfl rfl ?_) | ((with_reducible refine ik_callb ?_); refine wo_op rfl (op_max rfl rfl) rfl rfl ?_) | ((with_reducible refine ik_un ?_); refine wo_op rfl (op_neg' rfl (w64 (by omega) (by omega))) rfl rfl ?_)) | with_reducible refine sq_norm ?_ | with_reducible refine wc_seq ?_ | with_reducible refine wc_region ?_ | with_reducible refine wc_skip ?_ | with_reducible refine wc_block ?_ | with_reducible refine bq_norm ?_ | (refine wc_if rfl (fun hb => ?_) (fun hb => ?_) <;> (try simp only [decide_eq_true_eq, decide_eq_false_iff_not, Bool.not_eq_true', Bool.not_eq_false', Int.not_lt, Int.not_le, Decidable.not_not, not_true_eq_false, not_false_eq_true, beq_self_eq_true, reduceCtorEq] at hb) <;> (try (exfalso; omega))))
        rw [if_pos hgt] at hstep
        rw [hmx]
        exact lq_norm (k + 1, k, x.natAbs) (by simp only; omega) (within_lk ⟨rfl, rfl, rfl, rfl, rfl, trivial⟩) ⟨⟨gr_A, s2.grow gr_A⟩, by simp only; omega, hstep, by simp only; omega, by simp only; rw [if_neg (by omega), hx]⟩
      · repeat' (first | with_reducible refine wo_nil ?_ | ((with_reducible refine wo_any ?_); first | ((with_reducible refine ik_move ?_); refine wo_op rfl (op_move rfl) rfl rfl ?_) | ((with_reducible refine ik_assign ?_); refine wo_op rfl (op_assign rfl) rfl rfl ?_) | ((with_reducible refine ik_indexAddr ?_); refine wo_op rfl (op_indexAddr rfl rfl h1) rfl rfl ?_) | ((with_reducible refine ik_load ?_); refine wo_op rfl (op_ldCell rfl Tryz.underlying3 rfl h3) rfl rfl ?_) | ((with_reducible refine ik_bin ?_); first | refine wo_op rfl (op_eql rfl rfl) rfl rfl ?_ | refine wo_op rfl (op_lss rfl rfl) rfl rfl ?_ | refine wo_op rfl (op_gtr rfl rfl) rfl rfl ?_ | refine wo_op rfl (op_add' rfl rfl (w64 (by omega) (by omega))) rfl rfl ?_) | ((with_reducible refine ik_callb ?_); refine wo_op rfl (op_max rfl rfl) rfl rfl ?_) | ((with_reducible refine ik_un ?_); refine wo_op rfl (op_neg' rfl (w64 (by omega) (by omega))) rfl rfl ?_)) | with_reducible refine sq_norm ?_ | with_reducible refine wc_seq ?_ | with_reducible refine wc_region ?_ | with_reducible refine wc_skip ?_ | with_reducible refine wc_block ?_ | with_reducible refine bq_norm ?_ | (refine wc_if rfl (fun hb => ?_) (fun hb => ?_) <;> (try simp only [decide_eq_true_eq, decide_eq_false_iff_not, Bool.not_eq_true', Bool.not_eq_false', Int.not_lt, Int.not_le, Decidable.not_not, not_true_eq_false, not_false_eq_true, beq_self_eq_true, reduceCtorEq] at hb) <;> (try (exfalso; omega))))
        rw [if_neg hgt] at hstep
        refine lq_norm (k + 1, t, z) (by simp only; omega) (within_lk ⟨rfl, rfl, rfl, rfl, rfl, trivial⟩) ⟨⟨gr_A, s2.grow gr_A⟩, by simp only; omega, hstep, by simp only; omega, ?_⟩
        simp only
        rw [if_neg (by omega)]
        by_cases hk0 : k = 0
        · subst hk0
          rw [if_pos rfl] at hz2
          have : t = 0 := by rw [← hS]; rfl
          subst this
          rw [hx]; omega
        · rw [if_neg hk0] at hz2
          exact hz2
    · have hkn : k = n := by omega
      subst hkn
      repeat' (first | with_reducible refine wo_nil ?_ | ((with_reducible refine wo_any ?_); first | ((with_reducible refine ik_move ?_); refine wo_op rfl (op_move rfl) rfl rfl ?_) | ((with_reducible refine ik_assign ?_); refine wo_op rfl (op_assign rfl) rfl rfl ?_) | ((with_reducible refine ik_bin ?_); refine wo_op rfl (op_lss rfl rfl) rfl rfl ?_)) | with_reducible refine sq_norm ?_ | with_reducible refine wc_seq ?_ | with_reducible refine wc_region ?_ | with_reducible refine wc_ret ?_ | with_reducible refine wc_exit ?_ | with_reducible refine sq_exit ?_ | with_reducible refine lq_exit ?_ | refine bq_eq rfl ?_ | (refine wc_if rfl (fun hb => ?_) (fun hb => ?_) <;> (try simp only [decide_eq_true_eq, decide_eq_false_iff_not, Bool.not_eq_true', Bool.not_eq_false', Int.not_lt, Int.not_le, Decidable.not_not, not_true_eq_false, not_false_eq_true, beq_self_eq_true, reduceCtorEq] at hb) <;> (try (exfalso; omega))))
      refine rq2 rfl rfl ⟨fin ?_, hgr⟩
      rw [hS]
  · refine cf_enter0 42 [.tmp 2, .tmp 3] Tryz.func63 rfl rfl rfl rfl ?_
    repeat' (first | with_reducible refine wo_nil ?_ | ((with_reducible refine wo_any ?_); first | ((with_reducible refine ik_move ?_); refine wo_op rfl (op_move rfl) rfl rfl ?_) | ((with_reducible refine ik_assign ?_); refine wo_op rfl (op_assign rfl) rfl rfl ?_) | ((with_reducible refine ik_bin ?_); refine wo_op rfl (op_neq rfl rfl) rfl rfl ?_) | ((with_reducible refine ik_callF (f := 107) ?_); refine wo_op rfl (op_call rfl rfl (c107 (s.grow gr_A) hn)) rfl rfl ?_)) | with_reducible refine sq_norm ?_ | with_reducible refine wc_seq ?_ | with_reducible refine wc_region ?_ | with_reducible refine wc_ret ?_ | with_reducible refine wc_scope ?_ | with_reducible refine sq_ret ?_ | (refine wc_if rfl (fun hb => ?_) (fun hb => ?_) <;> (try simp only [decide_eq_true_eq, decide_eq_false_iff_not, Bool.not_eq_true', Bool.not_eq_false', Int.not_lt, Int.not_le, Decidable.not_not, not_true_eq_false, not_false_eq_true, beq_self_eq_true, reduceCtorEq] at hb) <;> (try (exfalso; omega))))
    refine rq2 rfl rfl ⟨?_, gr_A⟩
    unfold pkR
    rw [if_pos hz]
end Go.Proofs.YthnnndkfpamacaaGreatDoor

/- What the functions on lists answer, in one form; the reference's correlation. -/
namespace Go.Proofs.YthnnndkfpamacaaGreatDoor
open Go Go.Ab Go.Fl
attribute [local irreducible] SeqQ BlkQ LpQ RetQ Wc Wo WD WX Op1 Op1q Op1a Cf Cl From
attribute [local irreducible] Ieee.Format.order Ieee.Format.read Ieee.Format.nearest Ieee.Format.write Ieee.Format.mul Ieee.Format.div Ieee.Datum.order Ieee.Datum.integral smpE smp smpW K J U spread sumN
set_option maxRecDepth 10000
variable {G : Base} {h : H}

end Go.Proofs.YthnnndkfpamacaaGreatDoor

/- What the functions on lists answer, in one form. -/
namespace Go.Proofs.YthnnndkfpamacaaGreatDoor
open Go Go.Ab Go.Fl
variable {G : Base} {h : H}

theorem c59f {v : Value} {n : Nat} {l : List Nat} (s : Sl G h 1 v n (l.map (.float .f32))) (hn : n < 1000000) : Cf (mz G) (.func (.func 59) #[] #[]) [v] h fun r h' => (∃ a c, r = .slice a n c ∧ Sl G h' 1 (.slice a n c) n (l.map (.float .f32))) ∧ Grow h h' :=
  (c59 s hn).mono fun r h' ⟨q, g, _⟩ => by
    obtain ⟨a, c, rfl⟩ := q.form
    exact ⟨⟨a, c, rfl, q⟩, g⟩
theorem c60f {v : Value} {n : Nat} {l : List Int} (s : Sl G h 1 v n (l.map (.int .i64))) (hn : n < 1000000) : Cf (mz G) (.func (.func 60) #[] #[]) [v] h fun r h' => (∃ a c, r = .slice a n c ∧ Sl G h' 1 (.slice a n c) n (l.map (.int .i64))) ∧ Grow h h' :=
  (c60 s hn).mono fun r h' ⟨q, g, _⟩ => by
    obtain ⟨a, c, rfl⟩ := q.form
    exact ⟨⟨a, c, rfl, q⟩, g⟩

def convE (l : List Nat) (t : List Int) : Int := if firstNZ [lchk l, tchk t] ≠ 0 then firstNZ [lchk l, tchk t] else if l.length = 0 then 0 else if 1024 < l.length + t.length - 1 then 5 else if anyLarge (convL (l.map smp) t) then 4 else 0
def convW (l : List Nat) (t : List Int) : List Nat := if convE l t ≠ 0 then [] else if l.length = 0 then [] else (convL (l.map smp) t).map smpW
theorem convP_form {l : List Nat} {t : List Int} {r : Value} {h' : H} (hz : firstNZ [lchk l, tchk t] = 0) (q : convP l t r G h') : ∃ w, r = .tuple #[w, .int .i64 (convE l t)] ∧ Sl G h' 1 w (convW l t).length ((convW l t).map (.float .f32)) := by
  unfold convP at q
  have e0 : convE l t = if l.length = 0 then 0 else if 1024 < l.length + t.length - 1 then 5 else if anyLarge (convL (l.map smp) t) then 4 else 0 := by unfold convE; rw [if_neg (by simpa using hz)]
  by_cases h0 : l.length = 0
  · rw [if_pos h0] at q e0
    have e1 : convW l t = [] := by unfold convW; rw [e0]; simp [h0]
    exact ⟨_, by rw [e0]; exact q, by rw [e1]; exact .nil⟩
  rw [if_neg h0] at q e0
  by_cases h1 : 1024 < l.length + t.length - 1
  · rw [if_pos h1] at q e0
    have e1 : convW l t = [] := by unfold convW; rw [e0]; simp
    exact ⟨_, by rw [e0]; exact q, by rw [e1]; exact .nil⟩
  rw [if_neg h1] at q e0
  by_cases h2 : anyLarge (convL (l.map smp) t) = true
  · rw [if_pos h2] at q e0
    have e1 : convW l t = [] := by unfold convW; rw [e0]; simp
    exact ⟨_, by rw [e0]; exact q, by rw [e1]; exact .nil⟩
  rw [if_neg h2] at q e0
  obtain ⟨u, rfl, su⟩ := q
  have e1 : convW l t = (convL (l.map smp) t).map smpW := by unfold convW; rw [e0]; simp [h0]
  refine ⟨u, by rw [e0], ?_⟩
  rw [e1]
  have : ((convL (l.map smp) t).map smpW).length = l.length + t.length - 1 := by simp [convL]
  rw [this]; exact su
theorem c58w {v w : Value} {n m : Nat} {l : List Nat} {t : List Int} (s : Sl G h 1 v n (l.map (.float .f32))) (u : Sl G h 1 w m (t.map (.int .i64))) (hn : n < 1000000) (hm : m < 1000000) (hw : Wf h) :
    Cf (mz G) (.func (.func 58) #[] #[]) [v, w] h fun r h' => (∃ w, r = .tuple #[w, .int .i64 (convE l t)] ∧ Sl G h' 1 w (convW l t).length ((convW l t).map (.float .f32))) ∧ Grow h h' :=
  (c58 s u hn hm hw).mono fun r h' ⟨q, g⟩ => by
    refine ⟨?_, g⟩
    unfold convR at q
    by_cases hz : firstNZ [lchk l, tchk t] = 0
    · rw [if_neg (by simpa using hz)] at q
      exact convP_form hz q
    · rw [if_pos hz] at q
      have e0 : convE l t = firstNZ [lchk l, tchk t] := by unfold convE; rw [if_pos hz]
      have e1 : convW l t = [] := by unfold convW; rw [e0, if_pos hz]
      exact ⟨_, by rw [e0]; exact q, by rw [e1]; exact .nil⟩
def corE (l t : List Nat) : Int := firstNZ [lchk l, lchk t]
def corW (l t : List Nat) : List Int := if corE l t ≠ 0 then [] else if l.length = 0 ∨ t.length = 0 then [] else corL (l.map smp) (t.map smp)
theorem c61w {v w : Value} {n m : Nat} {l t : List Nat} (s : Sl G h 1 v n (l.map (.float .f32))) (u : Sl G h 1 w m (t.map (.float .f32))) (hn : n < 1000000) (hm : m < 1000000) (hw : Wf h) :
    Cf (mz G) (.func (.func 61) #[] #[]) [v, w] h fun r h' => (∃ w, r = .tuple #[w, .int .i64 (corE l t)] ∧ Sl G h' 1 w (corW l t).length ((corW l t).map (.int .i64))) ∧ Grow h h' :=
  (c61 s u hn hm hw).mono fun r h' ⟨q, g⟩ => by
    refine ⟨?_, g⟩
    unfold corR at q
    by_cases hz : firstNZ [lchk l, lchk t] = 0
    · rw [if_neg (by simpa using hz)] at q
      have e0 : corE l t = 0 := hz
      by_cases h0 : l.length = 0 ∨ t.length = 0
      · rw [if_pos h0] at q
        have e1 : corW l t = [] := by unfold corW; rw [e0, if_neg (by simp), if_pos h0]
        exact ⟨_, by rw [e0]; exact q, by rw [e1]; exact .nil⟩
      · rw [if_neg h0] at q
        obtain ⟨u, rfl, su⟩ := q
        have e1 : corW l t = corL (l.map smp) (t.map smp) := by unfold corW; rw [e0, if_neg (by simp), if_neg h0]
        refine ⟨u, by rw [e0], ?_⟩
        rw [e1, show (corL (l.map smp) (t.map smp)).length = l.length + t.length - 1 by simp [corL]]
        exact su
    · rw [if_pos hz] at q
      have e1 : corW l t = [] := by unfold corW corE; rw [if_pos hz]
      exact ⟨_, q, by rw [e1]; exact .nil⟩
def enV (l : List Nat) : Int := if lchk l ≠ 0 then 0 else enL (l.map smp)
theorem c62w {v : Value} {n : Nat} {l : List Nat} (s : Sl G h 1 v n (l.map (.float .f32))) (hn : n < 1000000) (hw : Wf h) : Cf (mz G) (.func (.func 62) #[] #[]) [v] h fun r h' => r = .tuple #[.int .i64 (enV l), .int .i64 (lchk l)] ∧ Grow h h' :=
  (c62 s hn hw).mono fun r h' ⟨q, g⟩ => by
    refine ⟨?_, g⟩
    unfold enR at q
    unfold enV
    by_cases hz : lchk l = 0
    · rw [if_neg (by simpa using hz)] at q ⊢
      rw [hz]; exact q
    · rw [if_pos hz] at q ⊢
      exact q
def pkV (l : List Nat) : Int := if lchk l ≠ 0 then 0 else if l.length = 0 then 0 else (best (l.map smp) l.length : Nat)
def pkE (l : List Nat) : Int := if lchk l ≠ 0 then lchk l else if l.length = 0 then 12 else 0
theorem c63w {v : Value} {n : Nat} {l : List Nat} (s : Sl G h 1 v n (l.map (.float .f32))) (hn : n < 1000000) (hw : Wf h) : Cf (mz G) (.func (.func 63) #[] #[]) [v] h fun r h' => r = .tuple #[.int .i64 (pkV l), .int .i64 (pkE l)] ∧ Grow h h' :=
  (c63 s hn hw).mono fun r h' ⟨q, g⟩ => by
    refine ⟨?_, g⟩
    unfold pkR at q
    unfold pkV pkE
    by_cases hz : lchk l = 0
    · rw [if_neg (by simpa using hz)] at q
      have hz' : ¬ (lchk l ≠ 0) := by simpa using hz
      simp only [if_neg hz']
      by_cases h0 : l.length = 0
      · simp only [if_pos h0] at q ⊢
        exact q
      · simp only [if_neg h0] at q ⊢
        exact q
    · simp only [if_pos (show lchk l ≠ 0 from hz)] at q ⊢
      exact q
theorem convW_self {l : List Nat} {t : List Int} : selfEq (convW l t) := by
  intro x hx
  unfold convW at hx
  by_cases h0 : convE l t ≠ 0
  · rw [if_pos h0] at hx; cases hx
  · rw [if_neg h0] at hx
    by_cases h1 : l.length = 0
    · rw [if_pos h1] at hx; cases hx
    · rw [if_neg h1] at hx
      obtain ⟨z, hz, rfl⟩ := List.mem_map.1 hx
      refine smpW_self ?_
      have he : convE l t = 0 := by simpa using h0
      unfold convE at he
      split at he
      · rename_i q; exact absurd he q
      · try rw [if_neg h1] at he
        split at he
        · exact absurd he (by decide)
        · split at he
          · exact absurd he (by decide)
          · rename_i q
            have q : anyLarge (convL (l.map smp) t) = false := by simpa using q
            unfold anyLarge at q
            rw [List.any_eq_false] at q
            have := of_decide_eq_false (Bool.eq_false_iff.2 (q z hz))
            omega
end Go.Proofs.YthnnndkfpamacaaGreatDoor
