/- The law VelocityHyperbolas, walked. -/
import Derived.Test.YtcepknnekgjneaaGreatDoorH1
set_option linter.all false
/- The law VelocityHyperbolas. -/
namespace Go.Proofs.YtcepknnekgjneaaGreatDoor
open Go Go.Ab Go.Fl
attribute [local irreducible] SeqQ BlkQ LpQ RetQ Wc Wo WD WX Op1 Op1q Op1a Cf Cl From
attribute [local irreducible] Ieee.Format.order Ieee.Format.read Ieee.Format.nearest Ieee.Format.write Ieee.Format.mul Ieee.Format.div Ieee.Format.sqrt Ieee.Datum.order Ieee.Datum.integral K U
set_option maxRecDepth 10000
variable {G : Base} {h : H}

theorem c12n {t q v : Nat} (ht : t ≤ 1024) (hq : q ≤ 80000000000) (hv : 1 ≤ v) (hv2 : v ≤ 1000000000) (hw : Wf h) : Cf (mz G) (.func (.func 12) #[] #[]) [.int .i64 t, .int .i64 q, .int .i64 v] h fun r h' => r = .tuple #[.int .i64 (movN t q v : Nat), .int .i64 0] ∧ Grow h h' := by
  have := c12 (G := G) (h := h) t q v hw
  have hE : movE t q v = 0 := by
    unfold movE
    rw [rng_of (by omega) (by omega), rng_of (by omega) (by omega), rng_of (by omega) (by omega)]
    rfl
  rw [hE, if_pos rfl, Int.toNat_natCast, Int.toNat_natCast, Int.toNat_natCast] at this
  exact this
theorem mov_le {t q v : Nat} : movN t q v * movN t q v ≤ t * t + q / v := (isq_ok _).1
theorem mov_lt {t q v : Nat} : t * t + q / v < (movN t q v + 1) * (movN t q v + 1) := (isq_ok _).2
theorem mov_small {t q v : Nat} (ht : t ≤ 1024) (hq : q ≤ 4300000000) : movN t q v ≤ 100000 := by
  have h1 := mov_le (t := t) (q := q) (v := v)
  have h2 := tt_le ht
  have hle : q / v ≤ q := Nat.div_le_self _ _
  have : movN t q v < 100001 := sq_lt (by omega)
  omega
theorem mov_zero (t v : Nat) : movN t 0 v = t := by
  unfold movN
  rw [Nat.zero_div, Nat.add_zero]
  exact isq_unique (Nat.le_refl _) (Nat.mul_lt_mul'' (Nat.lt_succ_self _) (Nat.lt_succ_self _))
theorem mov_later (t q v : Nat) : movN t q v ≤ movN (t + 1) q v := isq_mono (Nat.add_le_add_right (Nat.mul_le_mul (Nat.le_succ _) (Nat.le_succ _)) _)
theorem mov_far (t q v d : Nat) : movN t q v ≤ movN t (q + d) v := isq_mono (Nat.add_le_add_left (Nat.div_le_div_right (Nat.le_add_right _ _)) _)
theorem mov_slow (t q v : Nat) (hv : 1 ≤ v) : movN t q (v + 1) ≤ movN t q v := isq_mono (Nat.add_le_add_left (Nat.div_le_div_left (Nat.le_succ _) hv) _)
set_option maxHeartbeats 2000000 in
theorem c8 {t x v : Nat} (ht : t < 65536) (hx : x < 4294967296) (hv : v < 65536) (hw : Wf h) : Cf (mz G) (.func (.func 8) #[] #[]) [.int .u16 t, .int .u32 x, .int .u16 v] h fun r h' => r = .bool true ∧ Grow h h' := by
  obtain ⟨T, hT⟩ : ∃ T, t % 1024 = T := ⟨_, rfl⟩
  have hT1 : T < 1024 := by omega
  have w1 : IntKind.wrap .i64 (t : Int) = t := w64 (by omega) (by omega)
  have w2 : IntKind.wrap .i64 (x : Int) = x := w64 (by omega) (by omega)
  have w3 : IntKind.wrap .i64 (v : Int) = v := w64 (by omega) (by omega)
  obtain ⟨V, hV⟩ : ∃ V, 1 + v = V := ⟨_, rfl⟩
  have q1 := fun (h' : H) (w' : Wf h') => c12n (G := G) (h := h') (t := T) (q := x) (v := V) (by omega) (by omega) (by omega) (by omega) w'
  have q2 : ∀ (h' : H) (w' : Wf h'), Cf (mz G) (.func (.func 12) #[] #[]) [.int .i64 ((T : Int) + 1), .int .i64 x, .int .i64 V] h' fun r h2 => r = .tuple #[.int .i64 (movN (T + 1) x V : Nat), .int .i64 0] ∧ Grow h' h2 := fun (h' : H) (w' : Wf h') => c12n (G := G) (h := h') (t := T + 1) (q := x) (v := V) (by omega) (by omega) (by omega) (by omega) w'
  have q3 : ∀ (h' : H) (w' : Wf h'), Cf (mz G) (.func (.func 12) #[] #[]) [.int .i64 T, .int .i64 ((x : Int) + 1000), .int .i64 V] h' fun r h2 => r = .tuple #[.int .i64 (movN T (x + 1000) V : Nat), .int .i64 0] ∧ Grow h' h2 := fun (h' : H) (w' : Wf h') => c12n (G := G) (h := h') (t := T) (q := x + 1000) (v := V) (by omega) (by omega) (by omega) (by omega) w'
  have q4 : ∀ (h' : H) (w' : Wf h'), Cf (mz G) (.func (.func 12) #[] #[]) [.int .i64 T, .int .i64 x, .int .i64 ((V : Int) + 1)] h' fun r h2 => r = .tuple #[.int .i64 (movN T x (V + 1) : Nat), .int .i64 0] ∧ Grow h' h2 := fun (h' : H) (w' : Wf h') => c12n (G := G) (h := h') (t := T) (q := x) (v := V + 1) (by omega) (by omega) (by omega) (by omega) w'
  have q5 : ∀ (h' : H) (w' : Wf h'), Cf (mz G) (.func (.func 12) #[] #[]) [.int .i64 T, .int .i64 0, .int .i64 V] h' fun r h2 => r = .tuple #[.int .i64 (movN T 0 V : Nat), .int .i64 0] ∧ Grow h' h2 := fun (h' : H) (w' : Wf h') => c12n (G := G) (h := h') (t := T) (q := 0) (v := V) (by omega) (by omega) (by omega) (by omega) w'
  rw [mov_zero] at q5
  have f1 := mov_le (t := T) (q := x) (v := V)
  have f2 := mov_lt (t := T) (q := x) (v := V)
  have f3 := mov_small (t := T) (q := x) (v := V) (by omega) (by omega)
  have f4 := mov_later T x V
  have f5 := mov_far T x V 1000
  have f6 := mov_slow T x V (by omega)
  have hq := quo_nat (q := x) (v := V) (by omega)
  have hd : x / V ≤ x := Nat.div_le_self _ _
  have h0 : (V : Int) ≠ 0 := by omega
  have b1 : (T : Int) * (T : Int) ≤ 1048576 := by have h := Int.ofNat_le.2 (tt_le (t := T) (by omega)); rw [Int.natCast_mul] at h; omega
  have b2 : 0 ≤ (T : Int) * (T : Int) := Int.mul_nonneg (by omega) (by omega)
  generalize movN T x V = m at q1 f1 f2 f3 f4 f5 f6
  generalize movN (T + 1) x V = a at q2 f4
  generalize movN T (x + 1000) V = b at q3 f5
  generalize movN T x (V + 1) = c at q4 f6
  generalize x / V = d at f1 f2 hq hd
  have g1 : (m : Int) * (m : Int) ≤ (T : Int) * (T : Int) + (d : Int) := by have h := Int.ofNat_le.2 f1; rw [Int.natCast_mul, Int.natCast_add, Int.natCast_mul] at h; exact h
  have g2 : (T : Int) * (T : Int) + (d : Int) < ((m : Int) + 1) * ((m : Int) + 1) := by have h := Int.ofNat_lt.2 f2; rw [Int.natCast_mul, Int.natCast_add, Int.natCast_mul] at h; exact h
  have g3 : 0 ≤ (m : Int) * (m : Int) := Int.mul_nonneg (by omega) (by omega)
  have g4 : ((m : Int) + 1) * ((m : Int) + 1) ≤ 10000200001 := by
    have h : (m + 1) * (m + 1) ≤ 100001 * 100001 := Nat.mul_le_mul (by omega) (by omega)
    have h := Int.ofNat_le.2 h
    rw [Int.natCast_mul] at h
    have e : (((m + 1 : Nat) : Int)) = (m : Int) + 1 := rfl
    rw [e] at h
    omega
  have g5 : 0 ≤ ((m : Int) + 1) * ((m : Int) + 1) := Int.mul_nonneg (by omega) (by omega)
  have hrem : (t : Int).tmod 1024 = (T : Int) := by rw [Int.tmod_eq_emod_of_nonneg (by omega)]; omega
  have hone : IntKind.wrap .i64 ((1 : Int) + (v : Int)) = (V : Int) := by rw [w64 (by omega) (by omega)]; omega
  refine cf_enter0 131 [.tmp 6] Tryz.func8 rfl rfl rfl rfl ?_
  repeat' (first | with_reducible refine wo_nil ?_ | ((with_reducible refine wo_any ?_); first | ((with_reducible refine ik_move ?_); refine wo_op rfl (op_move rfl) rfl rfl ?_) | ((with_reducible refine ik_assign ?_); refine wo_op rfl (op_assign rfl) rfl rfl ?_) | ((with_reducible refine ik_convert ?_); first | refine wo_op rfl (op_cvii rfl Tryz.underlying96 Tryz.underlying3 w1) rfl rfl ?_ | refine wo_op rfl (op_cvii rfl Tryz.underlying97 Tryz.underlying3 w2) rfl rfl ?_ | refine wo_op rfl (op_cvii rfl Tryz.underlying96 Tryz.underlying3 w3) rfl rfl ?_) | ((with_reducible refine ik_bin ?_); first | refine wo_op rfl (op_remN t 1024 T rfl rfl rfl rfl (by omega) hT) rfl rfl ?_ | refine wo_op rfl (op_quoV rfl rfl h0 hq) rfl rfl ?_ | refine wo_op rfl (op_add' rfl rfl hone) rfl rfl ?_ | refine wo_op rfl (op_rem rfl rfl (by omega)) rfl rfl ?_ | refine wo_op rfl (op_add' rfl rfl (w64 (by omega) (by omega))) rfl rfl ?_ | refine wo_op rfl (op_mul' rfl rfl (w64 (by omega) (by omega))) rfl rfl ?_ | refine wo_op rfl (op_quo rfl rfl (by omega)) rfl rfl ?_ | refine wo_op rfl (op_eql rfl rfl) rfl rfl ?_ | refine wo_op rfl (op_geq rfl rfl) rfl rfl ?_ | refine wo_op rfl (op_leq rfl rfl) rfl rfl ?_ | refine wo_op rfl (op_gtr rfl rfl) rfl rfl ?_) | ((with_reducible refine ik_un ?_); refine wo_op rfl (op_not rfl) rfl rfl ?_) | ((with_reducible refine ik_extract ?_); refine wo_op rfl (op_extract rfl rfl) rfl rfl ?_) | ((with_reducible refine ik_pick ?_); first | refine wo_op rfl (op_pickt rfl rfl) rfl rfl ?_ | refine wo_op rfl (op_pickf rfl rfl) rfl rfl ?_) | ((with_reducible refine ik_callF (f := 10) ?_); refine wo_op rfl (op_call rfl rfl (c10)) rfl rfl ?_) | ((with_reducible refine ik_callv ?_); first | (refine wo_call rfl rfl rfl rfl (q1 _ wf_A) rfl rfl ?_; rintro _ _ ⟨rfl, hq⟩; all_goals ((try (have hqn := hq.nx)); (try simp only [H.nx_push, H.nx_set, H.nx_bump] at hqn))) | (refine wo_call rfl rfl rfl rfl (q2 _ wf_A) rfl rfl ?_; rintro _ _ ⟨rfl, hq⟩; all_goals ((try (have hqn := hq.nx)); (try simp only [H.nx_push, H.nx_set, H.nx_bump] at hqn))) | (refine wo_call rfl rfl rfl rfl (q3 _ wf_A) rfl rfl ?_; rintro _ _ ⟨rfl, hq⟩; all_goals ((try (have hqn := hq.nx)); (try simp only [H.nx_push, H.nx_set, H.nx_bump] at hqn))) | (refine wo_call rfl rfl rfl rfl (q4 _ wf_A) rfl rfl ?_; rintro _ _ ⟨rfl, hq⟩; all_goals ((try (have hqn := hq.nx)); (try simp only [H.nx_push, H.nx_set, H.nx_bump] at hqn))) | (refine wo_call rfl rfl rfl rfl (q5 _ wf_A) rfl rfl ?_; rintro _ _ ⟨rfl, hq⟩; all_goals ((try (have hqn := hq.nx)); (try simp only [H.nx_push, H.nx_set, H.nx_bump] at hqn)))) | ((with_reducible refine ik_g ?_); first | refine wo_gskip rfl rfl rfl rfl rfl rfl ?_ | refine wo_gskip' rfl rfl rfl rfl rfl ?_ | ((with_reducible refine ig_move ?_); refine wo_grun rfl rfl rfl (op_move rfl) rfl rfl ?_) | ((with_reducible refine ig_assign ?_); refine wo_grun rfl rfl rfl (op_assign rfl) rfl rfl ?_) | ((with_reducible refine ig_convert ?_); first | refine wo_grun rfl rfl rfl (op_cvii rfl Tryz.underlying96 Tryz.underlying3 w1) rfl rfl ?_ | refine wo_grun rfl rfl rfl (op_cvii rfl Tryz.underlying97 Tryz.underlying3 w2) rfl rfl ?_ | refine wo_grun rfl rfl rfl (op_cvii rfl Tryz.underlying96 Tryz.underlying3 w3) rfl rfl ?_) | ((with_reducible refine ig_bin ?_); first | refine wo_grun rfl rfl rfl (op_remN t 1024 T rfl rfl rfl rfl (by omega) hT) rfl rfl ?_ | refine wo_grun rfl rfl rfl (op_quoV rfl rfl h0 hq) rfl rfl ?_ | refine wo_grun rfl rfl rfl (op_add' rfl rfl hone) rfl rfl ?_ | refine wo_grun rfl rfl rfl (op_rem rfl rfl (by omega)) rfl rfl ?_ | refine wo_grun rfl rfl rfl (op_add' rfl rfl (w64 (by omega) (by omega))) rfl rfl ?_ | refine wo_grun rfl rfl rfl (op_mul' rfl rfl (w64 (by omega) (by omega))) rfl rfl ?_ | refine wo_grun rfl rfl rfl (op_quo rfl rfl (by omega)) rfl rfl ?_ | refine wo_grun rfl rfl rfl (op_eql rfl rfl) rfl rfl ?_ | refine wo_grun rfl rfl rfl (op_geq rfl rfl) rfl rfl ?_ | refine wo_grun rfl rfl rfl (op_leq rfl rfl) rfl rfl ?_ | refine wo_grun rfl rfl rfl (op_gtr rfl rfl) rfl rfl ?_) | ((with_reducible refine ig_un ?_); refine wo_grun rfl rfl rfl (op_not rfl) rfl rfl ?_) | ((with_reducible refine ig_extract ?_); refine wo_grun rfl rfl rfl (op_extract rfl rfl) rfl rfl ?_) | ((with_reducible refine ig_pick ?_); first | refine wo_grun rfl rfl rfl (op_pickt rfl rfl) rfl rfl ?_ | refine wo_grun rfl rfl rfl (op_pickf rfl rfl) rfl rfl ?_) | ((with_reducible refine ig_callF (f := 10) ?_); refine wo_grun rfl rfl rfl (op_call rfl rfl (c10)) rfl rfl ?_) | ((with_reducible refine ig_callv ?_); first | (refine wo_gcall rfl rfl rfl rfl rfl rfl (q1 _ wf_A) rfl rfl ?_; rintro _ _ ⟨rfl, hq⟩; all_goals ((try (have hqn := hq.nx)); (try simp only [H.nx_push, H.nx_set, H.nx_bump] at hqn))) | (refine wo_gcall rfl rfl rfl rfl rfl rfl (q2 _ wf_A) rfl rfl ?_; rintro _ _ ⟨rfl, hq⟩; all_goals ((try (have hqn := hq.nx)); (try simp only [H.nx_push, H.nx_set, H.nx_bump] at hqn))) | (refine wo_gcall rfl rfl rfl rfl rfl rfl (q3 _ wf_A) rfl rfl ?_; rintro _ _ ⟨rfl, hq⟩; all_goals ((try (have hqn := hq.nx)); (try simp only [H.nx_push, H.nx_set, H.nx_bump] at hqn))) | (refine wo_gcall rfl rfl rfl rfl rfl rfl (q4 _ wf_A) rfl rfl ?_; rintro _ _ ⟨rfl, hq⟩; all_goals ((try (have hqn := hq.nx)); (try simp only [H.nx_push, H.nx_set, H.nx_bump] at hqn))) | (refine wo_gcall rfl rfl rfl rfl rfl rfl (q5 _ wf_A) rfl rfl ?_; rintro _ _ ⟨rfl, hq⟩; all_goals ((try (have hqn := hq.nx)); (try simp only [H.nx_push, H.nx_set, H.nx_bump] at hqn)))) | (refine wo_gsplit rfl rfl rfl (fun hb => ?_) (fun hb => ?_) <;> (try simp only [decide_eq_true_eq, decide_eq_false_iff_not, Bool.not_eq_true', Bool.not_eq_false', Int.not_lt, Int.not_le, Decidable.not_not, not_true_eq_false, not_false_eq_true, beq_self_eq_true, reduceCtorEq] at hb) <;> (try (exfalso; omega))))) | with_reducible refine sq_norm ?_ | with_reducible refine wc_seq ?_ | with_reducible refine wc_region ?_ | with_reducible refine wo_nil ?_ | with_reducible refine wc_skip ?_ | with_reducible refine wc_label ?_ | with_reducible refine wc_ret ?_ | with_reducible refine wc_exit ?_ | with_reducible refine wc_block ?_ | with_reducible refine wc_scope ?_ | with_reducible refine bq_norm ?_ | with_reducible refine bq_ret ?_ | with_reducible refine sq_ret ?_ | with_reducible refine sq_exit ?_ | with_reducible refine lq_exit ?_ | with_reducible refine lq_ret ?_ | refine bq_eq rfl ?_ | refine bq_ne rfl ?_ | refine wc_ift rfl ?_ | refine wc_iff rfl ?_ | (refine wc_if rfl (fun hb => ?_) (fun hb => ?_) <;> (try simp only [decide_eq_true_eq, decide_eq_false_iff_not, Bool.not_eq_true', Bool.not_eq_false', Int.not_lt, Int.not_le, Decidable.not_not, not_true_eq_false, not_false_eq_true, beq_self_eq_true, reduceCtorEq] at hb) <;> (try (exfalso; omega))))
  exact rq1 rfl ⟨by rw [decide_eq_true rfl], gr_A⟩
end Go.Proofs.YtcepknnekgjneaaGreatDoor
