/- Rounding; lists by the reference; taps undone. -/
import Derived.Test.YtdfpadokepmknaaGreatDoorL1
set_option linter.all false
/- Rounding; lists of integers by the reference; ghosts. -/
namespace Go.Proofs.YtdfpadokepmknaaGreatDoor
open Go Go.Ab Go.Fl
attribute [local irreducible] SeqQ BlkQ LpQ RetQ Wc Wo WD WX Op1 Op1q Op1a Cf Cl From
attribute [local irreducible] Ieee.Format.order Ieee.Format.read Ieee.Format.nearest Ieee.Format.write Ieee.Format.mul Ieee.Format.div Ieee.Datum.order Ieee.Datum.integral smpE smp smpW K J U sumN lchk tchk trE hdrE appL
set_option maxRecDepth 10000
variable {G : Base} {h : H}
/-- A quotient, rounded: from the middle to the greater integer. -/
def rnd (a b : Int) : Int := (2 * a + b) / (2 * b)
theorem rnd_cases (a b : Int) (hb : 0 < b) : ((2 * a + b).tmod (2 * b) < 0 ∧ rnd a b = (2 * a + b).tdiv (2 * b) - 1) ∨ (¬ (2 * a + b).tmod (2 * b) < 0 ∧ rnd a b = (2 * a + b).tdiv (2 * b)) := by
  unfold rnd
  obtain ⟨N, hN⟩ : ∃ N, 2 * a + b = N := ⟨_, rfl⟩
  obtain ⟨D, hD⟩ : ∃ D, 2 * b = D := ⟨_, rfl⟩
  rw [hN, hD]
  have hD0 : 0 < D := by omega
  have e := Int.mul_tdiv_add_tmod N D
  have l1 := Int.tmod_lt_of_pos N hD0
  have l2 : -D < N.tmod D := by
    have := Int.tmod_lt_of_pos (-N) hD0
    rw [Int.neg_tmod] at this
    omega
  by_cases hr : N.tmod D < 0
  · refine .inl ⟨hr, ?_⟩
    have := (Int.ediv_emod_unique (a := N) (b := D) (r := N.tmod D + D) (q := N.tdiv D - 1) hD0).2 ⟨by rw [Int.mul_sub, Int.mul_one]; omega, by omega, by omega⟩
    exact this.1
  · refine .inr ⟨hr, ?_⟩
    have := (Int.ediv_emod_unique (a := N) (b := D) (r := N.tmod D) (q := N.tdiv D) hD0).2 ⟨by omega, by omega, by omega⟩
    exact this.1
theorem op_quoV {M : Mc} {l : KL} {x y : Operand} {t ty : TypeId} {a b v : Int} {k : IntKind} (hx : val l x = some (.int k a)) (hy : val l y = some (.int k b)) (h0 : b ≠ 0) (hv : k.wrap (a.tdiv b) = v) : Op1 M (.binOp .quo t x y ty) l h (.int k v) h := by
  subst hv; exact op_quo hx hy h0
theorem op_remV {M : Mc} {l : KL} {x y : Operand} {t ty : TypeId} {a b v : Int} {k : IntKind} (hx : val l x = some (.int k a)) (hy : val l y = some (.int k b)) (h0 : b ≠ 0) (hv : a.tmod b = v) : Op1 M (.binOp .rem t x y ty) l h (.int k v) h := by
  subst hv; exact op_rem hx hy h0
set_option maxHeartbeats 4000000 in
theorem c130 {a b : Int} (hb : 0 < b) (hb2 : b ≤ 100000000000000000) (ha : a.natAbs ≤ 100000000000000000) : Cl (mz G) (.func (.func 130) #[] #[]) [.int .i64 (2 * a + b), .int .i64 (2 * b)] h (.int .i64 (rnd a b)) h := by
  have hc := rnd_cases a b hb
  have hq := Int.natAbs_tdiv_le_natAbs (2 * a + b) (2 * b)
  obtain ⟨N, hN⟩ : ∃ N, 2 * a + b = N := ⟨_, rfl⟩
  obtain ⟨D, hD⟩ : ∃ D, 2 * b = D := ⟨_, rfl⟩
  obtain ⟨Q, hQ⟩ : ∃ Q, (2 * a + b).tdiv (2 * b) = Q := ⟨_, rfl⟩
  obtain ⟨R, hR⟩ : ∃ Q, (2 * a + b).tmod (2 * b) = Q := ⟨_, rfl⟩
  have hQw : IntKind.wrap .i64 ((2 * a + b).tdiv (2 * b)) = Q := by rw [hQ] at hq ⊢; exact w64 (by omega) (by omega)
  rw [hQ, hR] at hc
  rw [hQ] at hq
  have hD0 : D ≠ 0 := by omega
  rw [hN] at hq
  rw [hN, hD] at hQw hR ⊢
  rcases hc with ⟨h1, h2⟩ | ⟨h1, h2⟩
  · rw [h2]
    refine cl_of_cf (cf_enter0 16 [.tmp 4] Tryz.func130 rfl rfl rfl rfl ?_)
    repeat' (first | with_reducible refine wo_nil ?_ | ((with_reducible refine wo_any ?_); first | ((with_reducible refine ik_move ?_); refine wo_op rfl (op_move rfl) rfl rfl ?_) | ((with_reducible refine ik_assign ?_); refine wo_op rfl (op_assign rfl) rfl rfl ?_) | ((with_reducible refine ik_bin ?_); first | refine wo_op rfl (op_quoV rfl rfl hD0 hQw) rfl rfl ?_ | refine wo_op rfl (op_remV rfl rfl hD0 hR) rfl rfl ?_ | refine wo_op rfl (op_lss rfl rfl) rfl rfl ?_ | refine wo_op rfl (op_sub' rfl rfl (w64 (by omega) (by omega))) rfl rfl ?_)) | with_reducible refine sq_norm ?_ | with_reducible refine wc_seq ?_ | with_reducible refine wc_region ?_ | with_reducible refine wc_ret ?_ | (refine wc_if rfl (fun hb => ?_) (fun hb => dead_A hb); (try simp only [decide_eq_true_eq, decide_eq_false_iff_not, Bool.not_eq_true', Bool.not_eq_false', Int.not_lt, Int.not_le, Decidable.not_not, not_true_eq_false, not_false_eq_true, beq_self_eq_true, reduceCtorEq] at hb)))
    all_goals exact rq1 rfl ⟨rfl, rfl⟩
  · rw [h2]
    refine cl_of_cf (cf_enter0 16 [.tmp 4] Tryz.func130 rfl rfl rfl rfl ?_)
    repeat' (first | with_reducible refine wo_nil ?_ | ((with_reducible refine wo_any ?_); first | ((with_reducible refine ik_move ?_); refine wo_op rfl (op_move rfl) rfl rfl ?_) | ((with_reducible refine ik_assign ?_); refine wo_op rfl (op_assign rfl) rfl rfl ?_) | ((with_reducible refine ik_bin ?_); first | refine wo_op rfl (op_quoV rfl rfl hD0 hQw) rfl rfl ?_ | refine wo_op rfl (op_remV rfl rfl hD0 hR) rfl rfl ?_ | refine wo_op rfl (op_lss rfl rfl) rfl rfl ?_)) | with_reducible refine sq_norm ?_ | with_reducible refine wc_seq ?_ | with_reducible refine wc_region ?_ | with_reducible refine wc_skip ?_ | with_reducible refine wc_ret ?_ | (refine wc_if rfl (fun hb => dead_A hb) (fun hb => ?_); (try simp only [decide_eq_true_eq, decide_eq_false_iff_not, Bool.not_eq_true', Bool.not_eq_false', Int.not_lt, Int.not_le, Decidable.not_not, not_true_eq_false, not_false_eq_true, beq_self_eq_true, reduceCtorEq] at hb)))
    all_goals exact rq1 rfl ⟨rfl, rfl⟩
set_option maxHeartbeats 4000000 in
theorem c95 {a b : Int} (hb : 0 < b) (hb2 : b ≤ 100000000000000000) (ha : a.natAbs ≤ 100000000000000000) : Cl (mz G) (.func (.func 95) #[] #[]) [.int .i64 a, .int .i64 b] h (.int .i64 (rnd a b)) h := by
  have q165 := fun h' : H => c130 (G := G) (h := h') hb hb2 ha
  refine cl_of_cf (cf_enter0 12 [.tmp 4] Tryz.func95 rfl rfl rfl rfl ?_)
  repeat' (first | with_reducible refine wo_nil ?_ | ((with_reducible refine wo_any ?_); first | ((with_reducible refine ik_move ?_); refine wo_op rfl (op_move rfl) rfl rfl ?_) | ((with_reducible refine ik_assign ?_); refine wo_op rfl (op_assign rfl) rfl rfl ?_) | ((with_reducible refine ik_bin ?_); first | refine wo_op rfl (op_mul' rfl rfl (w64 (by omega) (by omega))) rfl rfl ?_ | refine wo_op rfl (op_add' rfl rfl (w64 (by omega) (by omega))) rfl rfl ?_) | ((with_reducible refine ik_callv ?_); refine wo_op rfl (op_call rfl rfl (q165 _)) rfl rfl ?_)) | with_reducible refine sq_norm ?_ | with_reducible refine wc_seq ?_ | with_reducible refine wc_region ?_ | with_reducible refine wc_ret ?_)
  all_goals exact rq1 rfl ⟨rfl, rfl⟩
theorem rnd_le {a b : Int} (hb : 0 < b) : (rnd a b).natAbs ≤ 2 * a.natAbs + b.natAbs + 1 := by
  have hc := rnd_cases a b hb
  have hq := Int.natAbs_tdiv_le_natAbs (2 * a + b) (2 * b)
  rcases hc with ⟨_, h2⟩ | ⟨_, h2⟩ <;> rw [h2] <;> omega
set_option maxHeartbeats 4000000 in
theorem c128 {a b : Int} (hb : 0 < b) (hb2 : b ≤ 400000000000000000) (ha : a.natAbs ≤ 400000000000000000) : Cl (mz G) (.func (.func 128) #[] #[]) [.int .i64 a, .int .i64 b] h (.int .i64 (a / b)) h := by
  have hq := Int.natAbs_tdiv_le_natAbs a b
  have e := Int.mul_tdiv_add_tmod a b
  have l1 := Int.tmod_lt_of_pos a hb
  have l2 : -b < a.tmod b := by
    have := Int.tmod_lt_of_pos (-a) hb
    rw [Int.neg_tmod] at this
    omega
  obtain ⟨Q, hQ⟩ : ∃ Q, a.tdiv b = Q := ⟨_, rfl⟩
  obtain ⟨R, hR⟩ : ∃ Q, a.tmod b = Q := ⟨_, rfl⟩
  rw [hQ] at hq e
  rw [hR] at e l1 l2
  obtain ⟨P, hP⟩ : ∃ P, Q * b = P := ⟨_, rfl⟩
  have hPe : P + R = a := by rw [← hP, Int.mul_comm]; exact e
  have hQw : IntKind.wrap .i64 (a.tdiv b) = Q := by rw [hQ]; exact w64 (by omega) (by omega)
  have hPw : IntKind.wrap .i64 (Q * b) = P := by rw [hP]; exact w64 (by omega) (by omega)
  by_cases hr : R < 0
  · have hf : a / b = Q - 1 := ((Int.ediv_emod_unique (a := a) (b := b) (r := R + b) (q := Q - 1) hb).2 ⟨by rw [Int.mul_sub, Int.mul_one, Int.mul_comm]; omega, by omega, by omega⟩).1
    rw [hf]
    refine cl_of_cf (cf_enter0 17 [.tmp 4] Tryz.func128 rfl rfl rfl rfl ?_)
    repeat' (first | with_reducible refine wo_nil ?_ | ((with_reducible refine wo_any ?_); first | ((with_reducible refine ik_move ?_); refine wo_op rfl (op_move rfl) rfl rfl ?_) | ((with_reducible refine ik_assign ?_); refine wo_op rfl (op_assign rfl) rfl rfl ?_) | ((with_reducible refine ik_bin ?_); first | refine wo_op rfl (op_quoV rfl rfl (by omega) hQw) rfl rfl ?_ | refine wo_op rfl (op_mul' rfl rfl hPw) rfl rfl ?_ | refine wo_op rfl (op_gtr rfl rfl) rfl rfl ?_ | refine wo_op rfl (op_sub' rfl rfl (w64 (by omega) (by omega))) rfl rfl ?_)) | with_reducible refine sq_norm ?_ | with_reducible refine wc_seq ?_ | with_reducible refine wc_region ?_ | with_reducible refine wc_ret ?_ | (refine wc_if rfl (fun hb => ?_) (fun hb => dead_A hb); (try simp only [decide_eq_true_eq, decide_eq_false_iff_not, Bool.not_eq_true', Bool.not_eq_false', Int.not_lt, Int.not_le, Decidable.not_not, not_true_eq_false, not_false_eq_true, beq_self_eq_true, reduceCtorEq] at hb)))
    all_goals exact rq1 rfl ⟨rfl, rfl⟩
  · have hf : a / b = Q := ((Int.ediv_emod_unique (a := a) (b := b) (r := R) (q := Q) hb).2 ⟨by rw [Int.mul_comm]; omega, by omega, by omega⟩).1
    rw [hf]
    refine cl_of_cf (cf_enter0 17 [.tmp 4] Tryz.func128 rfl rfl rfl rfl ?_)
    repeat' (first | with_reducible refine wo_nil ?_ | ((with_reducible refine wo_any ?_); first | ((with_reducible refine ik_move ?_); refine wo_op rfl (op_move rfl) rfl rfl ?_) | ((with_reducible refine ik_assign ?_); refine wo_op rfl (op_assign rfl) rfl rfl ?_) | ((with_reducible refine ik_bin ?_); first | refine wo_op rfl (op_quoV rfl rfl (by omega) hQw) rfl rfl ?_ | refine wo_op rfl (op_mul' rfl rfl hPw) rfl rfl ?_ | refine wo_op rfl (op_gtr rfl rfl) rfl rfl ?_)) | with_reducible refine sq_norm ?_ | with_reducible refine wc_seq ?_ | with_reducible refine wc_region ?_ | with_reducible refine wc_skip ?_ | with_reducible refine wc_ret ?_ | (refine wc_if rfl (fun hb => dead_A hb) (fun hb => ?_); (try simp only [decide_eq_true_eq, decide_eq_false_iff_not, Bool.not_eq_true', Bool.not_eq_false', Int.not_lt, Int.not_le, Decidable.not_not, not_true_eq_false, not_false_eq_true, beq_self_eq_true, reduceCtorEq] at hb)))
    all_goals exact rq1 rfl ⟨rfl, rfl⟩
set_option maxHeartbeats 4000000 in
theorem c93 {a b : Int} (hb : 0 < b) (hb2 : b ≤ 100000000000000000) (ha : a.natAbs ≤ 100000000000000000) : Cl (mz G) (.func (.func 93) #[] #[]) [.int .i64 a, .int .i64 b] h (.int .i64 (rnd a b)) h := by
  have q := fun (h' : H) => c128 (G := G) (h := h') (a := 2 * a + b) (b := 2 * b) (by omega) (by omega) (by omega)
  unfold rnd
  refine cl_of_cf (cf_enter0 12 [.tmp 4] Tryz.func93 rfl rfl rfl rfl ?_)
  repeat' (first | with_reducible refine wo_nil ?_ | ((with_reducible refine wo_any ?_); first | ((with_reducible refine ik_move ?_); refine wo_op rfl (op_move rfl) rfl rfl ?_) | ((with_reducible refine ik_assign ?_); refine wo_op rfl (op_assign rfl) rfl rfl ?_) | ((with_reducible refine ik_bin ?_); first | refine wo_op rfl (op_mul' rfl rfl (w64 (by omega) (by omega))) rfl rfl ?_ | refine wo_op rfl (op_add' rfl rfl (w64 (by omega) (by omega))) rfl rfl ?_) | ((with_reducible refine ik_callv ?_); refine wo_op rfl (op_call rfl rfl (q _)) rfl rfl ?_)) | with_reducible refine sq_norm ?_ | with_reducible refine wc_seq ?_ | with_reducible refine wc_region ?_ | with_reducible refine wc_ret ?_)
  all_goals exact rq1 rfl ⟨rfl, rfl⟩

/-! lists of integers, made one by one -/
theorem rowI_step (f : Nat → Int) (k : Nat) : ((List.range k).map f).map (Value.int .i64) ++ [Value.int .i64 (f k)] = ((List.range (k + 1)).map f).map (Value.int .i64) := by
  rw [List.range_succ, List.map_append, List.map_append]; rfl
theorem take_row (l : List Int) : (List.range l.length).map (fun i => l.getD i 0) = l := by
  refine List.ext_getElem (by simp) fun k h1 h2 => ?_
  simp only [List.getElem_map, List.getElem_range, getElem_getD h2]
set_option maxHeartbeats 1000000 in
theorem c25 {v : Value} {n : Nat} {l : List Nat} (s : Sl G h 1 v n (l.map (.float .f32))) (hn : n < 1000000) (hl0 : ∀ x ∈ l, smpE x = 0) (hw : Wf h) : Cf (mz G) (.func (.func 25) #[] #[]) [v] h fun r h' => (∃ a c, r = .slice a n c ∧ Sl G h' 1 (.slice a n c) n ((l.map smp).map (.int .i64))) ∧ Grow h h' := by
  obtain ⟨a, c, rfl⟩ := s.form
  have hl := s.length
  simp at hl
  refine cf_enter0 20 [.tmp 2] Tryz.func25 rfl rfl rfl rfl ?_
  repeat' (first | with_reducible refine wo_nil ?_ | ((with_reducible refine wo_any ?_); ((with_reducible refine ik_assign ?_); refine wo_op rfl (op_assign rfl) rfl rfl ?_)) | with_reducible refine sq_norm ?_ | with_reducible refine wc_seq ?_ | with_reducible refine wc_region ?_ | with_reducible refine wc_block ?_)
  refine wc_loop (fun p : Nat × Value => n - p.1) (fun p => [(0, .slice a n c), (3, p.2), (4, .int .i64 (p.1 : Nat))]) (fun p h' => (Wf h' ∧ Ow h h' 3 1 p.2 p.1 (((List.range p.1).map fun i => (l.map smp).getD i 0).map (.int .i64))) ∧ p.1 ≤ n) (0, .slice none 0 0) (within_lk ⟨rfl, rfl, rfl, trivial⟩) ⟨⟨hw, .nil (.refl _)⟩, Nat.zero_le _⟩ ?_
  rintro ⟨k, r⟩ h' ⟨⟨hw', ow⟩, hk⟩
  simp only at ow hk ⊢
  by_cases hlt : k < n
  · obtain ⟨ad, i1, i3⟩ := sl_at (s.grow ow.grow) (i := (k : Int)) (q := k) hlt rfl
    have hx0 : smpE (l[k]'(by omega)) = 0 := hl0 _ (List.getElem_mem _)
    have q71 := fun (h : H) => c71 (G := G) (h := h) hx0
    have hx : smp (l[k]'(by omega)) = (l.map smp).getD k 0 := smp_getD (by omega)
    rw [hx] at q71
    obtain ⟨r2, h3, hap, ow3, _, hwf, _⟩ := append_ow (M := mz G) (st := 22) (xt := 22) (h := h'.push (.cells [.int .i64 ((l.map smp).getD k 0)] 3 1 false)) (new := [.int .i64 ((l.map smp).getD k 0)]) (m := 1) Tryz.underlying22 Tryz.underlying22 rfl zs3 zb3 zz3 rfl (ow.next ((Grow.refl _).push _)) (Sl.ofAt (At.new _ _) rfl (Nat.le_refl _)) rfl (by omega)
    rw [rowI_step (fun i => (l.map smp).getD i 0) k] at ow3
    repeat' (first | with_reducible refine wo_nil ?_ | ((with_reducible refine wo_any ?_); first | ((with_reducible refine ik_move ?_); refine wo_op rfl (op_move rfl) rfl rfl ?_) | ((with_reducible refine ik_assign ?_); refine wo_op rfl (op_assign rfl) rfl rfl ?_) | ((with_reducible refine ik_indexAddr ?_); refine wo_op rfl (op_indexAddr rfl rfl i1) rfl rfl ?_) | ((with_reducible refine ik_load ?_); refine wo_op rfl (op_ldCell rfl Tryz.underlying36 rfl i3) rfl rfl ?_) | ((with_reducible refine ik_callb ?_); first | refine wo_op rfl (op_append rfl rfl hap) rfl rfl ?_ | refine wo_op rfl (op_lenSl rfl Tryz.underlying23) rfl rfl ?_) | ((with_reducible refine ik_bin ?_); first | refine wo_op rfl (op_lss rfl rfl) rfl rfl ?_ | refine wo_op rfl (op_add' rfl rfl (w64 (by omega) (by omega))) rfl rfl ?_) | ((with_reducible refine ik_buildSlice ?_); refine wo_op rfl (op_buildSl rfl Tryz.underlying22 zs3 zz3 rfl rfl) rfl rfl ?_) | ((with_reducible refine ik_callv ?_); refine wo_op rfl (op_call rfl rfl (q71 _)) rfl rfl ?_)) | with_reducible refine sq_norm ?_ | with_reducible refine wc_seq ?_ | with_reducible refine wc_region ?_ | with_reducible refine wc_skip ?_ | with_reducible refine wc_block ?_ | with_reducible refine bq_norm ?_ | (refine wc_if rfl (fun hb => ?_) (fun hb => ?_) <;> (try simp only [decide_eq_true_eq, decide_eq_false_iff_not, Bool.not_eq_true', Bool.not_eq_false', Int.not_lt, Int.not_le, Decidable.not_not, not_true_eq_false, not_false_eq_true, beq_self_eq_true, reduceCtorEq] at hb) <;> (try (exfalso; omega))))
    exact lq_norm (k + 1, r2) (by simp only; omega) (within_lk ⟨rfl, rfl, rfl, trivial⟩) ⟨⟨hwf wf_A, ow3⟩, by simp only; omega⟩
  · have hkn : k = (l.map smp).length := by simp; omega
    have hkn2 : k = n := by omega
    have hs := ow.sl (G := G)
    rw [hkn, take_row, ← hkn] at hs
    subst hkn2
    repeat' (first | with_reducible refine wo_nil ?_ | ((with_reducible refine wo_any ?_); first | ((with_reducible refine ik_move ?_); refine wo_op rfl (op_move rfl) rfl rfl ?_) | ((with_reducible refine ik_assign ?_); refine wo_op rfl (op_assign rfl) rfl rfl ?_) | ((with_reducible refine ik_callb ?_); refine wo_op rfl (op_lenSl rfl Tryz.underlying23) rfl rfl ?_) | ((with_reducible refine ik_bin ?_); refine wo_op rfl (op_lss rfl rfl) rfl rfl ?_)) | with_reducible refine sq_norm ?_ | with_reducible refine wc_seq ?_ | with_reducible refine wc_region ?_ | with_reducible refine wc_ret ?_ | with_reducible refine wc_exit ?_ | with_reducible refine sq_exit ?_ | with_reducible refine lq_exit ?_ | refine bq_eq rfl ?_ | (refine wc_if rfl (fun hb => ?_) (fun hb => ?_) <;> (try simp only [decide_eq_true_eq, decide_eq_false_iff_not, Bool.not_eq_true', Bool.not_eq_false', Int.not_lt, Int.not_le, Decidable.not_not, not_true_eq_false, not_false_eq_true, beq_self_eq_true, reduceCtorEq] at hb) <;> (try (exfalso; omega))))
    obtain ⟨a2, c2, rfl⟩ := hs.form
    exact rq1 rfl ⟨⟨_, _, rfl, hs⟩, ow.grow⟩

/-! ghosts -/
def ghoL (l : List Int) (d : Nat) : List Int := (List.range l.length).map fun i => l.getD i 0 - (if d ≤ i then l.getD (i - d) 0 else 0)
end Go.Proofs.YtdfpadokepmknaaGreatDoor

/- Taps undone; ghosts by the program. -/
namespace Go.Proofs.YtdfpadokepmknaaGreatDoor
open Go Go.Ab Go.Fl
attribute [local irreducible] SeqQ BlkQ LpQ RetQ Wc Wo WD WX Op1 Op1q Op1a Cf Cl From
attribute [local irreducible] Ieee.Format.order Ieee.Format.read Ieee.Format.nearest Ieee.Format.write Ieee.Format.mul Ieee.Format.div Ieee.Datum.order Ieee.Datum.integral smpE smp smpW K J U sumN lchk tchk trE hdrE appL
set_option maxRecDepth 10000
variable {G : Base} {h : H}

set_option maxHeartbeats 1000000 in
theorem c127 {ad : Addr} {n c : Nat} {l : List Int} (s : Sl G h 1 (.slice (some ad) n c) n (l.map (.int .i64))) (hn : n < 1000000) (hw : Wf h) : Cf (mz G) (.func (.func 127) #[] #[]) [.slice (some ad) n c] h fun r h' => (∃ b sf, r = .slice (some ⟨b, 0, some 0⟩) n n ∧ h.nx ≤ b ∧ At h' b (.cells (l.map (.int .i64)) 3 1 sf)) ∧ Grow h h' := by
  obtain ⟨r, h2, hap, s2, hg, hw⟩ := append_copy2 (M := mz G) (st := 22) (xt := 22) (h := h.push (.cells [] 3 1 false)) Tryz.underlying22 Tryz.underlying22 rfl zs3 zb3 zz3 rfl (At.new _ _) (s.grow ((Grow.refl _).push _)) (all_one_map (fun _ => rfl) l) (by omega)
  refine cf_enter0 8 [.tmp 2] Tryz.func127 rfl rfl rfl rfl ?_
  repeat' (first | with_reducible refine wo_nil ?_ | ((with_reducible refine wo_any ?_); first | ((with_reducible refine ik_move ?_); refine wo_op rfl (op_move rfl) rfl rfl ?_) | ((with_reducible refine ik_assign ?_); refine wo_op rfl (op_assign rfl) rfl rfl ?_) | ((with_reducible refine ik_bin ?_); refine wo_op rfl (op_aeq (r := false) rfl rfl rfl (by show aeq Tryz.prog 22 _ _ = _; simp only [aeq, Tryz.underlying22])) rfl rfl ?_) | ((with_reducible refine ik_callb ?_); refine wo_op rfl (op_append rfl rfl hap) rfl rfl ?_) | ((with_reducible refine ik_buildSlice ?_); refine wo_op rfl (op_buildSl rfl Tryz.underlying22 zs3 zz3 rfl rfl) rfl rfl ?_)) | with_reducible refine sq_norm ?_ | with_reducible refine wc_seq ?_ | with_reducible refine wc_region ?_ | with_reducible refine wc_skip ?_ | with_reducible refine wc_ret ?_ | refine wc_iff rfl ?_)
  exact rq1 rfl ⟨s2, Grow.trans ((Grow.refl _).push _) hg⟩
/-- What an integer of 64 bits holds. -/
def wr (x : Int) : Int := IntKind.wrap .i64 x
def undI (t o : List Int) (i : Nat) (x : Int) : Nat → Int
  | 0 => x
  | j + 1 => wr (undI t o i x j - wr (t.getD (j + 1) 0 * o.getD (i - j - 1) 0))
def undA (t l : List Int) : Nat → List Int
  | 0 => []
  | i + 1 => undA t l i ++ [wr (undI t (undA t l i) i (l.getD i 0) (min (t.length - 1) i) * t.getD 0 0)]
def undL (t l : List Int) : List Int := undA t l l.length
end Go.Proofs.YtdfpadokepmknaaGreatDoor
