/- Survey: whether an animal may be inside; the states of a watch at the ticks of a vessel; levels. -/
import Derived.Test.YtlioomhcdlicmaaGreatDoorC2
import Derived.Test.YtlioomhcdlicmaaGreatDoorK4
set_option linter.all false
/- Survey: whether an animal may be inside; the states of a watch. -/
namespace Go.Proofs.YtlioomhcdlicmaaGreatDoor
open Go Go.Ab Go.Fl
attribute [local irreducible] SeqQ BlkQ LpQ RetQ Wc Wo WD WX Op1 Op1q Op1a Cf Cl From
attribute [local irreducible] Ieee.Format.order Ieee.Format.read Ieee.Format.nearest Ieee.Format.write Ieee.Format.mul Ieee.Format.div Ieee.Format.sqrt Ieee.Datum.order Ieee.Datum.integral K U rngE errN ptE firstNZ vesE watE sgE sgsE allE
set_option maxRecDepth 10000
variable {G : Base} {h : H}

/-- The index of the first record that a function reports. -/
def idxR {α : Type} (p : α → Bool) : List α → Nat → Int
  | [], _ => -1
  | x :: l, k => if p x then (k : Int) else idxR p l (k + 1)
theorem idxR_any {α : Type} (p : α → Bool) : ∀ (l : List α) (k : Nat), decide (0 ≤ idxR p l k) = l.any p
  | [], k => by simp [idxR]
  | x :: l, k => by
    rw [idxR, List.any_cons]
    cases h : p x with
    | true => rw [if_pos rfl, decide_eq_true (by omega)]; rfl
    | false => rw [if_neg (by decide), idxR_any p l (k + 1)]; rfl

theorem mulb {a b : Int} {A B : Nat} (h1 : a.natAbs ≤ A) (h2 : b.natAbs ≤ B) : (a * b).natAbs ≤ A * B := by
  rw [Int.natAbs_mul]; exact Nat.mul_le_mul h1 h2
theorem sqb {a : Int} {A : Nat} (h : a.natAbs ≤ A) : 0 ≤ a * a ∧ a * a ≤ ((A * A : Nat) : Int) := by
  have h1 := Nat.mul_le_mul h h
  rw [← Int.natAbs_mul_self]
  omega
theorem eg35 : Tryz.prog.eqGuardType Tryz.prog.depth 35 = false := by kernel_rfl
theorem eqv35 (a b c d : Int) : eqV Tryz.prog 3 35 [.int .i64 a, .int .i64 b] [.int .i64 c, .int .i64 d] = some (decide (a = c) && (decide (b = d) && true)) := by kernel_rfl
def sqD (a b c d : Int) : Int := (c - a) * (c - a) + (d - b) * (d - b)
theorem c182 {a b c d : Int} (ha : a.natAbs ≤ 10000000) (hb : b.natAbs ≤ 10000000) (hc : c.natAbs ≤ 10000000) (hd : d.natAbs ≤ 10000000) (hw : Wf h) : Cf (mz G) (.func (.func 182) #[] #[]) [.agg ⟨[.int .i64 a, .int .i64 b]⟩, .agg ⟨[.int .i64 c, .int .i64 d]⟩] h fun r h' => r = .int .i64 (sqD a b c d) ∧ Grow h h' := by
  obtain ⟨e1, e2⟩ := sqb (a := c - a) (A := 20000000) (by omega)
  obtain ⟨e3, e4⟩ := sqb (a := d - b) (A := 20000000) (by omega)
  unfold sqD
  refine cf_enter0 24 [.tmp 4] Tryz.func182 rfl rfl rfl rfl ?_
  repeat' (first | with_reducible refine wo_nil ?_ | ((with_reducible refine wo_any ?_); first | ((with_reducible refine ik_move ?_); refine wo_op rfl (op_move rfl) rfl rfl ?_) | ((with_reducible refine ik_assign ?_); refine wo_op rfl (op_assign rfl) rfl rfl ?_) | ((with_reducible refine ik_box ?_); refine wo_op rfl (op_boxAgg rfl zs35 rfl) rfl rfl ?_) | ((with_reducible refine ik_bin ?_); first | refine wo_op rfl (op_mul' rfl rfl (w64 (by omega) (by omega))) rfl rfl ?_ | refine wo_op rfl (op_add' rfl rfl (w64 (by omega) (by omega))) rfl rfl ?_)) | ((with_reducible refine xk_any ?_); ((with_reducible refine xk_as0 ?_); first | ((with_reducible refine xk_assign ?_); refine wx_q (wt_none rfl) rfl rfl (op_q rfl (op_assign rfl)) rfl rfl rfl ?_) | ((with_reducible refine xk_fieldAddr ?_); first | refine wx_q (wt_none rfl) rfl rfl (op_q rfl (op_fieldAddr (o := 0) rfl Tryz.underlying35 rfl zs3 rfl)) rfl rfl rfl ?_ | refine wx_q (wt_none rfl) rfl rfl (op_q rfl (op_fieldAddr (o := 1) rfl Tryz.underlying35 rfl zs3 rfl)) rfl rfl rfl ?_) | ((with_reducible refine xk_load ?_); refine wx_h0 (wt_none rfl) rfl (op_q rfl (op_ldAt rfl at_A Tryz.underlying3 rfl rfl)) rfl rfl rfl ?_) | ((with_reducible refine xk_bin ?_); refine wx_q (wt_none rfl) rfl rfl (op_q rfl (op_sub' rfl rfl (w64 (by omega) (by omega)))) rfl rfl rfl ?_) | with_reducible refine wx_nil0 ?_ ?_)) | with_reducible exact obl_nil | with_reducible refine obl_cons ?_ ?_ | ((with_reducible refine ik_obs ?_); first | exact obs_nil | refine obs_chkn rfl rfl (op_q rfl (op_ldAt rfl at_A Tryz.underlying3 rfl (by rfl))) ?_) | with_reducible refine sq_norm ?_ | with_reducible refine wc_seq ?_ | with_reducible refine wc_region ?_ | with_reducible refine wc_ret ?_ | refine wc_drawB (id := 1) 12 [0, 1, 0, 4, 15, 0, 32, 0, 128, 480, 31, 2047] [0, 1, 2, 3, 4, 5, 6, 7, 8, 9, 10, 11] (by kernel_rfl) (by kernel_rfl) rfl rfl ?_)
  exact rq1 rfl ⟨rfl, gr_A⟩
/-- Whether an animal that was sighted may be inside. -/
def hitB (r sp lo px py k : Int) (s : Sg) : Bool := decide ((0 ≤ k - s.t ∧ k - s.t ≤ lo) ∧ sqD s.x s.y px py ≤ (r + sp * (k - s.t)) * (r + sp * (k - s.t)))
set_option maxHeartbeats 4000000 in
theorem c151 {r sp lo cl so px py k : Int} {s : Sg} (hr : 0 ≤ r ∧ r ≤ 10000) (hs : 0 ≤ sp ∧ sp ≤ 1000) (hlo : 0 ≤ lo ∧ lo ≤ 1000) (hx : px.natAbs ≤ 10000000) (hy : py.natAbs ≤ 10000000) (hk : 0 ≤ k ∧ k ≤ 10000) (ht : sgE s = 0) (hw : Wf h) :
    Cf (mz G) (.func (.func 151) #[] #[]) [.agg ⟨[.int .i64 r, .int .i64 sp, .int .i64 lo, .int .i64 cl, .int .i64 so]⟩, .agg ⟨s.cells⟩, .agg ⟨[.int .i64 px, .int .i64 py]⟩, .int .i64 k] h fun r' h' => r' = .bool (hitB r sp lo px py k s) ∧ Grow h h' := by
  obtain ⟨t, x, y⟩ := s
  obtain ⟨st, sx, sy⟩ : (0 ≤ t ∧ t ≤ 100000) ∧ (-100000 ≤ x ∧ x ≤ 100000) ∧ -100000 ≤ y ∧ y ≤ 100000 := by
    unfold sgE at ht
    have a := firstNZ_zero ht
    exact ⟨rng_ok (a _ (by simp)), pt_ok (a _ (by simp))⟩
  clear ht
  dsimp only [Sg.cells]
  by_cases h1 : 0 ≤ k - t ∧ k - t ≤ lo
  · have hB : hitB r sp lo px py k ⟨t, x, y⟩ = decide (sqD x y px py ≤ (r + sp * (k - t)) * (r + sp * (k - t))) := by
      unfold hitB; rw [decide_eq_decide]; dsimp only; exact ⟨fun q => q.2, fun q => ⟨h1, q⟩⟩
    have m1 := mulb (a := sp) (b := k - t) (A := 1000) (B := 1000) (by omega) (by omega)
    have m0 : 0 ≤ sp * (k - t) := Int.mul_nonneg (by omega) (by omega)
    obtain ⟨m2, m3⟩ := sqb (a := r + sp * (k - t)) (A := 2000000) (by omega)
    rw [hB]
    obtain ⟨b, hb0⟩ : ∃ b, (decide (x = px) && (decide (y = py) && true)) = b := ⟨_, rfl⟩
    have heq : eqV Tryz.prog 3 35 [.int .i64 x, .int .i64 y] [.int .i64 px, .int .i64 py] = some b := by rw [eqv35, hb0]
    cases b with
    | true =>
      simp only [Bool.and_true, Bool.and_eq_true, decide_eq_true_eq] at hb0
      obtain ⟨rfl, rfl⟩ := hb0
      have hz : sqD x y x y = 0 := by unfold sqD; simp
      rw [hz, decide_eq_true m2]
      refine cf_enter0 42 [.tmp 8] Tryz.func151 rfl rfl rfl rfl ?_
      repeat' (first | with_reducible refine wo_nil ?_ | ((with_reducible refine wo_any ?_); first | ((with_reducible refine ik_move ?_); refine wo_op rfl (op_move rfl) rfl rfl ?_) | ((with_reducible refine ik_assign ?_); refine wo_op rfl (op_assign rfl) rfl rfl ?_) | ((with_reducible refine ik_bin ?_); first | refine wo_op rfl (op_eqT 3 rfl rfl rfl Tryz.underlying35 rfl eg35 heq) rfl rfl ?_ | refine wo_op rfl (op_sub' rfl rfl (w64 (by omega) (by omega))) rfl rfl ?_ | refine wo_op rfl (op_lss rfl rfl) rfl rfl ?_) | ((with_reducible refine ik_box ?_); first | refine wo_op rfl (op_boxAgg rfl zs46 rfl) rfl rfl ?_ | refine wo_op rfl (op_boxAgg rfl zs161 rfl) rfl rfl ?_ | refine wo_op rfl (op_boxAgg rfl zs35 rfl) rfl rfl ?_) | ((with_reducible refine ik_fieldAddr ?_); first | refine wo_op rfl (op_fieldAddr (o := 0) rfl Tryz.underlying161 rfl zs3 rfl) rfl rfl ?_ | refine wo_op rfl (op_fieldAddr (o := 1) rfl Tryz.underlying161 rfl zs35 rfl) rfl rfl ?_) | ((with_reducible refine ik_load ?_); first | refine wo_op rfl (op_ldAt rfl at_A Tryz.underlying3 rfl rfl) rfl rfl ?_ | refine wo_op rfl (op_ldAgg rfl at_A Tryz.underlying35 rfl zs35 rfl rfl) rfl rfl ?_) | ((with_reducible refine ik_pick ?_); refine wo_op rfl (op_pickf rfl rfl) rfl rfl ?_) | ((with_reducible refine ik_g ?_); first | ((with_reducible refine ig_move ?_); refine wo_grun rfl rfl rfl (op_move rfl) rfl rfl ?_) | ((with_reducible refine ig_bin ?_); refine wo_grun rfl rfl rfl (op_gtr rfl rfl) rfl rfl ?_) | ((with_reducible refine ig_fieldAddr ?_); refine wo_grun rfl rfl rfl (op_fieldAddr (o := 2) rfl Tryz.underlying46 rfl zs3 rfl) rfl rfl ?_) | ((with_reducible refine ig_load ?_); refine wo_grun rfl rfl rfl (op_ldAt rfl at_A Tryz.underlying3 rfl rfl) rfl rfl ?_) | (refine wo_gsplit rfl rfl rfl (fun hb => dead_A hb) (fun hb => ?_); (try simp only [decide_eq_true_eq, decide_eq_false_iff_not, Bool.not_eq_true', Bool.not_eq_false', Int.not_lt, Int.not_le, Decidable.not_not, not_true_eq_false, not_false_eq_true, beq_self_eq_true, reduceCtorEq] at hb)))) | with_reducible refine sq_norm ?_ | with_reducible refine wc_seq ?_ | with_reducible refine wc_region ?_ | with_reducible refine wc_skip ?_ | with_reducible refine wc_ret ?_ | with_reducible refine sq_ret ?_ | refine wc_ift rfl ?_ | (refine wc_if rfl (fun hb => dead_A hb) (fun hb => ?_); (try simp only [decide_eq_true_eq, decide_eq_false_iff_not, Bool.not_eq_true', Bool.not_eq_false', Int.not_lt, Int.not_le, Decidable.not_not, not_true_eq_false, not_false_eq_true, beq_self_eq_true, reduceCtorEq] at hb)))
      exact rq1 rfl ⟨rfl, gr_A⟩
    | false =>
      have qs := fun (h' : H) (w' : Wf h') => c182 (G := G) (h := h') (a := x) (b := y) (c := px) (d := py) (by omega) (by omega) hx hy w'
      obtain ⟨Z, hZ⟩ : ∃ Z, sqD x y px py = Z := ⟨_, rfl⟩
      rw [hZ] at qs ⊢
      clear hb0 hB hZ
      refine cf_enter0 42 [.tmp 8] Tryz.func151 rfl rfl rfl rfl ?_
      repeat' (first | with_reducible refine wo_nil ?_ | ((with_reducible refine wo_any ?_); first | ((with_reducible refine ik_move ?_); refine wo_op rfl (op_move rfl) rfl rfl ?_) | ((with_reducible refine ik_assign ?_); refine wo_op rfl (op_assign rfl) rfl rfl ?_) | ((with_reducible refine ik_bin ?_); first | refine wo_op rfl (op_eqT 3 rfl rfl rfl Tryz.underlying35 rfl eg35 heq) rfl rfl ?_ | refine wo_op rfl (op_sub' rfl rfl (w64 (by omega) (by omega))) rfl rfl ?_ | refine wo_op rfl (op_lss rfl rfl) rfl rfl ?_ | refine wo_op rfl (op_mul' rfl rfl (w64 (by omega) (by omega))) rfl rfl ?_ | refine wo_op rfl (op_add' rfl rfl (w64 (by omega) (by omega))) rfl rfl ?_ | refine wo_op rfl (op_leq rfl rfl) rfl rfl ?_) | ((with_reducible refine ik_box ?_); first | refine wo_op rfl (op_boxAgg rfl zs46 rfl) rfl rfl ?_ | refine wo_op rfl (op_boxAgg rfl zs161 rfl) rfl rfl ?_ | refine wo_op rfl (op_boxAgg rfl zs35 rfl) rfl rfl ?_) | ((with_reducible refine ik_fieldAddr ?_); first | refine wo_op rfl (op_fieldAddr (o := 0) rfl Tryz.underlying161 rfl zs3 rfl) rfl rfl ?_ | refine wo_op rfl (op_fieldAddr (o := 1) rfl Tryz.underlying161 rfl zs35 rfl) rfl rfl ?_ | refine wo_op rfl (op_fieldAddr (o := 0) rfl Tryz.underlying46 rfl zs3 rfl) rfl rfl ?_ | refine wo_op rfl (op_fieldAddr (o := 1) rfl Tryz.underlying46 rfl zs3 rfl) rfl rfl ?_) | ((with_reducible refine ik_load ?_); first | refine wo_op rfl (op_ldAt rfl at_A Tryz.underlying3 rfl rfl) rfl rfl ?_ | refine wo_op rfl (op_ldAgg rfl at_A Tryz.underlying35 rfl zs35 rfl rfl) rfl rfl ?_) | ((with_reducible refine ik_pick ?_); refine wo_op rfl (op_pickf rfl rfl) rfl rfl ?_) | ((with_reducible refine ik_callv ?_); (refine wo_call rfl rfl rfl rfl (qs _ wf_A) rfl rfl ?_; rintro _ _ ⟨rfl, hq⟩; all_goals ((try (have hqn := hq.nx)); (try simp only [H.nx_push, H.nx_set, H.nx_bump] at hqn)))) | ((with_reducible refine ik_g ?_); first | ((with_reducible refine ig_move ?_); refine wo_grun rfl rfl rfl (op_move rfl) rfl rfl ?_) | ((with_reducible refine ig_bin ?_); refine wo_grun rfl rfl rfl (op_gtr rfl rfl) rfl rfl ?_) | ((with_reducible refine ig_fieldAddr ?_); refine wo_grun rfl rfl rfl (op_fieldAddr (o := 2) rfl Tryz.underlying46 rfl zs3 rfl) rfl rfl ?_) | ((with_reducible refine ig_load ?_); refine wo_grun rfl rfl rfl (op_ldAt rfl at_A Tryz.underlying3 rfl rfl) rfl rfl ?_) | (refine wo_gsplit rfl rfl rfl (fun hb => dead_A hb) (fun hb => ?_); (try simp only [decide_eq_true_eq, decide_eq_false_iff_not, Bool.not_eq_true', Bool.not_eq_false', Int.not_lt, Int.not_le, Decidable.not_not, not_true_eq_false, not_false_eq_true, beq_self_eq_true, reduceCtorEq] at hb)))) | with_reducible refine sq_norm ?_ | with_reducible refine wc_seq ?_ | with_reducible refine wc_region ?_ | with_reducible refine wc_skip ?_ | with_reducible refine wc_ret ?_ | refine wc_iff rfl ?_ | (refine wc_if rfl (fun hb => dead_A hb) (fun hb => ?_); (try simp only [decide_eq_true_eq, decide_eq_false_iff_not, Bool.not_eq_true', Bool.not_eq_false', Int.not_lt, Int.not_le, Decidable.not_not, not_true_eq_false, not_false_eq_true, beq_self_eq_true, reduceCtorEq] at hb)))
      exact rq1 rfl ⟨rfl, gr_A⟩
  · have hB : hitB r sp lo px py k ⟨t, x, y⟩ = false := by
      unfold hitB; exact decide_eq_false fun q => h1 q.1
    rw [hB]
    by_cases h2 : k - t < 0
    · refine cf_enter0 42 [.tmp 8] Tryz.func151 rfl rfl rfl rfl ?_
      repeat' (first | with_reducible refine wo_nil ?_ | ((with_reducible refine wo_any ?_); first | ((with_reducible refine ik_move ?_); refine wo_op rfl (op_move rfl) rfl rfl ?_) | ((with_reducible refine ik_assign ?_); refine wo_op rfl (op_assign rfl) rfl rfl ?_) | ((with_reducible refine ik_box ?_); first | refine wo_op rfl (op_boxAgg rfl zs46 rfl) rfl rfl ?_ | refine wo_op rfl (op_boxAgg rfl zs161 rfl) rfl rfl ?_ | refine wo_op rfl (op_boxAgg rfl zs35 rfl) rfl rfl ?_) | ((with_reducible refine ik_fieldAddr ?_); refine wo_op rfl (op_fieldAddr (o := 0) rfl Tryz.underlying161 rfl zs3 rfl) rfl rfl ?_) | ((with_reducible refine ik_load ?_); refine wo_op rfl (op_ldAt rfl at_A Tryz.underlying3 rfl rfl) rfl rfl ?_) | ((with_reducible refine ik_bin ?_); first | refine wo_op rfl (op_sub' rfl rfl (w64 (by omega) (by omega))) rfl rfl ?_ | refine wo_op rfl (op_lss rfl rfl) rfl rfl ?_) | ((with_reducible refine ik_pick ?_); refine wo_op rfl (op_pickt rfl rfl) rfl rfl ?_) | ((with_reducible refine ik_g ?_); first | refine wo_gskip rfl rfl rfl rfl rfl rfl ?_ | (refine wo_gsplit rfl rfl rfl (fun hb => ?_) (fun hb => dead_A hb); (try simp only [decide_eq_true_eq, decide_eq_false_iff_not, Bool.not_eq_true', Bool.not_eq_false', Int.not_lt, Int.not_le, Decidable.not_not, not_true_eq_false, not_false_eq_true, beq_self_eq_true, reduceCtorEq] at hb)))) | with_reducible refine sq_norm ?_ | with_reducible refine wc_seq ?_ | with_reducible refine wc_region ?_ | with_reducible refine wc_ret ?_ | with_reducible refine sq_ret ?_ | refine wc_ift rfl ?_)
      all_goals exact rq1 rfl ⟨rfl, gr_A⟩
    · refine cf_enter0 42 [.tmp 8] Tryz.func151 rfl rfl rfl rfl ?_
      repeat' (first | with_reducible refine wo_nil ?_ | ((with_reducible refine wo_any ?_); first | ((with_reducible refine ik_move ?_); refine wo_op rfl (op_move rfl) rfl rfl ?_) | ((with_reducible refine ik_assign ?_); refine wo_op rfl (op_assign rfl) rfl rfl ?_) | ((with_reducible refine ik_box ?_); first | refine wo_op rfl (op_boxAgg rfl zs46 rfl) rfl rfl ?_ | refine wo_op rfl (op_boxAgg rfl zs161 rfl) rfl rfl ?_ | refine wo_op rfl (op_boxAgg rfl zs35 rfl) rfl rfl ?_) | ((with_reducible refine ik_fieldAddr ?_); refine wo_op rfl (op_fieldAddr (o := 0) rfl Tryz.underlying161 rfl zs3 rfl) rfl rfl ?_) | ((with_reducible refine ik_load ?_); refine wo_op rfl (op_ldAt rfl at_A Tryz.underlying3 rfl rfl) rfl rfl ?_) | ((with_reducible refine ik_bin ?_); first | refine wo_op rfl (op_sub' rfl rfl (w64 (by omega) (by omega))) rfl rfl ?_ | refine wo_op rfl (op_lss rfl rfl) rfl rfl ?_) | ((with_reducible refine ik_pick ?_); refine wo_op rfl (op_pickf rfl rfl) rfl rfl ?_) | ((with_reducible refine ik_g ?_); first | ((with_reducible refine ig_move ?_); refine wo_grun rfl rfl rfl (op_move rfl) rfl rfl ?_) | ((with_reducible refine ig_fieldAddr ?_); refine wo_grun rfl rfl rfl (op_fieldAddr (o := 2) rfl Tryz.underlying46 rfl zs3 rfl) rfl rfl ?_) | ((with_reducible refine ig_load ?_); refine wo_grun rfl rfl rfl (op_ldAt rfl at_A Tryz.underlying3 rfl rfl) rfl rfl ?_) | ((with_reducible refine ig_bin ?_); refine wo_grun rfl rfl rfl (op_gtr rfl rfl) rfl rfl ?_) | (refine wo_gsplit rfl rfl rfl (fun hb => dead_A hb) (fun hb => ?_); (try simp only [decide_eq_true_eq, decide_eq_false_iff_not, Bool.not_eq_true', Bool.not_eq_false', Int.not_lt, Int.not_le, Decidable.not_not, not_true_eq_false, not_false_eq_true, beq_self_eq_true, reduceCtorEq] at hb)))) | with_reducible refine sq_norm ?_ | with_reducible refine wc_seq ?_ | with_reducible refine wc_region ?_ | with_reducible refine wc_ret ?_ | with_reducible refine sq_ret ?_ | (refine wc_if rfl (fun hb => ?_) (fun hb => dead_A hb); (try simp only [decide_eq_true_eq, decide_eq_false_iff_not, Bool.not_eq_true', Bool.not_eq_false', Int.not_lt, Int.not_le, Decidable.not_not, not_true_eq_false, not_false_eq_true, beq_self_eq_true, reduceCtorEq] at hb)))
      all_goals exact rq1 rfl ⟨rfl, gr_A⟩
set_option maxHeartbeats 4000000 in
theorem c150 {A B D : Nat} {r sp lo cl so px py k : Int} {s : Sg} (hr : 0 ≤ r ∧ r ≤ 10000) (hs : 0 ≤ sp ∧ sp ≤ 1000) (hlo : 0 ≤ lo ∧ lo ≤ 1000) (hx : px.natAbs ≤ 10000000) (hy : py.natAbs ≤ 10000000) (hk : 0 ≤ k ∧ k ≤ 10000) (ht : sgE s = 0) (hw : Wf h)
    (hA : At h A (.cells [.int .i64 r, .int .i64 sp, .int .i64 lo, .int .i64 cl, .int .i64 so] 46 5 false)) (hB : At h B (.cells [.int .i64 px, .int .i64 py] 35 2 false)) (hD : At h D (.cells [.int .i64 k] 3 1 false)) :
    Cf (mz G) (.func (.func 150) #[] #[.pointer (some ⟨A, 0, some 0⟩), .pointer (some ⟨B, 0, some 0⟩), .pointer (some ⟨D, 0, some 0⟩)]) [.agg ⟨s.cells⟩] h fun r' h' => r' = .bool (hitB r sp lo px py k s) ∧ Grow h h' := by
  have qr := fun (h' : H) (w' : Wf h') => c151 (G := G) (h := h') (cl := cl) (so := so) hr hs hlo hx hy hk ht w'
  clear ht
  obtain ⟨t, x, y⟩ := s
  dsimp only [Sg.cells] at qr ⊢
  have lA := hA.lt
  have lB := hB.lt
  have lD := hD.lt
  refine cf_enter (sz := 11) (rs := [.tmp 5]) (all := [.agg ⟨[.int .i64 t, .int .i64 x, .int .i64 y]⟩, .pointer (some ⟨A, 0, some 0⟩), .pointer (some ⟨B, 0, some 0⟩), .pointer (some ⟨D, 0, some 0⟩)]) Tryz.func150 rfl rfl rfl rfl rfl ?_
  repeat' (first | with_reducible refine wo_nil ?_ | ((with_reducible refine wo_any ?_); first | ((with_reducible refine ik_assign ?_); refine wo_op rfl (op_assign rfl) rfl rfl ?_) | ((with_reducible refine ik_box ?_); refine wo_op rfl (op_boxAgg rfl zs161 rfl) rfl rfl ?_) | ((with_reducible refine ik_load ?_); first | refine wo_op rfl (op_ldAgg rfl at_A Tryz.underlying46 rfl zs46 rfl rfl) rfl rfl ?_ | refine wo_op rfl (op_ldAgg rfl at_A Tryz.underlying161 rfl zs161 rfl rfl) rfl rfl ?_ | refine wo_op rfl (op_ldAgg rfl at_A Tryz.underlying35 rfl zs35 rfl rfl) rfl rfl ?_ | refine wo_op rfl (op_ldAt rfl at_A Tryz.underlying3 rfl rfl) rfl rfl ?_) | ((with_reducible refine ik_callv ?_); (refine wo_call rfl rfl rfl rfl (qr _ wf_A) rfl rfl ?_; rintro _ _ ⟨rfl, hq⟩; all_goals ((try (have hqn := hq.nx)); (try simp only [H.nx_push, H.nx_set, H.nx_bump] at hqn))))) | with_reducible refine sq_norm ?_ | with_reducible refine wc_seq ?_ | with_reducible refine wc_region ?_ | with_reducible refine wc_ret ?_)
  exact rq1 rfl ⟨rfl, gr_A⟩
set_option maxHeartbeats 4000000 in
theorem c181 {v : Value} {A B D : Nat} {n : Nat} {l : List Sg} (p : Sg → Bool) (s : Sl G h 3 v n (l.flatMap Sg.cells)) (hl : l.length = n) (hn : n < 1000000) (hw : Wf h) (hq : ∀ h' x, Grow h h' → Wf h' → x ∈ l → Cf (mz G) (.func (.func 150) #[] #[.pointer (some ⟨A, 0, some 0⟩), .pointer (some ⟨B, 0, some 0⟩), .pointer (some ⟨D, 0, some 0⟩)]) [.agg ⟨Sg.cells x⟩] h' fun r h2 => r = .bool (p x) ∧ Grow h' h2) :
    Cf (mz G) (.func (.func 181) #[] #[]) [v, .func (.func 150) #[] #[.pointer (some ⟨A, 0, some 0⟩), .pointer (some ⟨B, 0, some 0⟩), .pointer (some ⟨D, 0, some 0⟩)]] h fun r h' => r = .int .i64 (idxR p l 0) ∧ Grow h h' := by
  obtain ⟨a, c, rfl⟩ := s.form
  refine cf_enter0 19 [.tmp 4] Tryz.func181 rfl rfl rfl rfl ?_
  repeat' (first | with_reducible refine wo_nil ?_ | ((with_reducible refine wo_any ?_); first | ((with_reducible refine ik_move ?_); refine wo_op rfl (op_move rfl) rfl rfl ?_) | ((with_reducible refine ik_assign ?_); refine wo_op rfl (op_assign rfl) rfl rfl ?_) | ((with_reducible refine ik_callb ?_); refine wo_op rfl (op_lenSl rfl Tryz.underlying47) rfl rfl ?_)) | with_reducible refine sq_norm ?_ | with_reducible refine wc_seq ?_ | with_reducible refine wc_region ?_ | with_reducible refine wc_block ?_)
  refine wc_loop (fun k => n - k) (fun k : Nat => [(0, .slice a n c), (1, .func (.func 150) #[] #[.pointer (some ⟨A, 0, some 0⟩), .pointer (some ⟨B, 0, some 0⟩), .pointer (some ⟨D, 0, some 0⟩)]), (7, .int .i64 n), (8, .int .i64 k)]) (fun k h' => (Wf h' ∧ Grow h h') ∧ k ≤ n ∧ idxR p (l.drop k) k = idxR p l 0) 0 (within_lk ⟨rfl, rfl, rfl, rfl, trivial⟩) ⟨⟨wf_A, gr_A⟩, Nat.zero_le _, rfl⟩ ?_
  rintro k h1 ⟨⟨w1, g1⟩, hk, hi⟩
  have n1 := g1.nx
  by_cases hlt : k < n
  · obtain ⟨id, i1, i3⟩ := rl_at Sg.len ⟨0, 0, 0⟩ (s.grow g1) hl Tryz.underlying47 zs161 (i := (k : Int)) hlt rfl
    rw [drop_next ⟨0, 0, 0⟩ (by omega), idxR] at hi
    have hm : l.getD k ⟨0, 0, 0⟩ ∈ l := by simp [List.getD, List.getElem?_eq_getElem (show k < l.length by omega)]
    obtain ⟨x0, hx⟩ : ∃ x, l.getD k ⟨0, 0, 0⟩ = x := ⟨_, rfl⟩
    rw [hx] at i3 hi hm
    have q1 := fun (h' : H) (g' : Grow h1 h') (w' : Wf h') => hq h' x0 (g1.trans g') w' hm
    clear hx hm
    cases hp : p x0 with
    | true =>
      rw [hp] at q1
      rw [if_pos hp] at hi
      clear hp
      obtain ⟨t, x, y⟩ := x0
      dsimp only [Sg.cells] at i3 q1
      repeat' (first | with_reducible refine wo_nil ?_ | ((with_reducible refine wo_any ?_); first | ((with_reducible refine ik_move ?_); refine wo_op rfl (op_move rfl) rfl rfl ?_) | ((with_reducible refine ik_assign ?_); refine wo_op rfl (op_assign rfl) rfl rfl ?_) | ((with_reducible refine ik_indexAddr ?_); refine wo_op rfl (op_indexAddr rfl rfl i1) rfl rfl ?_) | ((with_reducible refine ik_load ?_); refine wo_op rfl (op_ldLn rfl Tryz.underlying161 rfl zs161 (i3 _ gr_A).all) rfl rfl ?_) | ((with_reducible refine ik_bin ?_); refine wo_op rfl (op_lss rfl rfl) rfl rfl ?_) | ((with_reducible refine ik_callv ?_); (refine wo_call rfl rfl rfl rfl (q1 _ gr_A wf_A) rfl rfl ?_; rintro _ _ ⟨rfl, hq⟩; all_goals ((try (have hqn := hq.nx)); (try simp only [H.nx_push, H.nx_set, H.nx_bump] at hqn))))) | with_reducible refine sq_norm ?_ | with_reducible refine wc_seq ?_ | with_reducible refine wc_region ?_ | with_reducible refine wc_skip ?_ | with_reducible refine wc_ret ?_ | with_reducible refine wc_block ?_ | with_reducible refine bq_ret ?_ | with_reducible refine sq_ret ?_ | with_reducible refine lq_ret ?_ | refine wc_ift rfl ?_ | (refine wc_if rfl (fun hb => ?_) (fun hb => dead_A hb); (try simp only [decide_eq_true_eq, decide_eq_false_iff_not, Bool.not_eq_true', Bool.not_eq_false', Int.not_lt, Int.not_le, Decidable.not_not, not_true_eq_false, not_false_eq_true, beq_self_eq_true, reduceCtorEq] at hb)))
      exact rq1 rfl ⟨by rw [hi], gr_A⟩
    | false =>
      rw [hp] at q1
      rw [if_neg (by rw [hp]; decide)] at hi
      clear hp
      obtain ⟨t, x, y⟩ := x0
      dsimp only [Sg.cells] at i3 q1
      repeat' (first | with_reducible refine wo_nil ?_ | ((with_reducible refine wo_any ?_); first | ((with_reducible refine ik_move ?_); refine wo_op rfl (op_move rfl) rfl rfl ?_) | ((with_reducible refine ik_assign ?_); refine wo_op rfl (op_assign rfl) rfl rfl ?_) | ((with_reducible refine ik_indexAddr ?_); refine wo_op rfl (op_indexAddr rfl rfl i1) rfl rfl ?_) | ((with_reducible refine ik_load ?_); refine wo_op rfl (op_ldLn rfl Tryz.underlying161 rfl zs161 (i3 _ gr_A).all) rfl rfl ?_) | ((with_reducible refine ik_bin ?_); first | refine wo_op rfl (op_lss rfl rfl) rfl rfl ?_ | refine wo_op rfl (op_add' rfl rfl (w64 (by omega) (by omega))) rfl rfl ?_) | ((with_reducible refine ik_callv ?_); (refine wo_call rfl rfl rfl rfl (q1 _ gr_A wf_A) rfl rfl ?_; rintro _ _ ⟨rfl, hq⟩; all_goals ((try (have hqn := hq.nx)); (try simp only [H.nx_push, H.nx_set, H.nx_bump] at hqn))))) | with_reducible refine sq_norm ?_ | with_reducible refine wc_seq ?_ | with_reducible refine wc_region ?_ | with_reducible refine wc_skip ?_ | with_reducible refine wc_block ?_ | with_reducible refine bq_norm ?_ | refine wc_iff rfl ?_ | (refine wc_if rfl (fun hb => ?_) (fun hb => dead_A hb); (try simp only [decide_eq_true_eq, decide_eq_false_iff_not, Bool.not_eq_true', Bool.not_eq_false', Int.not_lt, Int.not_le, Decidable.not_not, not_true_eq_false, not_false_eq_true, beq_self_eq_true, reduceCtorEq] at hb)))
      exact lq_norm (k + 1) (by omega) (within_lk ⟨rfl, rfl, rfl, rfl, trivial⟩) ⟨⟨wf_A, gr_A⟩, by omega, hi⟩
  · repeat' (first | with_reducible refine wo_nil ?_ | ((with_reducible refine wo_any ?_); first | ((with_reducible refine ik_assign ?_); refine wo_op rfl (op_assign rfl) rfl rfl ?_) | ((with_reducible refine ik_bin ?_); refine wo_op rfl (op_lss rfl rfl) rfl rfl ?_)) | with_reducible refine sq_norm ?_ | with_reducible refine wc_seq ?_ | with_reducible refine wc_region ?_ | with_reducible refine wc_ret ?_ | with_reducible refine wc_exit ?_ | with_reducible refine sq_exit ?_ | with_reducible refine lq_exit ?_ | refine bq_eq rfl ?_ | (refine wc_if rfl (fun hb => ?_) (fun hb => ?_) <;> (try simp only [decide_eq_true_eq, decide_eq_false_iff_not, Bool.not_eq_true', Bool.not_eq_false', Int.not_lt, Int.not_le, Decidable.not_not, not_true_eq_false, not_false_eq_true, beq_self_eq_true, reduceCtorEq] at hb) <;> (try (exfalso; omega))))
    refine rq1 rfl ⟨?_, gr_A⟩
    rw [List.drop_eq_nil_of_le (by omega)] at hi
    rw [← hi]; rfl
theorem c149 {v : Value} {A B D : Nat} {n : Nat} {l : List Sg} (p : Sg → Bool) (s : Sl G h 3 v n (l.flatMap Sg.cells)) (hl : l.length = n) (hn : n < 1000000) (hw : Wf h) (hq : ∀ h' x, Grow h h' → Wf h' → x ∈ l → Cf (mz G) (.func (.func 150) #[] #[.pointer (some ⟨A, 0, some 0⟩), .pointer (some ⟨B, 0, some 0⟩), .pointer (some ⟨D, 0, some 0⟩)]) [.agg ⟨Sg.cells x⟩] h' fun r h2 => r = .bool (p x) ∧ Grow h' h2) :
    Cf (mz G) (.func (.func 149) #[] #[]) [v, .func (.func 150) #[] #[.pointer (some ⟨A, 0, some 0⟩), .pointer (some ⟨B, 0, some 0⟩), .pointer (some ⟨D, 0, some 0⟩)]] h fun r h' => r = .bool (l.any p) ∧ Grow h h' := by
  have q1 := fun (h' : H) (g' : Grow h h') (w' : Wf h') => c181 p (s.grow g') hl hn w' (fun h2 x g2 w2 m => hq h2 x (g'.trans g2) w2 m)
  rw [← idxR_any p l 0]
  generalize idxR p l 0 = I at q1
  obtain ⟨a, c, rfl⟩ := s.form
  refine cf_enter0 9 [.tmp 4] Tryz.func149 rfl rfl rfl rfl ?_
  repeat' (first | with_reducible refine wo_nil ?_ | ((with_reducible refine wo_any ?_); first | ((with_reducible refine ik_move ?_); refine wo_op rfl (op_move rfl) rfl rfl ?_) | ((with_reducible refine ik_assign ?_); refine wo_op rfl (op_assign rfl) rfl rfl ?_) | ((with_reducible refine ik_bin ?_); refine wo_op rfl (op_geq rfl rfl) rfl rfl ?_) | ((with_reducible refine ik_callv ?_); (refine wo_call rfl rfl rfl rfl (q1 _ gr_A wf_A) rfl rfl ?_; rintro _ _ ⟨rfl, hq⟩; all_goals ((try (have hqn := hq.nx)); (try simp only [H.nx_push, H.nx_set, H.nx_bump] at hqn))))) | with_reducible refine sq_norm ?_ | with_reducible refine wc_seq ?_ | with_reducible refine wc_region ?_ | with_reducible refine wc_ret ?_)
  exact rq1 rfl ⟨rfl, gr_A⟩

set_option maxHeartbeats 2000000 in
theorem c147 {x y u v t k : Int} (b1 : x.natAbs ≤ 1000000) (b2 : y.natAbs ≤ 1000000) (b3 : u.natAbs ≤ 10000) (b4 : v.natAbs ≤ 10000) (hk : k.natAbs ≤ 10000) (hw : Wf h) : Cf (mz G) (.func (.func 147) #[] #[]) [.agg ⟨[.int .i64 x, .int .i64 y, .int .i64 u, .int .i64 v, .int .i64 t]⟩, .int .i64 k] h fun r h' => r = .agg ⟨[.int .i64 (x + k * u), .int .i64 (y + k * v)]⟩ ∧ Grow h h' := by
  have m1 := mulb hk b3
  have m2 := mulb hk b4
  refine cf_enter0 24 [.cell 4 35] Tryz.func147 rfl rfl rfl rfl ?_
  repeat' (first | with_reducible refine wo_nil ?_ | ((with_reducible refine wo_any ?_); first | ((with_reducible refine ik_move ?_); refine wo_op rfl (op_move rfl) rfl rfl ?_) | ((with_reducible refine ik_box ?_); refine wo_op rfl (op_boxAgg rfl zs45 rfl) rfl rfl ?_) | ((with_reducible refine ik_alloc ?_); refine wo_op rfl (op_alloc zz35 zs35 rfl rfl rfl) rfl rfl ?_) | ((with_reducible refine ik_fieldAddr ?_); first | refine wo_op rfl (op_fieldAddr (o := 0) rfl Tryz.underlying45 rfl zs35 rfl) rfl rfl ?_ | refine wo_op rfl (op_fieldAddr (o := 0) rfl Tryz.underlying35 rfl zs3 rfl) rfl rfl ?_ | refine wo_op rfl (op_fieldAddr (o := 2) rfl Tryz.underlying45 rfl zs35 rfl) rfl rfl ?_ | refine wo_op rfl (op_fieldAddr (o := 1) rfl Tryz.underlying35 rfl zs3 rfl) rfl rfl ?_) | ((with_reducible refine ik_load ?_); refine wo_op rfl (op_ldAt rfl at_A Tryz.underlying3 rfl rfl) rfl rfl ?_) | ((with_reducible refine ik_bin ?_); first | refine wo_op rfl (op_mul' rfl rfl (w64 (by omega) (by omega))) rfl rfl ?_ | refine wo_op rfl (op_add' rfl rfl (w64 (by omega) (by omega))) rfl rfl ?_) | ((with_reducible refine ik_build ?_); refine wo_op rfl (op_buildT rfl zz35 zp35 rfl rfl) rfl rfl ?_) | ((with_reducible refine ik_store ?_); refine wo_op0 rfl (op_stAgg rfl rfl at_A zs35 rfl rfl rfl rfl) rfl ?_)) | with_reducible refine sq_norm ?_ | with_reducible refine wc_seq ?_ | with_reducible refine wc_region ?_ | with_reducible refine wc_ret ?_)
  exact rqc1 rfl (ldAgg at_A Tryz.underlying35 rfl zs35 rfl rfl) ⟨rfl, gr_A⟩
@[reducible] def stC (r sp lo cl so q : Int) : List Value := [.int .i64 r, .int .i64 sp, .int .i64 lo, .int .i64 cl, .int .i64 so, .int .i64 q]
set_option maxHeartbeats 2000000 in
theorem c148 {r sp lo cl so q : Int} {b : Bool} (hq : q.natAbs ≤ 1000000) (hw : Wf h) : Cf (mz G) (.func (.func 148) #[] #[]) [.agg ⟨[.int .i64 r, .int .i64 sp, .int .i64 lo, .int .i64 cl, .int .i64 so, .int .i64 q]⟩, .bool b] h fun r' h' => r' = .agg ⟨stC r sp lo cl so (if b then 0 else q + 1)⟩ ∧ Grow h h' := by
  cases b
  · refine cf_enter0 15 [.cell 4 157] Tryz.func148 rfl rfl rfl rfl ?_
    repeat' (first | with_reducible refine wo_nil ?_ | ((with_reducible refine wo_any ?_); first | ((with_reducible refine ik_move ?_); refine wo_op rfl (op_move rfl) rfl rfl ?_) | ((with_reducible refine ik_box ?_); refine wo_op rfl (op_boxAgg rfl zs157 rfl) rfl rfl ?_) | ((with_reducible refine ik_alloc ?_); refine wo_op rfl (op_alloc zz157 zs157 rfl rfl rfl) rfl rfl ?_) | ((with_reducible refine ik_fieldAddr ?_); first | refine wo_op rfl (op_fieldAddr (o := 0) rfl Tryz.underlying157 rfl zs46 rfl) rfl rfl ?_ | refine wo_op rfl (op_fieldAddr (o := 5) rfl Tryz.underlying157 rfl zs3 rfl) rfl rfl ?_) | ((with_reducible refine ik_load ?_); first | refine wo_op rfl (op_ldAgg rfl at_A Tryz.underlying46 rfl zs46 rfl rfl) rfl rfl ?_ | refine wo_op rfl (op_ldAt rfl at_A Tryz.underlying3 rfl rfl) rfl rfl ?_) | ((with_reducible refine ik_build ?_); refine wo_op rfl (op_buildT rfl zz157 zp157 rfl rfl) rfl rfl ?_) | ((with_reducible refine ik_store ?_); refine wo_op0 rfl (op_stAgg rfl rfl at_A zs157 rfl rfl rfl rfl) rfl ?_) | ((with_reducible refine ik_bin ?_); refine wo_op rfl (op_add' rfl rfl (w64 (by omega) (by omega))) rfl rfl ?_)) | with_reducible refine sq_norm ?_ | with_reducible refine wc_seq ?_ | with_reducible refine wc_region ?_ | with_reducible refine wc_skip ?_ | with_reducible refine wc_ret ?_ | refine wc_iff rfl ?_)
    exact rqc1 rfl (ldAgg at_A Tryz.underlying157 rfl zs157 rfl rfl) ⟨rfl, gr_A⟩
  · refine cf_enter0 15 [.cell 4 157] Tryz.func148 rfl rfl rfl rfl ?_
    repeat' (first | with_reducible refine wo_nil ?_ | ((with_reducible refine wo_any ?_); first | ((with_reducible refine ik_move ?_); refine wo_op rfl (op_move rfl) rfl rfl ?_) | ((with_reducible refine ik_box ?_); refine wo_op rfl (op_boxAgg rfl zs157 rfl) rfl rfl ?_) | ((with_reducible refine ik_alloc ?_); refine wo_op rfl (op_alloc zz157 zs157 rfl rfl rfl) rfl rfl ?_) | ((with_reducible refine ik_fieldAddr ?_); refine wo_op rfl (op_fieldAddr (o := 0) rfl Tryz.underlying157 rfl zs46 rfl) rfl rfl ?_) | ((with_reducible refine ik_load ?_); refine wo_op rfl (op_ldAgg rfl at_A Tryz.underlying46 rfl zs46 rfl rfl) rfl rfl ?_) | ((with_reducible refine ik_build ?_); refine wo_op rfl (op_buildT rfl zz157 zp157 rfl rfl) rfl rfl ?_) | ((with_reducible refine ik_store ?_); refine wo_op0 rfl (op_stAgg rfl rfl at_A zs157 rfl rfl rfl rfl) rfl ?_)) | with_reducible refine sq_norm ?_ | with_reducible refine wc_seq ?_ | with_reducible refine wc_region ?_ | with_reducible refine wc_ret ?_ | with_reducible refine sq_ret ?_ | refine wc_ift rfl ?_)
    exact rqc1 rfl (ldAgg at_A Tryz.underlying157 rfl zs157 rfl rfl) ⟨rfl, gr_A⟩
end Go.Proofs.YtlioomhcdlicmaaGreatDoor

/- Survey: the states of a watch at the ticks of a vessel. -/
namespace Go.Proofs.YtlioomhcdlicmaaGreatDoor
open Go Go.Ab Go.Fl
attribute [local irreducible] SeqQ BlkQ LpQ RetQ Wc Wo WD WX Op1 Op1q Op1a Cf Cl From
attribute [local irreducible] Ieee.Format.order Ieee.Format.read Ieee.Format.nearest Ieee.Format.write Ieee.Format.mul Ieee.Format.div Ieee.Format.sqrt Ieee.Datum.order Ieee.Datum.integral K U rngE errN ptE firstNZ vesE watE sgE sgsE allE hitB sqD
set_option maxRecDepth 10000
variable {G : Base} {h : H}

theorem op_stRec {M : Mc} {l : KL} {h : H} {x y : Operand} {t : TypeId} {b o es w : Nat} {c cs vs : List Value} {e : TypeId} {s : Bool} (hx : val l x = some (.pointer (some ⟨b, o, some 0⟩))) (hy : val l y = some (.agg ⟨vs⟩)) (hat : At h b (.cells c e es s)) (hn : tsz M.P t = some w) (hln : Nat.beq vs.length w = true) (hle : o + w ≤ c.length) (hone : vs.all one = true) (hc : c.take o ++ (vs ++ c.drop (o + w)) = cs) :
    Op1 M (.store t x y) l h undef (h.set b (.cells cs e es s)) := by
  have hl : vs.length = w := Nat.eq_of_beq_eq_true hln
  refine op_store hx hy ?_
  have : asto h ⟨b, o, some 0⟩ vs = some (h.set b (.cells cs e es s)) := by
    unfold asto
    simp only [hat.get, ble_dec, hone, Bool.and_true]
    rw [decide_eq_true (by omega), ← hc, hl]
  unfold astoreVar
  have e1 : (Value.agg ⟨vs⟩).cells.size = vs.length := rfl
  have e2 : (Value.agg ⟨vs⟩).cells.toList = vs := rfl
  simp only [hn, e1, e2, hln, this]
theorem fill_rec {α : Type} {f : α → List Value} {w : Nat} (hf : ∀ a, (f a).length = w) (d : α) {Z : List Value} (hZ : Z.length = w) {l : List α} {k n : Nat} {v : List Value} (hl : l.length = n) (hk : k < n) (hv : v = f (l.getD k d)) : ((l.take k).flatMap f ++ repeatCells (n - k) Z).take (k * w) ++ (v ++ ((l.take k).flatMap f ++ repeatCells (n - k) Z).drop (k * w + w)) = (l.take (k + 1)).flatMap f ++ repeatCells (n - (k + 1)) Z := by
  subst hv
  have e : ((l.take k).flatMap f).length = k * w := by rw [flat_len hf, List.length_take, Nat.min_eq_left (by omega)]
  obtain ⟨m, hm⟩ : ∃ m, n - k = m + 1 := ⟨n - k - 1, by omega⟩
  rw [hm, show n - (k + 1) = m by omega, List.take_append_of_le_length (by omega), List.take_of_length_le (by omega), List.drop_append, List.drop_eq_nil_of_le (by omega), e, Nat.add_sub_cancel_left, List.nil_append, take_next d (by omega), List.flatMap_append]
  show _ ++ (_ ++ (Z ++ repeatCells m Z).drop w) = _
  rw [List.drop_append, List.drop_eq_nil_of_le (by omega), hZ, Nat.sub_self]
  simp
theorem rep_len {Z : List Value} : ∀ n, (repeatCells n Z).length = n * Z.length
  | 0 => by simp [repeatCells]
  | n + 1 => by rw [repeatCells, List.length_append, rep_len n, Nat.succ_mul]; omega
/-- For how many ticks no animal may have been inside. -/
def qt (I : Nat → Bool) : Nat → Nat
  | 0 => 0
  | k + 1 => if I k then 0 else qt I k + 1
theorem qt_le (I : Nat → Bool) : ∀ k, qt I k ≤ k
  | 0 => Nat.le_refl _
  | k + 1 => by have := qt_le I k; rw [qt]; split <;> omega
def insB (x y u v r sp lo : Int) (l : List Sg) (k : Nat) : Bool := l.any (hitB r sp lo (x + (k : Int) * u) (y + (k : Int) * v) (k : Int))
def qsL (I : Nat → Bool) (T : Nat) : List Int := (List.range T).map fun i => (qt I (i + 1) : Int)
theorem qsL_len {I : Nat → Bool} {T : Nat} : (qsL I T).length = T := by simp [qsL]
theorem qsL_get {I : Nat → Bool} {T k : Nat} (h : k < T) : (qsL I T).getD k 0 = (qt I (k + 1) : Int) := by
  simp [qsL, List.getD, List.getElem?_map, List.getElem?_range h]
theorem stC_len (r sp lo cl so : Int) (q : Int) : (stC r sp lo cl so q).length = 6 := rfl
set_option maxHeartbeats 8000000 in
theorem c83 {x y u v r sp lo cl so : Int} {T : Nat} {w : Value} {n : Nat} {l : List Sg} (s : Sl G h 3 w n (l.flatMap Sg.cells)) (hl : l.length = n) (hn : n < 1000000) (hw : Wf h) (b1 : x.natAbs ≤ 100000) (b2 : y.natAbs ≤ 100000) (b3 : u.natAbs ≤ 1000) (b4 : v.natAbs ≤ 1000) (hT : T ≤ 4096) (hr : 0 ≤ r ∧ r ≤ 10000) (hs : 0 ≤ sp ∧ sp ≤ 1000) (hlo : 0 ≤ lo ∧ lo ≤ 1000) (hall : ∀ p ∈ l, sgE p = 0) :
    Cf (mz G) (.func (.func 83) #[] #[]) [.agg ⟨[.int .i64 x, .int .i64 y, .int .i64 u, .int .i64 v, .int .i64 (T : Nat)]⟩, .agg ⟨[.int .i64 r, .int .i64 sp, .int .i64 lo, .int .i64 cl, .int .i64 so]⟩, w] h fun r' h' => (∃ b, r' = .slice (some ⟨b, 0, some 0⟩) T T ∧ At h' b (.cells ((qsL (insB x y u v r sp lo l) T).flatMap (stC r sp lo cl so)) 157 6 false)) ∧ Grow h h' := by
  obtain ⟨a, c, rfl⟩ := s.form
  refine cf_enter0 35 [.tmp 6] Tryz.func83 rfl rfl rfl rfl ?_
  repeat' (first | with_reducible refine wo_nil ?_ | ((with_reducible refine wo_any ?_); first | ((with_reducible refine ik_move ?_); refine wo_op rfl (op_move rfl) rfl rfl ?_) | ((with_reducible refine ik_assign ?_); refine wo_op rfl (op_assign rfl) rfl rfl ?_) | ((with_reducible refine ik_makeSlice ?_); refine wo_op rfl (op_mkAgg rfl rfl Tryz.underlying158 zs157 zb157 zz157 rfl (by omega) (by omega) rfl) rfl rfl ?_) | ((with_reducible refine ik_box ?_); refine wo_op rfl (op_boxAgg rfl zs45 rfl) rfl rfl ?_) | ((with_reducible refine ik_load ?_); first | refine wo_op rfl (op_ldAgg rfl at_A Tryz.underlying46 rfl zs46 rfl rfl) rfl rfl ?_ | refine wo_op rfl (op_ldAt rfl at_A Tryz.underlying3 rfl rfl) rfl rfl ?_) | ((with_reducible refine ik_build ?_); refine wo_op rfl (op_buildT rfl zz157 zp157 rfl rfl) rfl rfl ?_) | ((with_reducible refine ik_alloc ?_); refine wo_op rfl (op_alloc zz157 zs157 rfl rfl rfl) rfl rfl ?_) | ((with_reducible refine ik_store ?_); refine wo_op0 rfl (op_stAgg rfl rfl at_A zs157 rfl rfl rfl rfl) rfl ?_) | ((with_reducible refine ik_fieldAddr ?_); refine wo_op rfl (op_fieldAddr (o := 4) rfl Tryz.underlying45 rfl zs3 rfl) rfl rfl ?_)) | with_reducible refine sq_norm ?_ | with_reducible refine wc_seq ?_ | with_reducible refine wc_region ?_ | with_reducible refine wc_block ?_)
  refine wc_loop (fun k => T - k) (fun k : Nat => [(2, .slice a n c), (3, .pointer (some ⟨h.nx, 0, some 0⟩)), (4, .pointer (some ⟨h.nx + 1, 0, some 0⟩)), (7, .pointer (some ⟨h.nx + 2, 0, some 0⟩)), (8, .slice (some ⟨h.nx + 3, 0, some 0⟩) T T), (17, .int .i64 (T : Nat)), (18, .int .i64 (k : Nat))]) (fun k h' => (Wf h' ∧ Grow h h') ∧ k ≤ T ∧ At h' h.nx (.cells [.int .i64 x, .int .i64 y, .int .i64 u, .int .i64 v, .int .i64 (T : Nat)] 45 5 false) ∧ At h' (h.nx + 1) (.cells [.int .i64 r, .int .i64 sp, .int .i64 lo, .int .i64 cl, .int .i64 so] 46 5 false) ∧ At h' (h.nx + 2) (.cells (stC r sp lo cl so (qt (insB x y u v r sp lo l) k : Int)) 157 6 false) ∧ At h' (h.nx + 3) (.cells (((qsL (insB x y u v r sp lo l) T).take k).flatMap (stC r sp lo cl so) ++ repeatCells (T - k) (stC 0 0 0 0 0 0)) 157 6 false)) 0 (within_lk ⟨rfl, rfl, rfl, rfl, rfl, rfl, rfl, trivial⟩) ⟨⟨wf_A, gr_A⟩, Nat.zero_le _, at_A, at_A, (At.push (At.set (At.new _ _) _) _), (At.new _ _)⟩ ?_
  rintro k h1 ⟨⟨w1, g1⟩, hk, a1, a2, a3, a4⟩
  have n1 := g1.nx
  have l4 := a4.lt
  by_cases hlt : k < T
  · obtain ⟨px, hpx⟩ : ∃ px, x + (k : Int) * u = px := ⟨_, rfl⟩
    obtain ⟨py, hpy⟩ : ∃ py, y + (k : Int) * v = py := ⟨_, rfl⟩
    have m1 := mulb (a := (k : Int)) (b := u) (A := 4096) (B := 1000) (by omega) b3
    have m2 := mulb (a := (k : Int)) (b := v) (A := 4096) (B := 1000) (by omega) b4
    have qa := fun (h' : H) (w' : Wf h') => c147 (G := G) (h := h') (x := x) (y := y) (u := u) (v := v) (t := (T : Nat)) (k := (k : Int)) (by omega) (by omega) (by omega) (by omega) (by omega) w'
    have qI : qt (insB x y u v r sp lo l) (k + 1) = if l.any (hitB r sp lo px py (k : Int)) then 0 else qt (insB x y u v r sp lo l) k + 1 := by
      rw [qt]; unfold insB; rw [hpx, hpy]
    rw [hpx, hpy] at qa
    have qc := fun (h' : H) (A B D : Nat) (hA : At h' A (.cells [.int .i64 r, .int .i64 sp, .int .i64 lo, .int .i64 cl, .int .i64 so] 46 5 false)) (hB : At h' B (.cells [.int .i64 px, .int .i64 py] 35 2 false)) (hD : At h' D (.cells [.int .i64 (k : Nat)] 3 1 false)) (g' : Grow h h') (w' : Wf h') => c149 (A := A) (B := B) (D := D) (hitB r sp lo px py (k : Int)) (s.grow g') hl hn w' (fun h2 x0 g2 w2 m => c150 hr hs hlo (by omega) (by omega) (by omega) (hall x0 m) w2 (hA.grow g2) (hB.grow g2) (hD.grow g2))
    have hql := qt_le (insB x y u v r sp lo l) k
    have fr := fill_rec (stC_len r sp lo cl so) 0 (Z := stC 0 0 0 0 0 0) rfl (l := qsL (insB x y u v r sp lo l) T) (k := k) (v := stC r sp lo cl so (if l.any (hitB r sp lo px py (k : Int)) then 0 else (qt (insB x y u v r sp lo l) k : Int) + 1)) qsL_len hlt (by
      rw [qsL_get hlt, qI]
      cases l.any (hitB r sp lo px py (k : Int)) <;> simp)
    have hlen : (((qsL (insB x y u v r sp lo l) T).take k).flatMap (stC r sp lo cl so) ++ repeatCells (T - k) (stC 0 0 0 0 0 0)).length = T * 6 := by
      rw [List.length_append, flat_len (stC_len r sp lo cl so), rep_len, List.length_take, qsL_len, Nat.min_eq_left (by omega), stC_len, ← Nat.add_mul]; congr 1; omega
    have qI' : (qt (insB x y u v r sp lo l) (k + 1) : Int) = if l.any (hitB r sp lo px py (k : Int)) then 0 else (qt (insB x y u v r sp lo l) k : Int) + 1 := by
      rw [qI]; cases l.any (hitB r sp lo px py (k : Int)) <;> simp
    clear qI
    obtain ⟨bb, hbb⟩ : ∃ b, l.any (hitB r sp lo px py (k : Int)) = b := ⟨_, rfl⟩
    rw [hbb] at qc fr qI'
    obtain ⟨Q, hQ⟩ : ∃ Q, (qt (insB x y u v r sp lo l) k : Int) = Q := ⟨_, rfl⟩
    rw [hQ] at fr a3 qI'
    have hQ1 : Q.natAbs ≤ 1000000 := by omega
    obtain ⟨L, hL⟩ : ∃ L, ((qsL (insB x y u v r sp lo l) T).take k).flatMap (stC r sp lo cl so) ++ repeatCells (T - k) (stC 0 0 0 0 0 0) = L := ⟨_, rfl⟩
    rw [hL] at a4 fr hlen
    obtain ⟨L2, hL2⟩ : ∃ L, ((qsL (insB x y u v r sp lo l) T).take (k + 1)).flatMap (stC r sp lo cl so) ++ repeatCells (T - (k + 1)) (stC 0 0 0 0 0 0) = L := ⟨_, rfl⟩
    rw [hL2] at fr
    clear hL hbb hQ hql hpx hpy
    repeat' (first | with_reducible refine wo_nil ?_ | ((with_reducible refine wo_any ?_); first | ((with_reducible refine ik_move ?_); refine wo_op rfl (op_move rfl) rfl rfl ?_) | ((with_reducible refine ik_indexAddr ?_); refine wo_op rfl (op_idxSl (o := k * 6) rfl rfl Tryz.underlying158 zs157 (by omega) (by omega) (by omega)) rfl rfl ?_) | ((with_reducible refine ik_store ?_); first | refine wo_op0 rfl (op_stRec rfl rfl at_A zs157 rfl (by omega) rfl fr) rfl ?_ | refine wo_op0 rfl (op_st1 rfl rfl at_A rfl zs3 rfl rfl rfl) rfl ?_ | refine wo_op0 rfl (op_stAgg rfl rfl at_A zs35 rfl rfl rfl rfl) rfl ?_) | ((with_reducible refine ik_load ?_); first | refine wo_op rfl (op_ldAt rfl at_A Tryz.underlying3 rfl rfl) rfl rfl ?_ | refine wo_op rfl (op_ldAgg rfl at_A Tryz.underlying45 rfl zs45 rfl rfl) rfl rfl ?_ | refine wo_op rfl (op_ldAgg rfl at_A Tryz.underlying157 rfl zs157 rfl rfl) rfl rfl ?_) | ((with_reducible refine ik_alloc ?_); first | refine wo_op rfl (op_alloc zz3 zs3 rfl rfl rfl) rfl rfl ?_ | refine wo_op rfl (op_alloc zz35 zs35 rfl rfl rfl) rfl rfl ?_) | ((with_reducible refine ik_bin ?_); first | refine wo_op rfl (op_lss rfl rfl) rfl rfl ?_ | refine wo_op rfl (op_add' rfl rfl (w64 (by omega) (by omega))) rfl rfl ?_) | ((with_reducible refine ik_callv ?_); (refine wo_call rfl rfl rfl rfl (qa _ wf_A) rfl rfl ?_; rintro _ _ ⟨rfl, hq⟩; all_goals ((try (have hqn := hq.nx)); (try simp only [H.nx_push, H.nx_set, H.nx_bump] at hqn))))) | ((with_reducible refine xk_any ?_); ((with_reducible refine xk_as0 ?_); first | ((with_reducible refine xk_move ?_); refine wx_q (wt_none rfl) rfl rfl (op_q rfl (op_move rfl)) rfl rfl rfl ?_) | ((with_reducible refine xk_makeFunc ?_); refine wx_q (wt_none rfl) rfl rfl (op_q rfl (op_makeFunc (fun _ q => by cases q) rfl rfl)) rfl rfl rfl ?_) | ((with_reducible refine xk_store ?_); refine wx_ee0 (wt_none rfl) rfl rfl (op_stAgg rfl rfl at_A zs157 rfl rfl rfl rfl) rfl ?_) | ((with_reducible refine xk_load ?_); refine wx_h0 (wt_none rfl) rfl (op_q rfl (op_ldAgg rfl at_A Tryz.underlying157 rfl zs157 rfl rfl)) rfl rfl rfl ?_) | ((with_reducible refine xk_callv ?_); (refine wx_call0 (wt_none rfl) rfl rfl rfl rfl (qc _ _ _ _ at_A at_A at_A gr_A wf_A) rfl rfl ?_; rintro _ _ ⟨rfl, hq⟩; all_goals ((try (have hqn := hq.nx)); (try simp only [H.nx_push, H.nx_set, H.nx_bump] at hqn)))) | ((with_reducible refine xk_callF (f := 148) ?_); (refine wx_call0 (wt_none rfl) rfl rfl rfl rfl (c148 hQ1 wf_A) rfl rfl ?_; rintro _ _ ⟨rfl, hq⟩; all_goals ((try (have hqn := hq.nx)); (try simp only [H.nx_push, H.nx_set, H.nx_bump] at hqn)))) | with_reducible refine wx_nil0 ?_ ?_)) | with_reducible exact obl_nil | with_reducible refine obl_cons ?_ ?_ | ((with_reducible refine ik_obs ?_); first | exact obs_nil | refine obs_skip rfl ?_ | refine obs_chkn rfl rfl (op_q rfl (op_ldAgg rfl at_A Tryz.underlying157 rfl zs157 (by rfl) rfl)) ?_) | with_reducible refine sq_norm ?_ | with_reducible refine wc_seq ?_ | with_reducible refine wc_region ?_ | with_reducible refine wc_skip ?_ | with_reducible refine wc_block ?_ | with_reducible refine bq_norm ?_ | (refine wc_if rfl (fun hb => ?_) (fun hb => dead_A hb); (try simp only [decide_eq_true_eq, decide_eq_false_iff_not, Bool.not_eq_true', Bool.not_eq_false', Int.not_lt, Int.not_le, Decidable.not_not, not_true_eq_false, not_false_eq_true, beq_self_eq_true, reduceCtorEq] at hb)) | refine wc_drawB (id := 7) 6 [0, 0, 0, 6, 15, 31] [0, 1, 2, 3, 4, 5] (by kernel_rfl) (by kernel_rfl) rfl rfl ?_)
    exact lq_norm (k + 1) (by omega) (within_lk ⟨rfl, rfl, rfl, rfl, rfl, rfl, rfl, trivial⟩) ⟨⟨wf_A, gr_A⟩, by omega, at_A, at_A, by rw [qI']; exact at_A, by rw [hL2]; exact at_A⟩
  · have hkn : k = T := by omega
    subst hkn
    have fe : ((qsL (insB x y u v r sp lo l) k).take k).flatMap (stC r sp lo cl so) ++ repeatCells (k - k) (stC 0 0 0 0 0 0) = (qsL (insB x y u v r sp lo l) k).flatMap (stC r sp lo cl so) := by
      rw [List.take_of_length_le (by rw [qsL_len]; omega), Nat.sub_self]; simp [repeatCells]
    rw [fe] at a4
    repeat' (first | with_reducible refine wo_nil ?_ | ((with_reducible refine wo_any ?_); first | ((with_reducible refine ik_move ?_); refine wo_op rfl (op_move rfl) rfl rfl ?_) | ((with_reducible refine ik_assign ?_); refine wo_op rfl (op_assign rfl) rfl rfl ?_) | ((with_reducible refine ik_bin ?_); refine wo_op rfl (op_lss rfl rfl) rfl rfl ?_)) | with_reducible refine sq_norm ?_ | with_reducible refine wc_seq ?_ | with_reducible refine wc_region ?_ | with_reducible refine wc_ret ?_ | with_reducible refine wc_exit ?_ | with_reducible refine sq_exit ?_ | with_reducible refine lq_exit ?_ | refine bq_eq rfl ?_ | (refine wc_if rfl (fun hb => ?_) (fun hb => ?_) <;> (try simp only [decide_eq_true_eq, decide_eq_false_iff_not, Bool.not_eq_true', Bool.not_eq_false', Int.not_lt, Int.not_le, Decidable.not_not, not_true_eq_false, not_false_eq_true, beq_self_eq_true, reduceCtorEq] at hb) <;> (try (exfalso; omega))))
    exact rq1 rfl ⟨⟨_, rfl, at_A⟩, gr_A⟩
end Go.Proofs.YtlioomhcdlicmaaGreatDoor

/- Survey: levels of states; states mapped. -/
namespace Go.Proofs.YtlioomhcdlicmaaGreatDoor
open Go Go.Ab Go.Fl
attribute [local irreducible] SeqQ BlkQ LpQ RetQ Wc Wo WD WX Op1 Op1q Op1a Cf Cl From
attribute [local irreducible] Ieee.Format.order Ieee.Format.read Ieee.Format.nearest Ieee.Format.write Ieee.Format.mul Ieee.Format.div Ieee.Format.sqrt Ieee.Datum.order Ieee.Datum.integral K U rngE errN ptE firstNZ vesE watE sgE sgsE allE hitB sqD insB qsL
set_option maxRecDepth 10000
variable {G : Base} {h : H}

/-- The level of a quiet. -/
def lvl (cl so q : Int) : Int := min (max (q - cl) 0) (so + 1)
theorem c152 {r sp lo cl so q : Int} (hs : 0 ≤ so ∧ so ≤ 1000) (hw : Wf h) : Cf (mz G) (.func (.func 152) #[] #[]) [.agg ⟨stC r sp lo cl so q⟩] h fun r h' => r = .int .i64 (so + 1) ∧ Grow h h' := by
  dsimp only [stC]
  refine cf_enter0 7 [.tmp 2] Tryz.func152 rfl rfl rfl rfl ?_
  repeat' (first | with_reducible refine wo_nil ?_ | ((with_reducible refine wo_any ?_); first | ((with_reducible refine ik_assign ?_); refine wo_op rfl (op_assign rfl) rfl rfl ?_) | ((with_reducible refine ik_box ?_); refine wo_op rfl (op_boxAgg rfl zs157 rfl) rfl rfl ?_) | ((with_reducible refine ik_fieldAddr ?_); first | refine wo_op rfl (op_fieldAddr (o := 0) rfl Tryz.underlying157 rfl zs46 rfl) rfl rfl ?_ | refine wo_op rfl (op_fieldAddr (o := 4) rfl Tryz.underlying46 rfl zs3 rfl) rfl rfl ?_) | ((with_reducible refine ik_load ?_); refine wo_op rfl (op_ldAt rfl at_A Tryz.underlying3 rfl rfl) rfl rfl ?_) | ((with_reducible refine ik_bin ?_); refine wo_op rfl (op_add' rfl rfl (w64 (by omega) (by omega))) rfl rfl ?_)) | with_reducible refine sq_norm ?_ | with_reducible refine wc_seq ?_ | with_reducible refine wc_region ?_ | with_reducible refine wc_ret ?_)
  exact rq1 rfl ⟨rfl, gr_A⟩
theorem c86 {r sp lo cl so q : Int} (hq : 0 ≤ q ∧ q ≤ 1000000) (hc : 0 ≤ cl ∧ cl ≤ 1000) (hs : 0 ≤ so ∧ so ≤ 1000) (hw : Wf h) : Cf (mz G) (.func (.func 86) #[] #[]) [.agg ⟨stC r sp lo cl so q⟩] h fun r h' => r = .int .i64 (lvl cl so q) ∧ Grow h h' := by
  have qf := fun (h' : H) (w' : Wf h') => c152 (G := G) (h := h') (r := r) (sp := sp) (lo := lo) (cl := cl) (so := so) (q := q) hs w'
  unfold lvl
  dsimp only [stC] at qf ⊢
  refine cf_enter0 13 [.tmp 2] Tryz.func86 rfl rfl rfl rfl ?_
  repeat' (first | with_reducible refine wo_nil ?_ | ((with_reducible refine wo_any ?_); first | ((with_reducible refine ik_assign ?_); refine wo_op rfl (op_assign rfl) rfl rfl ?_) | ((with_reducible refine ik_box ?_); refine wo_op rfl (op_boxAgg rfl zs157 rfl) rfl rfl ?_)) | ((with_reducible refine xk_any ?_); ((with_reducible refine xk_as0 ?_); first | ((with_reducible refine xk_assign ?_); refine wx_q (wt_none rfl) rfl rfl (op_q rfl (op_assign rfl)) rfl rfl rfl ?_) | ((with_reducible refine xk_callb ?_); first | refine wx_q (wt_none rfl) rfl rfl (op_q rfl (op_min rfl rfl)) rfl rfl rfl ?_ | refine wx_q (wt_none rfl) rfl rfl (op_q rfl (op_max rfl rfl)) rfl rfl rfl ?_) | ((with_reducible refine xk_fieldAddr ?_); first | refine wx_q (wt_none rfl) rfl rfl (op_q rfl (op_fieldAddr (o := 5) rfl Tryz.underlying157 rfl zs3 rfl)) rfl rfl rfl ?_ | refine wx_q (wt_none rfl) rfl rfl (op_q rfl (op_fieldAddr (o := 0) rfl Tryz.underlying157 rfl zs46 rfl)) rfl rfl rfl ?_ | refine wx_q (wt_none rfl) rfl rfl (op_q rfl (op_fieldAddr (o := 3) rfl Tryz.underlying46 rfl zs3 rfl)) rfl rfl rfl ?_) | ((with_reducible refine xk_load ?_); first | refine wx_h0 (wt_none rfl) rfl (op_q rfl (op_ldAt rfl at_A Tryz.underlying3 rfl rfl)) rfl rfl rfl ?_ | refine wx_h0 (wt_none rfl) rfl (op_q rfl (op_ldAgg rfl at_A Tryz.underlying157 rfl zs157 rfl rfl)) rfl rfl rfl ?_) | ((with_reducible refine xk_bin ?_); refine wx_q (wt_none rfl) rfl rfl (op_q rfl (op_sub' rfl rfl (w64 (by omega) (by omega)))) rfl rfl rfl ?_) | ((with_reducible refine xk_callv ?_); (refine wx_call0 (wt_none rfl) rfl rfl rfl rfl (qf _ wf_A) rfl rfl ?_; rintro _ _ ⟨rfl, hq⟩; all_goals ((try (have hqn := hq.nx)); (try simp only [H.nx_push, H.nx_set, H.nx_bump] at hqn)))) | with_reducible refine wx_nil0 ?_ ?_)) | with_reducible exact obl_nil | with_reducible refine obl_cons ?_ ?_ | ((with_reducible refine ik_obs ?_); first | exact obs_nil | refine obs_skip rfl ?_ | refine obs_chkn rfl rfl (op_q rfl (op_ldAt rfl at_A Tryz.underlying3 rfl (by rfl))) ?_ | refine obs_chkn rfl rfl (op_q rfl (op_ldAgg rfl at_A Tryz.underlying157 rfl zs157 (by rfl) rfl)) ?_) | with_reducible refine sq_norm ?_ | with_reducible refine wc_seq ?_ | with_reducible refine wc_region ?_ | with_reducible refine wc_ret ?_ | refine wc_drawB (id := 1) 11 [0, 1, 0, 4, 12, 31, 63, 0, 128, 511, 1023] [0, 1, 2, 3, 4, 5, 6, 7, 8, 9, 10] (by kernel_rfl) (by kernel_rfl) rfl rfl ?_)
  exact rq1 rfl ⟨rfl, gr_A⟩
theorem c84 {r sp lo cl so q : Int} (hw : Wf h) : Cf (mz G) (.func (.func 84) #[] #[]) [.agg ⟨stC r sp lo cl so q⟩] h fun r h' => r = .bool (decide (q = 0)) ∧ Grow h h' := by
  dsimp only [stC]
  refine cf_enter0 6 [.tmp 2] Tryz.func84 rfl rfl rfl rfl ?_
  repeat' (first | with_reducible refine wo_nil ?_ | ((with_reducible refine wo_any ?_); first | ((with_reducible refine ik_assign ?_); refine wo_op rfl (op_assign rfl) rfl rfl ?_) | ((with_reducible refine ik_box ?_); refine wo_op rfl (op_boxAgg rfl zs157 rfl) rfl rfl ?_) | ((with_reducible refine ik_fieldAddr ?_); refine wo_op rfl (op_fieldAddr (o := 5) rfl Tryz.underlying157 rfl zs3 rfl) rfl rfl ?_) | ((with_reducible refine ik_load ?_); refine wo_op rfl (op_ldAt rfl at_A Tryz.underlying3 rfl rfl) rfl rfl ?_) | ((with_reducible refine ik_bin ?_); refine wo_op rfl (op_eql rfl rfl) rfl rfl ?_)) | with_reducible refine sq_norm ?_ | with_reducible refine wc_seq ?_ | with_reducible refine wc_region ?_ | with_reducible refine wc_ret ?_)
  exact rq1 rfl ⟨rfl, gr_A⟩
theorem c87 {r sp lo cl so q : Int} (hq : 0 ≤ q ∧ q ≤ 1000000) (hc : 0 ≤ cl ∧ cl ≤ 1000) (hs : 0 ≤ so ∧ so ≤ 1000) (hw : Wf h) : Cf (mz G) (.func (.func 87) #[] #[]) [.agg ⟨stC r sp lo cl so q⟩] h fun r h' => r = .bool (decide (lvl cl so q = 0)) ∧ Grow h h' := by
  have qf := fun (h' : H) (w' : Wf h') => c86 (G := G) (h := h') (r := r) (sp := sp) (lo := lo) hq hc hs w'
  dsimp only [stC] at qf ⊢
  generalize lvl cl so q = L at qf ⊢
  refine cf_enter0 6 [.tmp 2] Tryz.func87 rfl rfl rfl rfl ?_
  repeat' (first | with_reducible refine wo_nil ?_ | ((with_reducible refine wo_any ?_); first | ((with_reducible refine ik_assign ?_); refine wo_op rfl (op_assign rfl) rfl rfl ?_) | ((with_reducible refine ik_box ?_); refine wo_op rfl (op_boxAgg rfl zs157 rfl) rfl rfl ?_) | ((with_reducible refine ik_load ?_); refine wo_op rfl (op_ldAgg rfl at_A Tryz.underlying157 rfl zs157 rfl rfl) rfl rfl ?_) | ((with_reducible refine ik_bin ?_); refine wo_op rfl (op_eql rfl rfl) rfl rfl ?_) | ((with_reducible refine ik_callv ?_); (refine wo_call rfl rfl rfl rfl (qf _ wf_A) rfl rfl ?_; rintro _ _ ⟨rfl, hq⟩; all_goals ((try (have hqn := hq.nx)); (try simp only [H.nx_push, H.nx_set, H.nx_bump] at hqn))))) | with_reducible refine sq_norm ?_ | with_reducible refine wc_seq ?_ | with_reducible refine wc_region ?_ | with_reducible refine wc_ret ?_)
  exact rq1 rfl ⟨rfl, gr_A⟩
theorem fill_step {α : Type} {f : α → Value} {z u : Value} {l : List α} {k n : Nat} (hn : l.length = n) (hk : k < n) (hu : u = f (l[k]'(by omega))) : ((l.take k).map f ++ List.replicate (n - k) z).set k u = (l.take (k + 1)).map f ++ List.replicate (n - (k + 1)) z := by
  subst hu
  have e : ((l.take k).map f).length = k := by simp; omega
  rw [List.set_append_right _ _ (by omega), e, Nat.sub_self]
  obtain ⟨m, hm⟩ : ∃ m, n - k = m + 1 := ⟨n - k - 1, by omega⟩
  rw [hm, show n - (k + 1) = m by omega, List.replicate_succ, List.take_succ_eq_append_getElem (by omega), List.map_append, List.append_assoc]
  rfl
theorem fill_end {α : Type} {f : α → Value} {z : Value} {l : List α} {n : Nat} (hn : l.length = n) : (l.take n).map f ++ List.replicate (n - n) z = l.map f := by
  rw [List.take_of_length_le (by omega), Nat.sub_self]; simp
set_option maxHeartbeats 4000000 in
theorem c82 {f : Nat} {v : Value} {r sp lo cl so : Int} {n : Nat} {l : List Int} (w : Int → Bool) (s : Sl G h 6 v n (l.flatMap (stC r sp lo cl so))) (hl : l.length = n) (hn : n < 1000000) (hw : Wf h) (hq : ∀ h' x, Wf h' → x ∈ l → Cf (mz G) (.func (.func f) #[] #[]) [.agg ⟨stC r sp lo cl so x⟩] h' fun r h2 => r = Value.bool (w x) ∧ Grow h' h2) :
    Cf (mz G) (.func (.func 82) #[] #[]) [v, .func (.func f) #[] #[]] h fun r h' => r = .slice (some ⟨h.nx, 0, some 0⟩) n n ∧ At h' h.nx (.cells ((l.map w).map Value.bool) 4 1 false) ∧ Grow h h' := by
  obtain ⟨a, c, rfl⟩ := s.form
  refine cf_enter0 26 [.tmp 4] Tryz.func82 rfl rfl rfl rfl ?_
  repeat' (first | with_reducible refine wo_nil ?_ | ((with_reducible refine wo_any ?_); first | ((with_reducible refine ik_move ?_); refine wo_op rfl (op_move rfl) rfl rfl ?_) | ((with_reducible refine ik_assign ?_); refine wo_op rfl (op_assign rfl) rfl rfl ?_) | ((with_reducible refine ik_makeSlice ?_); refine wo_op rfl (op_mkSl rfl rfl Tryz.underlying42 zs4 zb4 zz4 rfl (by omega) (by omega)) rfl rfl ?_) | ((with_reducible refine ik_callb ?_); refine wo_op rfl (op_lenSl rfl Tryz.underlying158) rfl rfl ?_)) | with_reducible refine sq_norm ?_ | with_reducible refine wc_seq ?_ | with_reducible refine wc_region ?_ | with_reducible refine wc_block ?_)
  refine wc_loop (fun k => n - k) (fun k : Nat => [(1, .func (.func f) #[] #[]), (5, .slice (some ⟨h.nx, 0, some 0⟩) n n), (11, .slice a n c), (12, .int .i64 n), (13, .int .i64 k)]) (fun k h' => (Wf h' ∧ Grow h h') ∧ At h' h.nx (.cells ((l.take k).map (fun x => Value.bool (w x)) ++ List.replicate (n - k) (Value.bool false)) 4 1 false) ∧ k ≤ n) 0 (within_lk ⟨rfl, rfl, rfl, rfl, rfl, trivial⟩) ⟨⟨wf_A, gr_A⟩, by simpa using At.new h _, Nat.zero_le _⟩ ?_
  rintro k h1 ⟨⟨w1, g1⟩, hat, hk⟩
  have n1 := g1.nx
  have l1 := hat.lt
  by_cases hlt : k < n
  · obtain ⟨id, i1, i3⟩ := rl_at (stC_len r sp lo cl so) 0 (s.grow g1) hl Tryz.underlying158 zs157 (i := (k : Int)) hlt rfl
    have hm : l.getD k 0 ∈ l := by simp [List.getD, List.getElem?_eq_getElem (show k < l.length by omega)]
    have fs := fill_step (f := fun x => Value.bool (w x)) (z := Value.bool false) (u := Value.bool (w (l.getD k 0))) hl hlt (by simp [List.getD, List.getElem?_eq_getElem (show k < l.length by omega)])
    have hlen : ((l.take k).map (fun x => Value.bool (w x)) ++ List.replicate (n - k) (Value.bool false)).length = n := by simp; omega
    obtain ⟨x0, hx⟩ : ∃ x, l.getD k 0 = x := ⟨_, rfl⟩
    rw [hx] at i3 hm fs
    have q1 := fun (h' : H) (w' : Wf h') => hq h' x0 w' hm
    clear hx hm
    obtain ⟨y0, hy⟩ : ∃ y, w x0 = y := ⟨_, rfl⟩
    rw [hy] at q1 fs
    obtain ⟨L, hL⟩ : ∃ L, (l.take k).map (fun x => Value.bool (w x)) ++ List.replicate (n - k) (Value.bool false) = L := ⟨_, rfl⟩
    rw [hL] at hat fs hlen
    obtain ⟨L2, hL2⟩ : ∃ L, (l.take (k + 1)).map (fun x => Value.bool (w x)) ++ List.replicate (n - (k + 1)) (Value.bool false) = L := ⟨_, rfl⟩
    rw [hL2] at fs
    clear hL hy
    dsimp only [stC] at i3 q1
    repeat' (first | with_reducible refine wo_nil ?_ | ((with_reducible refine wo_any ?_); first | ((with_reducible refine ik_move ?_); refine wo_op rfl (op_move rfl) rfl rfl ?_) | ((with_reducible refine ik_assign ?_); refine wo_op rfl (op_assign rfl) rfl rfl ?_) | ((with_reducible refine ik_indexAddr ?_); first | refine wo_op rfl (op_indexAddr rfl rfl i1) rfl rfl ?_ | refine wo_op rfl (op_idxSl (o := k) rfl rfl Tryz.underlying42 zs4 (by omega) (by omega) (by omega)) rfl rfl ?_) | ((with_reducible refine ik_load ?_); first | refine wo_op rfl (op_ldLn rfl Tryz.underlying157 rfl zs157 (i3 _ gr_A).all) rfl rfl ?_ | refine wo_op rfl (op_ldAgg rfl at_A Tryz.underlying157 rfl zs157 rfl rfl) rfl rfl ?_) | ((with_reducible refine ik_store ?_); first | refine wo_op0 rfl (op_stIdx rfl rfl at_A rfl zs4 (by omega) rfl fs) rfl ?_ | refine wo_op0 rfl (op_stAgg rfl rfl at_A zs157 rfl rfl rfl rfl) rfl ?_) | ((with_reducible refine ik_bin ?_); first | refine wo_op rfl (op_lss rfl rfl) rfl rfl ?_ | refine wo_op rfl (op_add' rfl rfl (w64 (by omega) (by omega))) rfl rfl ?_) | ((with_reducible refine ik_alloc ?_); refine wo_op rfl (op_alloc zz157 zs157 rfl rfl rfl) rfl rfl ?_) | ((with_reducible refine ik_callv ?_); (refine wo_call rfl rfl rfl rfl (q1 _ wf_A) rfl rfl ?_; rintro _ _ ⟨rfl, hq⟩; all_goals ((try (have hqn := hq.nx)); (try simp only [H.nx_push, H.nx_set, H.nx_bump] at hqn))))) | with_reducible refine sq_norm ?_ | with_reducible refine wc_seq ?_ | with_reducible refine wc_region ?_ | with_reducible refine wc_skip ?_ | with_reducible refine wc_block ?_ | with_reducible refine bq_norm ?_ | (refine wc_if rfl (fun hb => ?_) (fun hb => dead_A hb); (try simp only [decide_eq_true_eq, decide_eq_false_iff_not, Bool.not_eq_true', Bool.not_eq_false', Int.not_lt, Int.not_le, Decidable.not_not, not_true_eq_false, not_false_eq_true, beq_self_eq_true, reduceCtorEq] at hb)))
    exact lq_norm (k + 1) (by omega) (within_lk ⟨rfl, rfl, rfl, rfl, rfl, trivial⟩) ⟨⟨wf_A, gr_A⟩, by rw [hL2]; exact at_A, by omega⟩
  · have hkn : k = n := by omega
    subst hkn
    repeat' (first | with_reducible refine wo_nil ?_ | ((with_reducible refine wo_any ?_); first | ((with_reducible refine ik_move ?_); refine wo_op rfl (op_move rfl) rfl rfl ?_) | ((with_reducible refine ik_assign ?_); refine wo_op rfl (op_assign rfl) rfl rfl ?_) | ((with_reducible refine ik_bin ?_); refine wo_op rfl (op_lss rfl rfl) rfl rfl ?_)) | with_reducible refine sq_norm ?_ | with_reducible refine wc_seq ?_ | with_reducible refine wc_region ?_ | with_reducible refine wc_ret ?_ | with_reducible refine wc_exit ?_ | with_reducible refine sq_exit ?_ | with_reducible refine lq_exit ?_ | refine bq_eq rfl ?_ | (refine wc_if rfl (fun hb => ?_) (fun hb => ?_) <;> (try simp only [decide_eq_true_eq, decide_eq_false_iff_not, Bool.not_eq_true', Bool.not_eq_false', Int.not_lt, Int.not_le, Decidable.not_not, not_true_eq_false, not_false_eq_true, beq_self_eq_true, reduceCtorEq] at hb) <;> (try (exfalso; omega))))
    rw [fill_end hl] at hat
    exact rq1 rfl ⟨rfl, by rw [List.map_map]; exact hat, gr_A⟩
set_option maxHeartbeats 4000000 in
theorem c85 {f : Nat} {v : Value} {r sp lo cl so : Int} {n : Nat} {l : List Int} (w : Int → Int) (s : Sl G h 6 v n (l.flatMap (stC r sp lo cl so))) (hl : l.length = n) (hn : n < 1000000) (hw : Wf h) (hq : ∀ h' x, Wf h' → x ∈ l → Cf (mz G) (.func (.func f) #[] #[]) [.agg ⟨stC r sp lo cl so x⟩] h' fun r h2 => r = (Value.int .i64) (w x) ∧ Grow h' h2) :
    Cf (mz G) (.func (.func 85) #[] #[]) [v, .func (.func f) #[] #[]] h fun r h' => r = .slice (some ⟨h.nx, 0, some 0⟩) n n ∧ At h' h.nx (.cells ((l.map w).map (Value.int .i64)) 3 1 false) ∧ Grow h h' := by
  obtain ⟨a, c, rfl⟩ := s.form
  refine cf_enter0 26 [.tmp 4] Tryz.func85 rfl rfl rfl rfl ?_
  repeat' (first | with_reducible refine wo_nil ?_ | ((with_reducible refine wo_any ?_); first | ((with_reducible refine ik_move ?_); refine wo_op rfl (op_move rfl) rfl rfl ?_) | ((with_reducible refine ik_assign ?_); refine wo_op rfl (op_assign rfl) rfl rfl ?_) | ((with_reducible refine ik_makeSlice ?_); refine wo_op rfl (op_mkSl rfl rfl Tryz.underlying49 zs3 zb3 zz3 rfl (by omega) (by omega)) rfl rfl ?_) | ((with_reducible refine ik_callb ?_); refine wo_op rfl (op_lenSl rfl Tryz.underlying158) rfl rfl ?_)) | with_reducible refine sq_norm ?_ | with_reducible refine wc_seq ?_ | with_reducible refine wc_region ?_ | with_reducible refine wc_block ?_)
  refine wc_loop (fun k => n - k) (fun k : Nat => [(1, .func (.func f) #[] #[]), (5, .slice (some ⟨h.nx, 0, some 0⟩) n n), (11, .slice a n c), (12, .int .i64 n), (13, .int .i64 k)]) (fun k h' => (Wf h' ∧ Grow h h') ∧ At h' h.nx (.cells ((l.take k).map (fun x => (Value.int .i64) (w x)) ++ List.replicate (n - k) (Value.int .i64 0)) 3 1 false) ∧ k ≤ n) 0 (within_lk ⟨rfl, rfl, rfl, rfl, rfl, trivial⟩) ⟨⟨wf_A, gr_A⟩, by simpa using At.new h _, Nat.zero_le _⟩ ?_
  rintro k h1 ⟨⟨w1, g1⟩, hat, hk⟩
  have n1 := g1.nx
  have l1 := hat.lt
  by_cases hlt : k < n
  · obtain ⟨id, i1, i3⟩ := rl_at (stC_len r sp lo cl so) 0 (s.grow g1) hl Tryz.underlying158 zs157 (i := (k : Int)) hlt rfl
    have hm : l.getD k 0 ∈ l := by simp [List.getD, List.getElem?_eq_getElem (show k < l.length by omega)]
    have fs := fill_step (f := fun x => (Value.int .i64) (w x)) (z := Value.int .i64 0) (u := (Value.int .i64) (w (l.getD k 0))) hl hlt (by simp [List.getD, List.getElem?_eq_getElem (show k < l.length by omega)])
    have hlen : ((l.take k).map (fun x => (Value.int .i64) (w x)) ++ List.replicate (n - k) (Value.int .i64 0)).length = n := by simp; omega
    obtain ⟨x0, hx⟩ : ∃ x, l.getD k 0 = x := ⟨_, rfl⟩
    rw [hx] at i3 hm fs
    have q1 := fun (h' : H) (w' : Wf h') => hq h' x0 w' hm
    clear hx hm
    obtain ⟨y0, hy⟩ : ∃ y, w x0 = y := ⟨_, rfl⟩
    rw [hy] at q1 fs
    obtain ⟨L, hL⟩ : ∃ L, (l.take k).map (fun x => (Value.int .i64) (w x)) ++ List.replicate (n - k) (Value.int .i64 0) = L := ⟨_, rfl⟩
    rw [hL] at hat fs hlen
    obtain ⟨L2, hL2⟩ : ∃ L, (l.take (k + 1)).map (fun x => (Value.int .i64) (w x)) ++ List.replicate (n - (k + 1)) (Value.int .i64 0) = L := ⟨_, rfl⟩
    rw [hL2] at fs
    clear hL hy
    dsimp only [stC] at i3 q1
    repeat' (first | with_reducible refine wo_nil ?_ | ((with_reducible refine wo_any ?_); first | ((with_reducible refine ik_move ?_); refine wo_op rfl (op_move rfl) rfl rfl ?_) | ((with_reducible refine ik_assign ?_); refine wo_op rfl (op_assign rfl) rfl rfl ?_) | ((with_reducible refine ik_indexAddr ?_); first | refine wo_op rfl (op_indexAddr rfl rfl i1) rfl rfl ?_ | refine wo_op rfl (op_idxSl (o := k) rfl rfl Tryz.underlying49 zs3 (by omega) (by omega) (by omega)) rfl rfl ?_) | ((with_reducible refine ik_load ?_); first | refine wo_op rfl (op_ldLn rfl Tryz.underlying157 rfl zs157 (i3 _ gr_A).all) rfl rfl ?_ | refine wo_op rfl (op_ldAgg rfl at_A Tryz.underlying157 rfl zs157 rfl rfl) rfl rfl ?_) | ((with_reducible refine ik_store ?_); first | refine wo_op0 rfl (op_stIdx rfl rfl at_A rfl zs3 (by omega) rfl fs) rfl ?_ | refine wo_op0 rfl (op_stAgg rfl rfl at_A zs157 rfl rfl rfl rfl) rfl ?_) | ((with_reducible refine ik_bin ?_); first | refine wo_op rfl (op_lss rfl rfl) rfl rfl ?_ | refine wo_op rfl (op_add' rfl rfl (w64 (by omega) (by omega))) rfl rfl ?_) | ((with_reducible refine ik_alloc ?_); refine wo_op rfl (op_alloc zz157 zs157 rfl rfl rfl) rfl rfl ?_) | ((with_reducible refine ik_callv ?_); (refine wo_call rfl rfl rfl rfl (q1 _ wf_A) rfl rfl ?_; rintro _ _ ⟨rfl, hq⟩; all_goals ((try (have hqn := hq.nx)); (try simp only [H.nx_push, H.nx_set, H.nx_bump] at hqn))))) | with_reducible refine sq_norm ?_ | with_reducible refine wc_seq ?_ | with_reducible refine wc_region ?_ | with_reducible refine wc_skip ?_ | with_reducible refine wc_block ?_ | with_reducible refine bq_norm ?_ | (refine wc_if rfl (fun hb => ?_) (fun hb => dead_A hb); (try simp only [decide_eq_true_eq, decide_eq_false_iff_not, Bool.not_eq_true', Bool.not_eq_false', Int.not_lt, Int.not_le, Decidable.not_not, not_true_eq_false, not_false_eq_true, beq_self_eq_true, reduceCtorEq] at hb)))
    exact lq_norm (k + 1) (by omega) (within_lk ⟨rfl, rfl, rfl, rfl, rfl, trivial⟩) ⟨⟨wf_A, gr_A⟩, by rw [hL2]; exact at_A, by omega⟩
  · have hkn : k = n := by omega
    subst hkn
    repeat' (first | with_reducible refine wo_nil ?_ | ((with_reducible refine wo_any ?_); first | ((with_reducible refine ik_move ?_); refine wo_op rfl (op_move rfl) rfl rfl ?_) | ((with_reducible refine ik_assign ?_); refine wo_op rfl (op_assign rfl) rfl rfl ?_) | ((with_reducible refine ik_bin ?_); refine wo_op rfl (op_lss rfl rfl) rfl rfl ?_)) | with_reducible refine sq_norm ?_ | with_reducible refine wc_seq ?_ | with_reducible refine wc_region ?_ | with_reducible refine wc_ret ?_ | with_reducible refine wc_exit ?_ | with_reducible refine sq_exit ?_ | with_reducible refine lq_exit ?_ | refine bq_eq rfl ?_ | (refine wc_if rfl (fun hb => ?_) (fun hb => ?_) <;> (try simp only [decide_eq_true_eq, decide_eq_false_iff_not, Bool.not_eq_true', Bool.not_eq_false', Int.not_lt, Int.not_le, Decidable.not_not, not_true_eq_false, not_false_eq_true, beq_self_eq_true, reduceCtorEq] at hb) <;> (try (exfalso; omega))))
    rw [fill_end hl] at hat
    exact rq1 rfl ⟨rfl, by rw [List.map_map]; exact hat, gr_A⟩
end Go.Proofs.YtlioomhcdlicmaaGreatDoor
