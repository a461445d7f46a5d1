/- Ratios in their lowest terms; lists less multiples. -/
import Derived.Test.YtdfpadokepmknaaGreatDoorG2
set_option linter.all false
/- Divisors, ratios in lowest terms; inner products by the reference; lists of any integers made. -/
namespace Go.Ab
open Go
theorem rqt {M : Mc} {t u s : Nat} {ty : TypeId} {Q : Value → H → Prop} {l : KL} {h : H} {v w x : Value} {a : Addr} (hw : lk l t = some w) (ha : lk l u = some (.pointer (some a))) (hv : aloadVar M.P M.G h ty a = some v) (hx : lk l s = some x) (q : Q (.tuple #[w, v, x]) h) : RetQ M [.tmp t, .cell u ty, .tmp s] Q .ret l h := ⟨trivial, [w, v, x], by simp only [resK, hw, ha, hv, hx], q⟩
end Go.Ab
namespace Go.Proofs.YtdfpadokepmknaaGreatDoor
open Go Go.Ab Go.Fl
attribute [local irreducible] SeqQ BlkQ LpQ RetQ Wc Wo WD WX Op1 Op1q Op1a Cf Cl From
attribute [local irreducible] Ieee.Format.order Ieee.Format.read Ieee.Format.nearest Ieee.Format.write Ieee.Format.mul Ieee.Format.div Ieee.Datum.order Ieee.Datum.integral smpE smp smpW K J U sumN lchk tchk trE hdrE appL undL undA undI wr ghoL rnd mulL dghL dghA rngE notN
set_option maxRecDepth 10000
variable {G : Base} {h : H}

def gcdA (l : List Int) : Nat → Nat
  | 0 => 0
  | k + 1 => Nat.gcd (gcdA l k) (l.getD k 0).natAbs
theorem tmod_nat (a b : Nat) : ((a : Int).tmod (b : Int)) = ((a % b : Nat) : Int) := rfl
set_option maxHeartbeats 2000000 in
theorem c129 {v : Value} {n : Nat} {l : List Int} (u : Sl G h 1 v n (l.map (.int .i64))) (hn : n < 1000000) (hl0 : ∀ x ∈ l, x.natAbs ≤ 100000000000000000) (hw : Wf h) :
    Cf (mz G) (.func (.func 129) #[] #[]) [v] h fun r h' => r = .int .i64 (gcdA l n : Nat) ∧ Grow h h' := by
  obtain ⟨b, c, rfl⟩ := u.form
  have hl := u.length
  simp at hl
  have hgb : ∀ k, gcdA l k ≤ 100000000000000000 := fun k => by
    induction k with
    | zero => exact Nat.zero_le _
    | succ k ih =>
      show Nat.gcd (gcdA l k) (l.getD k 0).natAbs ≤ _
      have hb2 := getD_bound hl0 k
      by_cases q : (l.getD k 0).natAbs = 0
      · rw [q, Nat.gcd_zero_right]; exact ih
      · exact Nat.le_trans (Nat.gcd_le_right _ (by omega)) hb2
  refine cf_enter0 25 [.tmp 2] Tryz.func129 rfl rfl rfl rfl ?_
  repeat' (first | with_reducible refine wo_nil ?_ | ((with_reducible refine wo_any ?_); first | ((with_reducible refine ik_move ?_); refine wo_op rfl (op_move rfl) rfl rfl ?_) | ((with_reducible refine ik_assign ?_); refine wo_op rfl (op_assign rfl) rfl rfl ?_) | ((with_reducible refine ik_callb ?_); refine wo_op rfl (op_lenSl rfl Tryz.underlying22) rfl rfl ?_)) | with_reducible refine sq_norm ?_ | with_reducible refine wc_seq ?_ | with_reducible refine wc_region ?_ | with_reducible refine wc_block ?_)
  refine wc_loop (fun i => n - i) (fun i : Nat => [(3, .int .i64 (gcdA l i : Nat)), (7, .slice b n c), (8, .int .i64 n), (9, .int .i64 i)]) (fun i h' => (Wf h' ∧ Grow h h') ∧ i ≤ n) 0 (within_lk ⟨rfl, rfl, rfl, rfl, trivial⟩) ⟨⟨wf_A, gr_A⟩, Nat.zero_le _⟩ ?_
  rintro i h1 ⟨⟨w1, g1⟩, hi⟩
  by_cases hlt : i < n
  · obtain ⟨ad, i1, i3⟩ := slI_at (u.grow g1) (i := (i : Int)) (q := i) hlt rfl
    have hb2 := getD_bound hl0 i
    have hst : gcdA l (i + 1) = Nat.gcd (gcdA l i) (l.getD i 0).natAbs := rfl
    have hg1 := hgb i
    obtain ⟨x, hx⟩ : ∃ x, l.getD i 0 = x := ⟨_, rfl⟩
    obtain ⟨d0, hd0⟩ : ∃ d, gcdA l i = d := ⟨_, rfl⟩
    rw [hx] at i3 hb2 hst
    rw [hd0] at hst hg1
    obtain ⟨y, hy⟩ : ∃ y : Nat, max x (0 - x) = (y : Int) ∧ y = x.natAbs := ⟨x.natAbs, by omega, rfl⟩
    rw [hd0]
    repeat' (first | with_reducible refine wo_nil ?_ | ((with_reducible refine wo_any ?_); first | ((with_reducible refine ik_move ?_); refine wo_op rfl (op_move rfl) rfl rfl ?_) | ((with_reducible refine ik_assign ?_); refine wo_op rfl (op_assign rfl) rfl rfl ?_) | ((with_reducible refine ik_indexAddr ?_); refine wo_op rfl (op_indexAddr rfl rfl i1) rfl rfl ?_) | ((with_reducible refine ik_load ?_); refine wo_op rfl (op_ldCell rfl Tryz.underlying3 rfl i3) rfl rfl ?_) | ((with_reducible refine ik_callb ?_); refine wo_op rfl (op_max rfl rfl) rfl rfl ?_) | ((with_reducible refine ik_bin ?_); refine wo_op rfl (op_lss rfl rfl) rfl rfl ?_) | ((with_reducible refine ik_un ?_); refine wo_op rfl (op_neg' rfl (w64 (by omega) (by omega))) rfl rfl ?_)) | with_reducible refine sq_norm ?_ | with_reducible refine wc_seq ?_ | with_reducible refine wc_region ?_ | with_reducible refine wc_skip ?_ | with_reducible refine wc_block ?_ | (refine wc_if rfl (fun hb => ?_) (fun hb => ?_) <;> (try simp only [decide_eq_true_eq, decide_eq_false_iff_not, Bool.not_eq_true', Bool.not_eq_false', Int.not_lt, Int.not_le, Decidable.not_not, not_true_eq_false, not_false_eq_true, beq_self_eq_true, reduceCtorEq] at hb) <;> (try (exfalso; omega))))
    rw [hy.1]
    refine wc_loop (fun p : Nat × Nat => p.2) (fun p => [(3, .int .i64 (p.1 : Nat)), (6, .int .i64 (p.2 : Nat)), (7, .slice b n c), (8, .int .i64 n), (9, .int .i64 i)]) (fun p h' => (Wf h' ∧ Grow h h') ∧ Nat.gcd p.1 p.2 = gcdA l (i + 1) ∧ p.1 ≤ 100000000000000000 ∧ p.2 ≤ 100000000000000000) (d0, y) (within_lk ⟨rfl, rfl, rfl, rfl, rfl, trivial⟩) ⟨⟨wf_A, gr_A⟩, by simp only; rw [hst, hy.2], hg1, by simp only; omega⟩ ?_
    clear w1 g1
    rintro ⟨p, q⟩ h2 ⟨⟨w2, g2⟩, hg, hp, hq⟩
    simp only at hg hp hq ⊢
    by_cases hq0 : q = 0
    · subst hq0
      rw [Nat.gcd_zero_right] at hg
      subst hg
      repeat' (first | with_reducible refine wo_nil ?_ | ((with_reducible refine wo_any ?_); first | ((with_reducible refine ik_move ?_); refine wo_op rfl (op_move rfl) rfl rfl ?_) | ((with_reducible refine ik_bin ?_); first | refine wo_op rfl (op_neq rfl rfl) rfl rfl ?_ | refine wo_op rfl (op_add' rfl rfl (w64 (by omega) (by omega))) rfl rfl ?_)) | with_reducible refine sq_norm ?_ | with_reducible refine wc_seq ?_ | with_reducible refine wc_region ?_ | with_reducible refine wc_exit ?_ | with_reducible refine bq_norm ?_ | with_reducible refine sq_exit ?_ | with_reducible refine lq_exit ?_ | refine bq_eq rfl ?_ | refine wc_iff rfl ?_)
      exact lq_norm (i + 1) (by omega) (within_lk ⟨rfl, rfl, rfl, rfl, trivial⟩) ⟨⟨wf_A, gr_A⟩, by omega⟩
    · have hr : ((p : Int).tmod (q : Int)) = ((p % q : Nat) : Int) := tmod_nat p q
      have hmod : p % q < q := Nat.mod_lt _ (by omega)
      repeat' (first | with_reducible refine wo_nil ?_ | ((with_reducible refine wo_any ?_); first | ((with_reducible refine ik_move ?_); refine wo_op rfl (op_move rfl) rfl rfl ?_) | ((with_reducible refine ik_bin ?_); refine wo_op rfl (op_neq rfl rfl) rfl rfl ?_)) | ((with_reducible refine xk_any ?_); ((with_reducible refine xk_as0 ?_); first | ((with_reducible refine xk_move ?_); refine wx_q (wt_none rfl) rfl rfl (op_q rfl (op_move rfl)) rfl rfl rfl ?_) | ((with_reducible refine xk_assign ?_); refine wx_q (wt_none rfl) rfl rfl (op_q rfl (op_assign rfl)) rfl rfl rfl ?_) | ((with_reducible refine xk_bin ?_); refine wx_q (wt_none rfl) rfl rfl (op_q rfl (op_remV rfl rfl (by omega) hr)) rfl rfl rfl ?_) | with_reducible refine wx_nil0 ?_ ?_)) | with_reducible exact obl_nil | with_reducible refine sq_norm ?_ | with_reducible refine wc_seq ?_ | with_reducible refine wc_region ?_ | with_reducible refine wc_skip ?_ | with_reducible refine wc_block ?_ | with_reducible refine bq_norm ?_ | (refine wc_if rfl (fun hb => ?_) (fun hb => dead_A hb); (try simp only [decide_eq_true_eq, decide_eq_false_iff_not, Bool.not_eq_true', Bool.not_eq_false', Int.not_lt, Int.not_le, Decidable.not_not, not_true_eq_false, not_false_eq_true, beq_self_eq_true, reduceCtorEq] at hb)) | refine wc_drawB (id := 7) 6 [0, 0, 0, 6, 3, 31] [0, 1, 2, 3, 4, 5] (by kernel_rfl) (by kernel_rfl) rfl rfl ?_)
      exact lq_norm (q, p % q) hmod (within_lk ⟨rfl, rfl, rfl, rfl, rfl, trivial⟩) ⟨⟨wf_A, gr_A⟩, by simp only; rw [← hg, Nat.gcd_comm p q, Nat.gcd_rec q p, Nat.gcd_comm], by simp only; omega, by simp only; omega⟩
  · have hin : i = n := by omega
    subst hin
    repeat' (first | with_reducible refine wo_nil ?_ | ((with_reducible refine wo_any ?_); first | ((with_reducible refine ik_move ?_); refine wo_op rfl (op_move rfl) rfl rfl ?_) | ((with_reducible refine ik_assign ?_); refine wo_op rfl (op_assign rfl) rfl rfl ?_) | ((with_reducible refine ik_bin ?_); refine wo_op rfl (op_lss rfl rfl) rfl rfl ?_)) | with_reducible refine sq_norm ?_ | with_reducible refine wc_seq ?_ | with_reducible refine wc_region ?_ | with_reducible refine wc_ret ?_ | with_reducible refine wc_exit ?_ | with_reducible refine sq_exit ?_ | with_reducible refine lq_exit ?_ | refine bq_eq rfl ?_ | (refine wc_if rfl (fun hb => ?_) (fun hb => ?_) <;> (try simp only [decide_eq_true_eq, decide_eq_false_iff_not, Bool.not_eq_true', Bool.not_eq_false', Int.not_lt, Int.not_le, Decidable.not_not, not_true_eq_false, not_false_eq_true, beq_self_eq_true, reduceCtorEq] at hb) <;> (try (exfalso; omega))))
    exact rq1 rfl ⟨rfl, g1⟩
/-- A ratio in lowest terms. -/
def lowN (a b : Int) : Int := a.tdiv (Int.gcd a b : Nat)
def lowD (a b : Int) : Int := b.tdiv (Int.gcd a b : Nat)
theorem gcdA_two (a b : Int) : gcdA [a, b] 2 = Int.gcd a b := by
  show Nat.gcd (Nat.gcd 0 a.natAbs) b.natAbs = _
  rw [Nat.gcd_zero_left]; rfl
theorem gcd_pos {a b : Int} (hb : 0 < b) : 0 < Int.gcd a b := Int.gcd_pos_of_ne_zero_right _ (by omega)
theorem tdiv_b {a : Int} {g : Nat} : (a.tdiv (g : Int)).natAbs ≤ a.natAbs := Int.natAbs_tdiv_le_natAbs _ _
set_option maxHeartbeats 2000000 in
theorem c94 {a b : Int} (hb0 : 0 < b) (ha : a.natAbs ≤ 100000000000000000) (hb2 : b.natAbs ≤ 100000000000000000) (hw : Wf h) : Cf (mz G) (.func (.func 94) #[] #[]) [.agg ⟨[.int .i64 a, .int .i64 b]⟩] h fun r h' => r = .agg ⟨[.int .i64 (lowN a b), .int .i64 (lowD a b)]⟩ ∧ Grow h h' := by
  have q129 := fun (h' : H) (v : Value) (u : Sl G h' 1 v 2 ([a, b].map (.int .i64))) (w' : Wf h') => c129 (G := G) (h := h') u (by decide) (by intro x hx; simp at hx; rcases hx with rfl | rfl <;> assumption) w'
  rw [gcdA_two] at q129
  have hg := gcd_pos (a := a) hb0
  have n1 := tdiv_b (a := a) (g := Int.gcd a b)
  have n2 := tdiv_b (a := b) (g := Int.gcd a b)
  unfold lowN lowD
  obtain ⟨g, hgg⟩ : ∃ g, Int.gcd a b = g := ⟨_, rfl⟩
  rw [hgg] at q129 hg n1 n2 ⊢
  have h1 : IntKind.wrap .i64 (a.tdiv (g : Int)) = a.tdiv (g : Int) := w64 (by omega) (by omega)
  have h2 : IntKind.wrap .i64 (b.tdiv (g : Int)) = b.tdiv (g : Int) := w64 (by omega) (by omega)
  have g0 : ((g : Nat) : Int) ≠ 0 := by omega
  refine cf_enter0 19 [.cell 2 65] Tryz.func94 rfl rfl rfl rfl ?_
  repeat' (first | with_reducible refine wo_nil ?_ | ((with_reducible refine wo_any ?_); first | ((with_reducible refine ik_assign ?_); refine wo_op rfl (op_assign rfl) rfl rfl ?_) | ((with_reducible refine ik_box ?_); refine wo_op rfl (op_boxAgg rfl zs65 rfl) rfl rfl ?_) | ((with_reducible refine ik_alloc ?_); refine wo_op rfl (op_alloc zz65 zs65 rfl rfl rfl) rfl rfl ?_) | ((with_reducible refine ik_fieldAddr ?_); first | refine wo_op rfl (op_fieldAddr (o := 0) rfl Tryz.underlying65 rfl zs3 rfl) rfl rfl ?_ | refine wo_op rfl (op_fieldAddr (o := 1) rfl Tryz.underlying65 rfl zs3 rfl) rfl rfl ?_) | ((with_reducible refine ik_load ?_); refine wo_op rfl (op_ldAt rfl at_A Tryz.underlying3 rfl rfl) rfl rfl ?_) | ((with_reducible refine ik_buildSlice ?_); refine wo_op rfl (op_buildSl rfl Tryz.underlying22 zs3 zz3 rfl rfl) rfl rfl ?_) | ((with_reducible refine ik_callv ?_); (refine wo_call rfl rfl rfl rfl (q129 _ _ (Sl.ofAt (at_A) rfl (Nat.le_refl _)) wf_A) rfl rfl ?_; rintro _ _ ⟨rfl, hq⟩; all_goals ((try (have hqn := hq.nx)); (try simp only [H.nx_push, H.nx_set, H.nx_bump] at hqn))))) | ((with_reducible refine xk_any ?_); ((with_reducible refine xk_as0 ?_); first | ((with_reducible refine xk_move ?_); refine wx_q (wt_none rfl) rfl rfl (op_q rfl (op_move rfl)) rfl rfl rfl ?_) | ((with_reducible refine xk_bin ?_); first | refine wx_q (wt_none rfl) rfl rfl (op_q rfl (op_quoV rfl rfl g0 h1)) rfl rfl rfl ?_ | refine wx_q (wt_none rfl) rfl rfl (op_q rfl (op_quoV rfl rfl g0 h2)) rfl rfl rfl ?_) | ((with_reducible refine xk_fieldAddr ?_); first | refine wx_q (wt_none rfl) rfl rfl (op_q rfl (op_fieldAddr (o := 0) rfl Tryz.underlying65 rfl zs3 rfl)) rfl rfl rfl ?_ | refine wx_q (wt_none rfl) rfl rfl (op_q rfl (op_fieldAddr (o := 1) rfl Tryz.underlying65 rfl zs3 rfl)) rfl rfl rfl ?_) | ((with_reducible refine xk_load ?_); refine wx_h0 (wt_none rfl) rfl (op_q rfl (op_ldAt rfl at_A Tryz.underlying3 rfl rfl)) rfl rfl rfl ?_) | ((with_reducible refine xk_build ?_); refine wx_q (wt_none rfl) rfl rfl (op_q rfl (op_buildT rfl zz65 zp65 rfl rfl)) rfl rfl rfl ?_) | ((with_reducible refine xk_store ?_); refine wx_ee0 (wt_none rfl) rfl rfl (op_stAgg rfl rfl at_A zs65 rfl rfl rfl rfl) rfl ?_) | with_reducible refine wx_nil0 ?_ ?_)) | with_reducible exact obl_nil | with_reducible refine obl_cons ?_ ?_ | ((with_reducible refine ik_obs ?_); first | exact obs_nil | refine obs_skip rfl ?_ | refine obs_chkn rfl rfl (op_q rfl (op_ldAt rfl at_A Tryz.underlying3 rfl (by rfl))) ?_) | with_reducible refine sq_norm ?_ | with_reducible refine wc_seq ?_ | with_reducible refine wc_region ?_ | with_reducible refine wc_ret ?_ | refine wc_drawB (id := 2) 10 [0, 1, 0, 7, 0, 16, 0, 112, 255, 511] [0, 1, 2, 3, 4, 5, 6, 7, 8, 9] (by kernel_rfl) (by kernel_rfl) rfl rfl ?_)
  exact rqc1 rfl (ldAgg at_A Tryz.underlying65 rfl zs65 rfl rfl) ⟨rfl, gr_A⟩
set_option maxHeartbeats 2000000 in
theorem c96 {a b : Int} (hb0 : 0 < b) (ha : a.natAbs ≤ 100000000000000000) (hb2 : b.natAbs ≤ 100000000000000000) (hw : Wf h) : Cf (mz G) (.func (.func 96) #[] #[]) [.int .i64 a, .int .i64 b] h fun r h' => r = .agg ⟨[.int .i64 (lowN a b), .int .i64 (lowD a b)]⟩ ∧ Grow h h' := by
  have q131 := fun (h' : H) => c131 (G := G) (h := h') a b (by omega) (by omega) (by omega) (by omega)
  have hg := gcd_pos (a := a) hb0
  have n1 := tdiv_b (a := a) (g := Int.gcd a b)
  have n2 := tdiv_b (a := b) (g := Int.gcd a b)
  unfold lowN lowD
  obtain ⟨g, hgg⟩ : ∃ g, Int.gcd a b = g := ⟨_, rfl⟩
  rw [hgg] at q131 hg n1 n2 ⊢
  have h1 : IntKind.wrap .i64 (a.tdiv (g : Int)) = a.tdiv (g : Int) := w64 (by omega) (by omega)
  have h2 : IntKind.wrap .i64 (b.tdiv (g : Int)) = b.tdiv (g : Int) := w64 (by omega) (by omega)
  have g0 : ((g : Nat) : Int) ≠ 0 := by omega
  refine cf_enter0 22 [.cell 4 65] Tryz.func96 rfl rfl rfl rfl ?_
  repeat' (first | with_reducible refine wo_nil ?_ | ((with_reducible refine wo_any ?_); first | ((with_reducible refine ik_move ?_); refine wo_op rfl (op_move rfl) rfl rfl ?_) | ((with_reducible refine ik_assign ?_); refine wo_op rfl (op_assign rfl) rfl rfl ?_) | ((with_reducible refine ik_bin ?_); refine wo_op rfl (op_lss rfl rfl) rfl rfl ?_) | ((with_reducible refine ik_alloc ?_); refine wo_op rfl (op_alloc zz65 zs65 rfl rfl rfl) rfl rfl ?_) | ((with_reducible refine ik_callv ?_); (refine wo_call rfl rfl rfl rfl (q131 _) rfl rfl ?_; rintro _ _ ⟨rfl, hq⟩; all_goals ((try (have hqn := hq.nx)); (try simp only [H.nx_push, H.nx_set, H.nx_bump] at hqn))))) | ((with_reducible refine xk_any ?_); ((with_reducible refine xk_as0 ?_); first | ((with_reducible refine xk_move ?_); refine wx_q (wt_none rfl) rfl rfl (op_q rfl (op_move rfl)) rfl rfl rfl ?_) | ((with_reducible refine xk_bin ?_); first | refine wx_q (wt_none rfl) rfl rfl (op_q rfl (op_quoV rfl rfl g0 h1)) rfl rfl rfl ?_ | refine wx_q (wt_none rfl) rfl rfl (op_q rfl (op_quoV rfl rfl g0 h2)) rfl rfl rfl ?_) | ((with_reducible refine xk_build ?_); refine wx_q (wt_none rfl) rfl rfl (op_q rfl (op_buildT rfl zz65 zp65 rfl rfl)) rfl rfl rfl ?_) | ((with_reducible refine xk_store ?_); refine wx_ee0 (wt_none rfl) rfl rfl (op_stAgg rfl rfl at_A zs65 rfl rfl rfl rfl) rfl ?_) | with_reducible refine wx_nil0 ?_ ?_)) | with_reducible exact obl_nil | with_reducible refine sq_norm ?_ | with_reducible refine wc_seq ?_ | with_reducible refine wc_region ?_ | with_reducible refine wc_skip ?_ | with_reducible refine wc_ret ?_ | (refine wc_if rfl (fun hb => dead_A hb) (fun hb => ?_); (try simp only [decide_eq_true_eq, decide_eq_false_iff_not, Bool.not_eq_true', Bool.not_eq_false', Int.not_lt, Int.not_le, Decidable.not_not, not_true_eq_false, not_false_eq_true, beq_self_eq_true, reduceCtorEq] at hb)) | refine wc_drawB (id := 4) 8 [0, 0, 3, 0, 0, 24, 63, 127] [0, 1, 2, 3, 4, 5, 6, 7] (by kernel_rfl) (by kernel_rfl) rfl rfl ?_)
  exact rqc1 rfl (ldAgg at_A Tryz.underlying65 rfl zs65 rfl rfl) ⟨rfl, gr_A⟩
set_option maxHeartbeats 1000000 in
theorem c45 {v w : Value} {n : Nat} {x y : List Int} (s : Sl G h 1 v n (x.map (.int .i64))) (u : Sl G h 1 w n (y.map (.int .i64))) (hn : n ≤ 1024) (hx0 : ∀ z ∈ x, z.natAbs ≤ 32768) (hy0 : ∀ z ∈ y, z.natAbs ≤ 32768) (hw : Wf h) :
    Cf (mz G) (.func (.func 45) #[] #[]) [v, w] h fun r h' => r = .int .i64 (innL x y) ∧ Grow h h' := by
  obtain ⟨a, c, rfl⟩ := s.form
  obtain ⟨b, d, rfl⟩ := u.form
  have hx := s.length
  have hy := u.length
  simp at hx hy
  have hB := inn_bound hx0 hy0
  refine cf_enter0 25 [.tmp 4] Tryz.func45 rfl rfl rfl rfl ?_
  repeat' (first | with_reducible refine wo_nil ?_ | ((with_reducible refine wo_any ?_); ((with_reducible refine ik_assign ?_); refine wo_op rfl (op_assign rfl) rfl rfl ?_)) | with_reducible refine sq_norm ?_ | with_reducible refine wc_seq ?_ | with_reducible refine wc_region ?_ | with_reducible refine wc_block ?_)
  refine wc_loop (fun p : Nat × Int => n - p.1) (fun p => [(0, .slice a n c), (1, .slice b n d), (5, .int .i64 p.2), (6, .int .i64 (p.1 : Nat))])
    (fun p h' => (Wf h' ∧ Grow h h') ∧ p.1 ≤ n ∧ sumN p.1 (fun k => x.getD k 0 * y.getD k 0) = p.2) (0, 0) (within_lk ⟨rfl, rfl, rfl, rfl, trivial⟩) ⟨⟨wf_A, gr_A⟩, Nat.zero_le _, by unfold sumN; rfl⟩ ?_
  rintro ⟨i, S⟩ h1 ⟨⟨w1, hgr⟩, hi, hS⟩
  simp only at hgr hi hS ⊢
  by_cases hlt : i < n
  · obtain ⟨ad, i1, i3⟩ := slI_at (s.grow hgr) (i := (i : Int)) (q := i) (by omega) rfl
    obtain ⟨bd, g1, g3⟩ := slI_at (u.grow hgr) (i := (i : Int)) (q := i) (by omega) rfl
    have hsb : (sumN i (fun k => x.getD k 0 * y.getD k 0)).natAbs ≤ i * (32768 * 32768) := sumN_bound fun k _ => hB k
    have hst : sumN (i + 1) (fun k => x.getD k 0 * y.getD k 0) = S + x.getD i 0 * y.getD i 0 := by rw [sumN, hS]
    have hpb := hB i
    obtain ⟨p, hp⟩ : ∃ p, x.getD i 0 = p := ⟨_, rfl⟩
    obtain ⟨q, hq⟩ : ∃ q, y.getD i 0 = q := ⟨_, rfl⟩
    rw [hp] at i3 hst hpb
    rw [hq] at g3 hst hpb
    rw [hS] at hsb
    repeat' (first | with_reducible refine wo_nil ?_ | ((with_reducible refine wo_any ?_); first | ((with_reducible refine ik_move ?_); refine wo_op rfl (op_move rfl) rfl rfl ?_) | ((with_reducible refine ik_assign ?_); refine wo_op rfl (op_assign rfl) rfl rfl ?_) | ((with_reducible refine ik_callb ?_); refine wo_op rfl (op_lenSl rfl Tryz.underlying22) rfl rfl ?_) | ((with_reducible refine ik_bin ?_); first | refine wo_op rfl (op_lss rfl rfl) rfl rfl ?_ | refine wo_op rfl (op_add' rfl rfl (w64 (by omega) (by omega))) rfl rfl ?_)) | ((with_reducible refine xk_any ?_); ((with_reducible refine xk_as0 ?_); first | ((with_reducible refine xk_move ?_); refine wx_q (wt_none rfl) rfl rfl (op_q rfl (op_move rfl)) rfl rfl rfl ?_) | ((with_reducible refine xk_assign ?_); refine wx_q (wt_none rfl) rfl rfl (op_q rfl (op_assign rfl)) rfl rfl rfl ?_) | ((with_reducible refine xk_indexAddr ?_); first | refine wx_q (wt_none rfl) rfl rfl (op_q rfl (op_indexAddr rfl rfl i1)) rfl rfl rfl ?_ | refine wx_q (wt_none rfl) rfl rfl (op_q rfl (op_indexAddr rfl rfl g1)) rfl rfl rfl ?_) | ((with_reducible refine xk_load ?_); first | refine wx_h0 (wt_none rfl) rfl (op_q rfl (op_ldCell rfl Tryz.underlying3 rfl i3)) rfl rfl rfl ?_ | refine wx_h0 (wt_none rfl) rfl (op_q rfl (op_ldCell rfl Tryz.underlying3 rfl g3)) rfl rfl rfl ?_) | ((with_reducible refine xk_bin ?_); first | refine wx_q (wt_none rfl) rfl rfl (op_q rfl (op_mul' rfl rfl (w64 (by omega) (by omega)))) rfl rfl rfl ?_ | refine wx_q (wt_none rfl) rfl rfl (op_q rfl (op_add' rfl rfl (w64 (by omega) (by omega)))) rfl rfl rfl ?_) | with_reducible refine wx_nil0 ?_ ?_)) | with_reducible exact obl_nil | with_reducible refine obl_cons ?_ ?_ | ((with_reducible refine ik_obs ?_); first | exact obs_nil | refine obs_chkn rfl rfl (op_q rfl (op_ldCell rfl Tryz.underlying3 rfl i3)) ?_ | refine obs_chkn rfl rfl (op_q rfl (op_ldCell rfl Tryz.underlying3 rfl g3)) ?_) | with_reducible refine sq_norm ?_ | with_reducible refine wc_seq ?_ | with_reducible refine wc_region ?_ | with_reducible refine wc_skip ?_ | with_reducible refine wc_block ?_ | with_reducible refine bq_norm ?_ | (refine wc_if rfl (fun hb => ?_) (fun hb => ?_) <;> (try simp only [decide_eq_true_eq, decide_eq_false_iff_not, Bool.not_eq_true', Bool.not_eq_false', Int.not_lt, Int.not_le, Decidable.not_not, not_true_eq_false, not_false_eq_true, beq_self_eq_true, reduceCtorEq] at hb) <;> (try (exfalso; omega))) | refine wc_drawB (id := 5) 12 [0, 0, 0, 6, 14, 0, 0, 96, 224, 510, 1023, 2047] [0, 1, 2, 3, 4, 5, 6, 7, 8, 9, 10, 11] (by kernel_rfl) (by kernel_rfl) rfl rfl ?_)
    exact lq_norm (i + 1, S + p * q) (by simp only; omega) (within_lk ⟨rfl, rfl, rfl, rfl, trivial⟩) ⟨⟨wf_A, gr_A⟩, by simp only; omega, hst⟩
  · have hin : i = n := by omega
    subst hin
    repeat' (first | with_reducible refine wo_nil ?_ | ((with_reducible refine wo_any ?_); first | ((with_reducible refine ik_move ?_); refine wo_op rfl (op_move rfl) rfl rfl ?_) | ((with_reducible refine ik_assign ?_); refine wo_op rfl (op_assign rfl) rfl rfl ?_) | ((with_reducible refine ik_callb ?_); refine wo_op rfl (op_lenSl rfl Tryz.underlying22) rfl rfl ?_) | ((with_reducible refine ik_bin ?_); refine wo_op rfl (op_lss rfl rfl) rfl rfl ?_)) | with_reducible refine sq_norm ?_ | with_reducible refine wc_seq ?_ | with_reducible refine wc_region ?_ | with_reducible refine wc_ret ?_ | with_reducible refine wc_exit ?_ | with_reducible refine sq_exit ?_ | with_reducible refine lq_exit ?_ | refine bq_eq rfl ?_ | (refine wc_if rfl (fun hb => ?_) (fun hb => ?_) <;> (try simp only [decide_eq_true_eq, decide_eq_false_iff_not, Bool.not_eq_true', Bool.not_eq_false', Int.not_lt, Int.not_le, Decidable.not_not, not_true_eq_false, not_false_eq_true, beq_self_eq_true, reduceCtorEq] at hb) <;> (try (exfalso; omega))))
    refine rq1 rfl ⟨?_, hgr⟩
    unfold innL; rw [hx, hS]
end Go.Proofs.YtdfpadokepmknaaGreatDoor

/- Lists less multiples, shares removed. -/
namespace Go.Proofs.YtdfpadokepmknaaGreatDoor
open Go Go.Ab Go.Fl
attribute [local irreducible] SeqQ BlkQ LpQ RetQ Wc Wo WD WX Op1 Op1q Op1a Cf Cl From
attribute [local irreducible] Ieee.Format.order Ieee.Format.read Ieee.Format.nearest Ieee.Format.write Ieee.Format.mul Ieee.Format.div Ieee.Datum.order Ieee.Datum.integral smpE smp smpW K J U sumN lchk tchk trE hdrE appL undL undA undI wr ghoL rnd mulL dghL dghA rngE notN innL lowN lowD madeE pairE
set_option maxRecDepth 10000
variable {G : Base} {h : H}
theorem c74b {v : Value} {n : Nat} {l : List Int} (s : Sl G h 1 v n (l.map (.int .i64))) (hn : n < 1000000) (hw : Wf h) (hb0 : ∀ x ∈ l, x.natAbs ≤ 1000000000000000000) : Cf (mz G) (.func (.func 74) #[] #[]) [v] h fun r h' =>
    (if anyLarge l then r = .tuple #[.slice none 0 0, .int .i64 4] else ∃ u, r = .tuple #[u, .int .i64 0] ∧ Sl G h' 1 u n ((l.map smpW).map (.float .f32))) ∧ Grow h h' := by
  obtain ⟨a, c, rfl⟩ := s.form
  have hl := s.length
  simp at hl
  refine cf_enter0 21 [.tmp 2, .tmp 3] Tryz.func74 rfl rfl rfl rfl ?_
  repeat' (first | with_reducible refine wo_nil ?_ | ((with_reducible refine wo_any ?_); first | ((with_reducible refine ik_move ?_); refine wo_op rfl (op_move rfl) rfl rfl ?_) | ((with_reducible refine ik_assign ?_); refine wo_op rfl (op_assign rfl) rfl rfl ?_) | ((with_reducible refine ik_callb ?_); refine wo_op rfl (op_lenSl rfl Tryz.underlying22) rfl rfl ?_)) | with_reducible refine sq_norm ?_ | with_reducible refine wc_seq ?_ | with_reducible refine wc_region ?_ | with_reducible refine wc_block ?_)
  refine wc_loop (fun k => n - k) (fun k : Nat => [(0, .slice a n c), (6, .slice a n c), (7, .int .i64 n), (8, .int .i64 k)]) (fun k h' => h' = h ∧ k ≤ n ∧ (anyLarge (l.take k)) = false) 0 (within_lk ⟨rfl, rfl, rfl, rfl, trivial⟩) ⟨rfl, Nat.zero_le _, by simp [anyLarge]⟩ ?_
  rintro k h' ⟨rfl, hk, hi⟩
  by_cases hlt : k < n
  · obtain ⟨ad, h1, h2⟩ := s.addr (M := mz G) Tryz.underlying22 (es := 1) zs3 (i := k) (k := .i64) (by omega) (by omega)
    have h3 : acell G h' ad = some (.int .i64 (l[k]'(by omega))) := h2.get 0 _ (by simp)
    have hm : l[k]'(by omega) ∈ l := List.getElem_mem _
    have hbb := hb0 _ hm
    obtain ⟨x, hx⟩ : ∃ x, l[k]'(by omega) = x := ⟨_, rfl⟩
    rw [hx] at h3 hm hbb
    by_cases hlg : isLargeB x = true
    · have hlg' := of_decide_eq_true hlg
      repeat' (first | with_reducible refine wo_nil ?_ | ((with_reducible refine wo_any ?_); first | ((with_reducible refine ik_move ?_); refine wo_op rfl (op_move rfl) rfl rfl ?_) | ((with_reducible refine ik_assign ?_); refine wo_op rfl (op_assign rfl) rfl rfl ?_) | ((with_reducible refine ik_indexAddr ?_); refine wo_op rfl (op_indexAddr rfl rfl h1) rfl rfl ?_) | ((with_reducible refine ik_load ?_); refine wo_op rfl (op_ldCell rfl Tryz.underlying3 rfl h3) rfl rfl ?_) | ((with_reducible refine ik_bin ?_); refine wo_op rfl (op_lss rfl rfl) rfl rfl ?_) | ((with_reducible refine ik_pick ?_); first | refine wo_op rfl (op_pickt rfl rfl) rfl rfl ?_ | refine wo_op rfl (op_pickf rfl rfl) rfl rfl ?_) | ((with_reducible refine ik_g ?_); first | refine wo_gskip rfl rfl rfl rfl rfl rfl ?_ | ((with_reducible refine ig_move ?_); refine wo_grun rfl rfl rfl (op_move rfl) rfl rfl ?_) | ((with_reducible refine ig_bin ?_); refine wo_grun rfl rfl rfl (op_gtr rfl rfl) rfl rfl ?_) | (refine wo_gsplit rfl rfl rfl (fun hb => ?_) (fun hb => ?_) <;> (try simp only [decide_eq_true_eq, decide_eq_false_iff_not, Bool.not_eq_true', Bool.not_eq_false', Int.not_lt, Int.not_le, Decidable.not_not, not_true_eq_false, not_false_eq_true, beq_self_eq_true, reduceCtorEq] at hb) <;> (try (exfalso; omega))))) | with_reducible refine sq_norm ?_ | with_reducible refine wc_seq ?_ | with_reducible refine wc_region ?_ | with_reducible refine wc_skip ?_ | with_reducible refine wc_ret ?_ | with_reducible refine wc_block ?_ | with_reducible refine bq_ret ?_ | with_reducible refine sq_ret ?_ | with_reducible refine lq_ret ?_ | refine wc_ift rfl ?_ | (refine wc_if rfl (fun hb => ?_) (fun hb => ?_) <;> (try simp only [decide_eq_true_eq, decide_eq_false_iff_not, Bool.not_eq_true', Bool.not_eq_false', Int.not_lt, Int.not_le, Decidable.not_not, not_true_eq_false, not_false_eq_true, beq_self_eq_true, reduceCtorEq] at hb) <;> (try (exfalso; omega))))
      all_goals
        refine rq2 rfl rfl ⟨?_, .refl _⟩
        rw [if_pos (by unfold anyLarge; rw [List.any_eq_true]; exact ⟨_, hm, hlg⟩)]
    · have hlg' := of_decide_eq_false (Bool.eq_false_iff.2 hlg)
      repeat' (first | with_reducible refine wo_nil ?_ | ((with_reducible refine wo_any ?_); first | ((with_reducible refine ik_move ?_); refine wo_op rfl (op_move rfl) rfl rfl ?_) | ((with_reducible refine ik_assign ?_); refine wo_op rfl (op_assign rfl) rfl rfl ?_) | ((with_reducible refine ik_indexAddr ?_); refine wo_op rfl (op_indexAddr rfl rfl h1) rfl rfl ?_) | ((with_reducible refine ik_load ?_); refine wo_op rfl (op_ldCell rfl Tryz.underlying3 rfl h3) rfl rfl ?_) | ((with_reducible refine ik_bin ?_); first | refine wo_op rfl (op_lss rfl rfl) rfl rfl ?_ | refine wo_op rfl (op_add' rfl rfl (w64 (by omega) (by omega))) rfl rfl ?_) | ((with_reducible refine ik_pick ?_); refine wo_op rfl (op_pickf rfl rfl) rfl rfl ?_) | ((with_reducible refine ik_g ?_); first | ((with_reducible refine ig_move ?_); refine wo_grun rfl rfl rfl (op_move rfl) rfl rfl ?_) | ((with_reducible refine ig_bin ?_); refine wo_grun rfl rfl rfl (op_gtr rfl rfl) rfl rfl ?_) | (refine wo_gsplit rfl rfl rfl (fun hb => ?_) (fun hb => ?_) <;> (try simp only [decide_eq_true_eq, decide_eq_false_iff_not, Bool.not_eq_true', Bool.not_eq_false', Int.not_lt, Int.not_le, Decidable.not_not, not_true_eq_false, not_false_eq_true, beq_self_eq_true, reduceCtorEq] at hb) <;> (try (exfalso; omega))))) | with_reducible refine sq_norm ?_ | with_reducible refine wc_seq ?_ | with_reducible refine wc_region ?_ | with_reducible refine wc_skip ?_ | with_reducible refine wc_block ?_ | with_reducible refine bq_norm ?_ | (refine wc_if rfl (fun hb => ?_) (fun hb => ?_) <;> (try simp only [decide_eq_true_eq, decide_eq_false_iff_not, Bool.not_eq_true', Bool.not_eq_false', Int.not_lt, Int.not_le, Decidable.not_not, not_true_eq_false, not_false_eq_true, beq_self_eq_true, reduceCtorEq] at hb) <;> (try (exfalso; omega))))
      all_goals
        refine lq_norm (k + 1) (by omega) (within_lk ⟨rfl, rfl, rfl, rfl, trivial⟩) ⟨rfl, by omega, ?_⟩
        rw [List.take_succ_eq_append_getElem (by omega), hx]
        unfold anyLarge at hi ⊢
        rw [List.any_append, hi]
        simpa using hlg
  · have hkn : k = n := by omega
    subst hkn
    rw [List.take_of_length_le (by omega)] at hi
    have hall : ∀ x ∈ l, x.natAbs ≤ 16384 := fun x hx => by
      have : isLargeB x = false := by
        unfold anyLarge at hi
        rw [List.any_eq_false] at hi
        simpa using hi x hx
      have := of_decide_eq_false this
      omega
    repeat' (first | with_reducible refine wo_nil ?_ | ((with_reducible refine wo_any ?_); first | ((with_reducible refine ik_move ?_); refine wo_op rfl (op_move rfl) rfl rfl ?_) | ((with_reducible refine ik_assign ?_); refine wo_op rfl (op_assign rfl) rfl rfl ?_) | ((with_reducible refine ik_bin ?_); refine wo_op rfl (op_lss rfl rfl) rfl rfl ?_) | ((with_reducible refine ik_callF (f := 125) ?_); (refine wo_call rfl rfl rfl rfl (c125 s hn hall hw) rfl rfl ?_; rintro _ _ ⟨sl, hq⟩; all_goals ((try (have hqn := hq.nx)); (try simp only [H.nx_push, H.nx_set, H.nx_bump] at hqn))))) | with_reducible refine sq_norm ?_ | with_reducible refine wc_seq ?_ | with_reducible refine wc_region ?_ | with_reducible refine wc_ret ?_ | with_reducible refine wc_exit ?_ | with_reducible refine sq_exit ?_ | with_reducible refine lq_exit ?_ | refine bq_eq rfl ?_ | (refine wc_if rfl (fun hb => ?_) (fun hb => ?_) <;> (try simp only [decide_eq_true_eq, decide_eq_false_iff_not, Bool.not_eq_true', Bool.not_eq_false', Int.not_lt, Int.not_le, Decidable.not_not, not_true_eq_false, not_false_eq_true, beq_self_eq_true, reduceCtorEq] at hb) <;> (try (exfalso; omega))))
    refine rq2 rfl rfl ⟨?_, hq⟩
    rw [hi]
    exact ⟨_, rfl, sl⟩

theorem c74bm {v : Value} {n : Nat} {L : List Int} (s : Sl G h 1 v n (L.map (.int .i64))) (hn : n < 1000000) (hw : Wf h) (hb : ∀ x ∈ L, x.natAbs ≤ 1000000000000000000) : Cf (mz G) (.func (.func 74) #[] #[]) [v] h fun r h' => (∃ u E, r = .tuple #[u, .int .i64 E] ∧ MadeF G h' r n (madeE 0 L) L) ∧ Grow h h' :=
  (c74b s hn hw hb).mono fun r h' ⟨q, g⟩ => by
    refine ⟨?_, g⟩
    unfold madeE
    by_cases hl : anyLarge L = true
    · rw [if_pos hl] at q
      subst q
      exact ⟨_, _, rfl, .inl ⟨by simp [hl], by simp [hl]⟩⟩
    · have hf := Bool.eq_false_iff.2 hl
      rw [if_neg hl] at q
      obtain ⟨u, rfl, su⟩ := q
      obtain ⟨a, c, rfl⟩ := su.form
      exact ⟨_, _, rfl, .inr ⟨by simp [hf], a, c, rfl, su, not_large hf⟩⟩

theorem c74L {v : Value} {n : Nat} {L : List Int} (s : Sl G h 1 v n (L.map (.int .i64))) (hn : n < 1000000) (hw : Wf h) (hb : ∀ x ∈ L, x.natAbs ≤ 1000000000000000000) (hlg : anyLarge L = true) : Cf (mz G) (.func (.func 74) #[] #[]) [v] h fun r h' => r = .tuple #[.slice none 0 0, .int .i64 4] ∧ Grow h h' :=
  (c74b s hn hw hb).mono fun r h' ⟨q, g⟩ => ⟨by rw [hlg, if_pos rfl] at q; exact q, g⟩
theorem c74K {v : Value} {n : Nat} {L : List Int} (s : Sl G h 1 v n (L.map (.int .i64))) (hn : n < 1000000) (hw : Wf h) (hb : ∀ x ∈ L, x.natAbs ≤ 1000000000000000000) (hlg : anyLarge L = false) : Cf (mz G) (.func (.func 74) #[] #[]) [v] h fun r h' => (∃ a c, r = .tuple #[.slice a n c, .int .i64 0] ∧ Sl G h' 1 (.slice a n c) n ((L.map smpW).map (.float .f32))) ∧ Grow h h' :=
  (c74b s hn hw hb).mono fun r h' ⟨q, g⟩ => ⟨by
    rw [hlg, if_neg (by decide)] at q
    obtain ⟨u, q1, q2⟩ := q
    obtain ⟨a, c, rfl⟩ := q2.form
    exact ⟨a, c, q1, q2⟩, g⟩
/-- The list less the multiple, in each integer. -/
def subF (x y : List Int) (i : Nat) : Int := rnd (x.getD i 0 * innL y y - innL x y * y.getD i 0) (innL y y)
def subL (x y : List Int) : List Int := (List.range x.length).map (subF x y)
theorem rnd_scale {a b g : Int} (hg : 0 < g) : rnd (g * a) (g * b) = rnd a b := by
  unfold rnd
  rw [show 2 * (g * a) + g * b = g * (2 * a + b) by rw [Int.mul_add, Int.mul_left_comm], show 2 * (g * b) = g * (2 * b) by rw [Int.mul_left_comm]]
  exact Int.mul_ediv_mul_of_pos _ _ hg
theorem low_of {a b : Int} (hb : 0 < b) : a = (Int.gcd a b : Nat) * lowN a b ∧ b = (Int.gcd a b : Nat) * lowD a b ∧ 0 < lowD a b := by
  have hg := gcd_pos (a := a) hb
  have e1 : ((Int.gcd a b : Nat) : Int) ∣ a := Int.gcd_dvd_left ..
  have e2 : ((Int.gcd a b : Nat) : Int) ∣ b := Int.gcd_dvd_right ..
  unfold lowN lowD
  have f1 := Int.mul_tdiv_cancel' e1
  have f2 := Int.mul_tdiv_cancel' e2
  refine ⟨f1.symm, f2.symm, ?_⟩
  generalize b.tdiv ((Int.gcd a b : Nat) : Int) = q at f2
  rcases Int.lt_trichotomy q 0 with h | h | h
  · have : ((Int.gcd a b : Nat) : Int) * q < 0 := Int.mul_neg_of_pos_of_neg (by omega) h
    omega
  · rw [h, Int.mul_zero] at f2; omega
  · exact h
theorem sub_low {x y : List Int} (he : 0 < innL y y) (i : Nat) : rnd (x.getD i 0 * lowD (innL x y) (innL y y) - lowN (innL x y) (innL y y) * y.getD i 0) (lowD (innL x y) (innL y y)) = subF x y i := by
  obtain ⟨l1, l2, l3⟩ := low_of (a := innL x y) he
  unfold subF
  have hg := gcd_pos (a := innL x y) he
  generalize innL y y = e at *
  generalize innL x y = p at *
  rw [← rnd_scale (g := ((Int.gcd p e : Nat) : Int)) (by omega), Int.mul_sub, Int.mul_left_comm, ← l2, ← Int.mul_assoc _ (lowN p e), ← l1]
theorem inn_self_bound {x y : List Int} {C : Nat} (hx : ∀ z ∈ x, z.natAbs ≤ C) (hy : ∀ z ∈ y, z.natAbs ≤ C) (hn : x.length ≤ 1024) : (innL x y).natAbs ≤ 1024 * (C * C) := by
  unfold innL
  exact Nat.le_trans (sumN_bound fun k _ => prod_bound (getD_bound hx k) (getD_bound hy k)) (Nat.mul_le_mul_right _ hn)
theorem inn_nonneg (x : List Int) : 0 ≤ innL x x := by
  unfold innL
  exact sumN_nonneg fun i _ => by
    generalize x.getD i 0 = z
    rcases Int.le_total 0 z with q | q
    · exact Int.mul_nonneg q q
    · exact Int.mul_nonneg_of_nonpos_of_nonpos q q
theorem lowN_bound (a b : Int) : (lowN a b).natAbs ≤ a.natAbs := by unfold lowN; exact tdiv_b
theorem lowD_bound (a b : Int) : (lowD a b).natAbs ≤ b.natAbs := by unfold lowD; exact tdiv_b
theorem subF_bound {x y : List Int} (hx : ∀ z ∈ x, z.natAbs ≤ 16384) (hy : ∀ z ∈ y, z.natAbs ≤ 16384) (hn : x.length ≤ 1024) (hm : y.length ≤ 1024) (he : 0 < innL y y) (i : Nat) : (subF x y i).natAbs ≤ 1000000000000000000 := by
  unfold subF
  have b1 := inn_self_bound hx hy hn
  have b2 := inn_self_bound hy hy hm
  have b3 := prod_bound (getD_bound hx i) b2
  have b4 := prod_bound b1 (getD_bound hy i)
  have := rnd_le (a := x.getD i 0 * innL y y - innL x y * y.getD i 0) he
  omega
theorem subL_bound {x y : List Int} (hx : ∀ z ∈ x, z.natAbs ≤ 16384) (hy : ∀ z ∈ y, z.natAbs ≤ 16384) (hn : x.length ≤ 1024) (hm : y.length ≤ 1024) (he : 0 < innL y y) : ∀ z ∈ subL x y, z.natAbs ≤ 1000000000000000000 := fun z hz => by
  unfold subL at hz
  obtain ⟨i, _, rfl⟩ := List.mem_map.1 hz
  exact subF_bound hx hy hn hm he i
theorem c76f {v : Value} {n : Nat} {l : List Nat} (s : Sl G h 1 v n (l.map (.float .f32))) (hn : n < 1000000) (hl0 : ∀ x ∈ l, smpE x = 0) (hw : Wf h) : Cf (mz G) (.func (.func 76) #[] #[]) [v] h fun r h' => (∃ a c, r = .slice a n c ∧ Sl G h' 1 (.slice a n c) n ((l.map smp).map (.int .i64))) ∧ Grow h h' :=
  (c76 s hn hl0 hw).mono fun r h' ⟨q, g⟩ => by
    obtain ⟨a, c, rfl⟩ := q.form
    exact ⟨⟨a, c, rfl, q⟩, g⟩
@[reducible] def ratV (a b : Int) : Value := .agg ⟨[.int .i64 a, .int .i64 b]⟩
/-- What Subtract answers. -/
def SubM (G : Base) (h : H) (r : Value) (n : Nat) (E : Int) (x y : List Int) : Prop :=
  (E ≠ 0 ∧ r = .tuple #[.slice none 0 0, ratV 0 0, .int .i64 E]) ∨ (E = 0 ∧ anyLarge (subL x y) = false ∧ ∃ a c, r = .tuple #[.slice a n c, ratV (lowN (innL x y) (innL y y)) (lowD (innL x y) (innL y y)), .int .i64 0] ∧ Sl G h 1 (.slice a n c) n (((subL x y).map smpW).map (.float .f32)))
def subE (P : Int) (x y : List Int) : Int := if P ≠ 0 then P else if innL y y = 0 then 17 else if anyLarge (subL x y) then 4 else 0
theorem pairE_zero {l k : List Nat} (hE : pairE l k = 0) : (lchk l = 0 ∧ lchk k = 0) ∧ l.length = k.length := by
  unfold pairE at hE
  split at hE
  · rename_i q; exact absurd hE q
  · rename_i q
    have hz2 := firstNZ_zero (show firstNZ [lchk l, lchk k] = 0 by simpa using q)
    split at hE
    · exact absurd hE (by decide)
    · rename_i q2
      exact ⟨⟨hz2 _ (by simp), hz2 _ (by simp)⟩, by simpa using q2⟩
set_option maxHeartbeats 4000000 in
theorem c42 {v w : Value} {n m : Nat} {l k : List Nat} (s : Sl G h 1 v n (l.map (.float .f32))) (u : Sl G h 1 w m (k.map (.float .f32))) (hn : n < 1000000) (hm : m < 1000000) (hw : Wf h) (hG : ∀ a v, laidBase a = some v → G a = some v) :
    Cf (mz G) (.func (.func 42) #[] #[]) [v, w] h fun r h' => SubM G h' r n (subE (pairE l k) (l.map smp) (k.map smp)) (l.map smp) (k.map smp) ∧ Grow h h' := by
  obtain ⟨a, c, rfl⟩ := s.form
  obtain ⟨b, d, rfl⟩ := u.form
  have hl := s.length
  have hk := u.length
  simp at hl hk
  have q78 := fun (h' : H) (g : Grow h h') (w' : Wf h') => c78 (s.grow g) (u.grow g) hn hm w' hG
  obtain ⟨E, hE⟩ : ∃ E, pairE l k = E := ⟨_, rfl⟩
  rw [hE] at q78 ⊢
  by_cases hz : E = 0
  · subst hz
    obtain ⟨⟨z1, z2⟩, z3⟩ := pairE_zero hE
    obtain ⟨k1, k2⟩ := lchk_ok z1
    obtain ⟨k3, k4⟩ := lchk_ok z2
    have hnm : m = n := by omega
    subst hnm
    have sb1 := smp_bound k2
    have sb2 := smp_bound k4
    have b1 : ∀ x ∈ l.map smp, x.natAbs ≤ 32768 := fun x hx => Nat.le_trans (sb1 x hx) (by decide)
    have b2 : ∀ x ∈ k.map smp, x.natAbs ≤ 32768 := fun x hx => Nat.le_trans (sb2 x hx) (by decide)
    have hX : (l.map smp).length = m := by simpa using hl
    have hY : (k.map smp).length = m := by simpa using hk
    have q79 := fun (h' : H) (v w : Value) (u1 : Sl G h' 1 v m ((l.map smp).map (.int .i64))) (u2 : Sl G h' 1 w m ((k.map smp).map (.int .i64))) => c79 (G := G) (h := h') u1 u2 (by omega) b1 b2
    have r79 := fun (h' : H) (v w : Value) (u1 : Sl G h' 1 v m ((k.map smp).map (.int .i64))) (u2 : Sl G h' 1 w m ((k.map smp).map (.int .i64))) => c79 (G := G) (h := h') u1 u2 (by omega) b2 b2
    obtain ⟨X, hXX⟩ : ∃ X, l.map smp = X := ⟨_, rfl⟩
    obtain ⟨Y, hYY⟩ : ∃ Y, k.map smp = Y := ⟨_, rfl⟩
    have q76 := fun (h' : H) (g : Grow h h') (w' : Wf h') => c76f (s.grow g) hn k2 w'
    have r76 := fun (h' : H) (g : Grow h h') (w' : Wf h') => c76f (u.grow g) hn k4 w'
    rw [hXX] at sb1 hX q79 q76 ⊢
    rw [hYY] at sb2 hY q79 r79 r76 ⊢
    have e0 := inn_nonneg Y
    have eb := inn_self_bound sb2 sb2 (by omega)
    have pb := inn_self_bound sb1 sb2 (by omega)
    by_cases he : innL Y Y = 0
    · have : subE 0 X Y = 17 := by unfold subE; rw [if_neg (by decide), if_pos he]
      rw [this]
      rw [he] at r79
      refine cf_enter0 80 [.tmp 4, .cell 5 65, .tmp 6] Tryz.func42 rfl rfl rfl rfl ?_
      repeat' (first | with_reducible refine wo_nil ?_ | ((with_reducible refine wo_any ?_); first | ((with_reducible refine ik_move ?_); refine wo_op rfl (op_move rfl) rfl rfl ?_) | ((with_reducible refine ik_assign ?_); refine wo_op rfl (op_assign rfl) rfl rfl ?_) | ((with_reducible refine ik_alloc ?_); refine wo_op rfl (op_alloc zz65 zs65 rfl rfl rfl) rfl rfl ?_) | ((with_reducible refine ik_bin ?_); first | refine wo_op rfl (op_neq rfl rfl) rfl rfl ?_ | refine wo_op rfl (op_eql rfl rfl) rfl rfl ?_) | ((with_reducible refine ik_build ?_); refine wo_op rfl (op_buildT rfl zz65 zp65 rfl rfl) rfl rfl ?_) | ((with_reducible refine ik_store ?_); refine wo_op0 rfl (op_stAgg rfl rfl at_A zs65 rfl rfl rfl rfl) rfl ?_) | ((with_reducible refine ik_callv ?_); first | (refine wo_call rfl rfl rfl rfl (q78 _ gr_A wf_A) rfl rfl ?_; rintro _ _ ⟨rfl, hq⟩; all_goals ((try (have hqn := hq.nx)); (try simp only [H.nx_push, H.nx_set, H.nx_bump] at hqn))) | (refine wo_call rfl rfl rfl rfl (q76 _ gr_A wf_A) rfl rfl ?_; rintro _ _ ⟨⟨ax, cx, rfl, sx⟩, hq⟩; all_goals ((try (have hqn := hq.nx)); (try simp only [H.nx_push, H.nx_set, H.nx_bump] at hqn))) | (refine wo_call rfl rfl rfl rfl (r76 _ gr_A wf_A) rfl rfl ?_; rintro _ _ ⟨⟨ay, cy, rfl, sy⟩, hq⟩; all_goals ((try (have hqn := hq.nx)); (try simp only [H.nx_push, H.nx_set, H.nx_bump] at hqn))) | (refine wo_call rfl rfl rfl rfl (r79 _ _ _ (sy.grow gr_A) (sy.grow gr_A)) rfl rfl ?_; rintro _ _ ⟨rfl, hq⟩; all_goals ((try (have hqn := hq.nx)); (try simp only [H.nx_push, H.nx_set, H.nx_bump] at hqn))))) | with_reducible refine sq_norm ?_ | with_reducible refine wc_seq ?_ | with_reducible refine wc_region ?_ | with_reducible refine wc_skip ?_ | with_reducible refine wc_ret ?_ | with_reducible refine sq_ret ?_ | refine wc_ift rfl ?_ | refine wc_iff rfl ?_)
      exact rqt rfl rfl (ldAgg at_A Tryz.underlying65 rfl zs65 rfl rfl) rfl ⟨.inl ⟨by decide, rfl⟩, gr_A⟩
    have he0 : 0 < innL Y Y := by omega
    have hsE : subE 0 X Y = if anyLarge (subL X Y) then 4 else 0 := by unfold subE; rw [if_neg (by decide), if_neg he]
    rw [hsE]
    have q94 := fun (h' : H) (w' : Wf h') => c94 (G := G) (h := h') (a := innL X Y) (b := innL Y Y) he0 (by omega) (by omega) w'
    have ln := lowN_bound (innL X Y) (innL Y Y)
    have ld := lowD_bound (innL X Y) (innL Y Y)
    have ldp := (low_of (a := innL X Y) he0).2.2
    have hsl := fun i => sub_low (x := X) (y := Y) he0 i
    have hsb := subL_bound sb1 sb2 (by omega) (by omega) he0
    obtain ⟨EE, hEE⟩ : ∃ e, innL Y Y = e := ⟨_, rfl⟩
    obtain ⟨PP, hPP⟩ : ∃ e, innL X Y = e := ⟨_, rfl⟩
    have hnsub : subL X Y = (List.range m).map (subF X Y) := by unfold subL; rw [hX]
    have fin : ∀ {h' : H} {r : Value}, SubM G h' r m (if anyLarge (subL X Y) then 4 else 0) X Y → SubM G h' r m (if anyLarge (subL X Y) then 4 else 0) X Y := fun q => q
    rw [hPP, hEE] at q94 hsl ln ld ldp
    obtain ⟨N, hN⟩ : ∃ e, lowN PP EE = e := ⟨_, rfl⟩
    obtain ⟨D, hD⟩ : ∃ e, lowD PP EE = e := ⟨_, rfl⟩
    rw [hN] at q94 hsl ln
    rw [hD] at q94 hsl ld ldp
    rw [hPP] at q79 pb
    rw [hEE] at r79 eb
    have he1 : EE ≠ 0 := by rw [← hEE]; exact he
    unfold SubM
    rw [hPP, hEE, hN, hD]
    refine cf_enter0 80 [.tmp 4, .cell 5 65, .tmp 6] Tryz.func42 rfl rfl rfl rfl ?_
    refine wc_mid (ι := Unit) (fun _ => [(0, .slice a m c), (1, .slice b m d), (5, .pointer (some ⟨h.nx, 0, some 0⟩))]) (fun _ h' => Wf h' ∧ Grow h h' ∧ At h' h.nx (.cells [.int .i64 0, .int .i64 0] 65 2 false)) ?_ ?_
    · repeat' (first | with_reducible refine wo_nil ?_ | ((with_reducible refine wo_any ?_); first | ((with_reducible refine ik_assign ?_); refine wo_op rfl (op_assign rfl) rfl rfl ?_) | ((with_reducible refine ik_alloc ?_); refine wo_op rfl (op_alloc zz65 zs65 rfl rfl rfl) rfl rfl ?_)) | with_reducible refine wc_region ?_)
      exact ⟨rfl, (), within_lk ⟨rfl, rfl, rfl, trivial⟩, wf_A, gr_A, at_A⟩
    rintro _ ha ⟨wa, ga, aa⟩
    have la := aa.lt
    refine wc_mid (ι := Unit) (fun _ => [(0, .slice a m c), (1, .slice b m d), (5, .pointer (some ⟨h.nx, 0, some 0⟩))]) (fun _ h' => Wf h' ∧ Grow h h' ∧ At h' h.nx (.cells [.int .i64 0, .int .i64 0] 65 2 false)) ?_ ?_
    · repeat' (first | with_reducible refine wo_nil ?_ | ((with_reducible refine wo_any ?_); first | ((with_reducible refine ik_move ?_); refine wo_op rfl (op_move rfl) rfl rfl ?_) | ((with_reducible refine ik_assign ?_); refine wo_op rfl (op_assign rfl) rfl rfl ?_) | ((with_reducible refine ik_bin ?_); refine wo_op rfl (op_neq rfl rfl) rfl rfl ?_) | ((with_reducible refine ik_callv ?_); (refine wo_call rfl rfl rfl rfl (q78 _ gr_A wf_A) rfl rfl ?_; rintro _ _ ⟨rfl, hq⟩; all_goals ((try (have hqn := hq.nx)); (try simp only [H.nx_push, H.nx_set, H.nx_bump] at hqn))))) | with_reducible refine sq_norm ?_ | with_reducible refine wc_seq ?_ | with_reducible refine wc_region ?_ | with_reducible refine wc_skip ?_ | refine wc_iff rfl ?_)
      exact ⟨rfl, (), within_lk ⟨rfl, rfl, rfl, trivial⟩, wf_A, gr_A, at_A⟩
    clear wa ga aa la ha q78
    rintro _ ha ⟨wa, ga, aa⟩
    have la := aa.lt
    refine wc_mid (ι := (Option Addr × Nat) × (Option Addr × Nat)) (fun i => [(5, .pointer (some ⟨h.nx, 0, some 0⟩)), (8, .slice i.1.1 m i.1.2), (9, .slice i.2.1 m i.2.2)]) (fun i h' => (Wf h' ∧ Grow h h' ∧ At h' h.nx (.cells [.int .i64 0, .int .i64 0] 65 2 false)) ∧ Sl G h' 1 (.slice i.1.1 m i.1.2) m (X.map (.int .i64)) ∧ Sl G h' 1 (.slice i.2.1 m i.2.2) m (Y.map (.int .i64))) ?_ ?_
    · repeat' (first | with_reducible refine wo_nil ?_ | ((with_reducible refine wo_any ?_); first | ((with_reducible refine ik_move ?_); refine wo_op rfl (op_move rfl) rfl rfl ?_) | ((with_reducible refine ik_assign ?_); refine wo_op rfl (op_assign rfl) rfl rfl ?_) | ((with_reducible refine ik_callv ?_); first | (refine wo_call rfl rfl rfl rfl (q76 _ gr_A wf_A) rfl rfl ?_; rintro _ _ ⟨⟨ax, cx, rfl, sx⟩, hq⟩; all_goals ((try (have hqn := hq.nx)); (try simp only [H.nx_push, H.nx_set, H.nx_bump] at hqn))) | (refine wo_call rfl rfl rfl rfl (r76 _ gr_A wf_A) rfl rfl ?_; rintro _ _ ⟨⟨ay, cy, rfl, sy⟩, hq⟩; all_goals ((try (have hqn := hq.nx)); (try simp only [H.nx_push, H.nx_set, H.nx_bump] at hqn))))) | with_reducible refine wc_region ?_)
      exact ⟨rfl, ((ax, cx), (ay, cy)), within_lk ⟨rfl, rfl, rfl, trivial⟩, ⟨wf_A, gr_A, at_A⟩, sx.grow gr_A, sy.grow gr_A⟩
    clear wa ga aa la ha q76 r76
    rintro ⟨⟨ax, cx⟩, ⟨ay, cy⟩⟩ ha ⟨⟨wa, ga, aa⟩, sx, sy⟩
    simp only at sx sy ⊢
    refine wc_mid (ι := Unit) (fun i => [(5, .pointer (some ⟨h.nx, 0, some 0⟩)), (8, .slice ax m cx), (9, .slice ay m cy), (10, .int .i64 EE)]) (fun i h' => (Wf h' ∧ Grow h h' ∧ At h' h.nx (.cells [.int .i64 0, .int .i64 0] 65 2 false)) ∧ Sl G h' 1 (.slice ax m cx) m (X.map (.int .i64)) ∧ Sl G h' 1 (.slice ay m cy) m (Y.map (.int .i64))) ?_ ?_
    · repeat' (first | with_reducible refine wo_nil ?_ | ((with_reducible refine wo_any ?_); first | ((with_reducible refine ik_move ?_); refine wo_op rfl (op_move rfl) rfl rfl ?_) | ((with_reducible refine ik_assign ?_); refine wo_op rfl (op_assign rfl) rfl rfl ?_) | ((with_reducible refine ik_callv ?_); (refine wo_call rfl rfl rfl rfl (r79 _ _ _ (sy.grow gr_A) (sy.grow gr_A)) rfl rfl ?_; rintro _ _ ⟨rfl, hq⟩; all_goals ((try (have hqn := hq.nx)); (try simp only [H.nx_push, H.nx_set, H.nx_bump] at hqn))))) | with_reducible refine wc_region ?_)
      exact ⟨rfl, (), within_lk ⟨rfl, rfl, rfl, rfl, trivial⟩, ⟨wf_A, gr_A, at_A⟩, sx.grow gr_A, sy.grow gr_A⟩
    clear wa ga aa ha sx sy r79
    rintro _ ha ⟨⟨wa, ga, aa⟩, sx, sy⟩
    refine wc_mid (ι := Unit) (fun i => [(5, .pointer (some ⟨h.nx, 0, some 0⟩)), (8, .slice ax m cx), (9, .slice ay m cy), (10, .int .i64 EE)]) (fun i h' => (Wf h' ∧ Grow h h' ∧ At h' h.nx (.cells [.int .i64 0, .int .i64 0] 65 2 false)) ∧ Sl G h' 1 (.slice ax m cx) m (X.map (.int .i64)) ∧ Sl G h' 1 (.slice ay m cy) m (Y.map (.int .i64))) ?_ ?_
    · repeat' (first | with_reducible refine wo_nil ?_ | ((with_reducible refine wo_any ?_); first | ((with_reducible refine ik_move ?_); refine wo_op rfl (op_move rfl) rfl rfl ?_) | ((with_reducible refine ik_bin ?_); refine wo_op rfl (op_eql rfl rfl) rfl rfl ?_)) | with_reducible refine sq_norm ?_ | with_reducible refine wc_seq ?_ | with_reducible refine wc_region ?_ | with_reducible refine wc_skip ?_ | (refine wc_if rfl (fun hb => dead_A hb) (fun hb => ?_); (try simp only [decide_eq_true_eq, decide_eq_false_iff_not, Bool.not_eq_true', Bool.not_eq_false', Int.not_lt, Int.not_le, Decidable.not_not, not_true_eq_false, not_false_eq_true, beq_self_eq_true, reduceCtorEq] at hb)))
      exact ⟨rfl, (), within_lk ⟨rfl, rfl, rfl, rfl, trivial⟩, ⟨wf_A, gr_A, at_A⟩, sx.grow gr_A, sy.grow gr_A⟩
    clear wa ga aa ha sx sy
    rintro _ g0 ⟨⟨wg, gg, ag⟩, sx, sy⟩
    have lg := ag.lt
    refine wc_mid (ι := Nat) (fun B => [(5, .pointer (some ⟨h.nx, 0, some 0⟩)), (8, .slice ax m cx), (9, .slice ay m cy), (11, .pointer (some ⟨B, 0, some 0⟩))]) (fun B h' => (Wf h' ∧ Grow g0 h') ∧ g0.nx ≤ B ∧ At h' B (.cells [.int .i64 N, .int .i64 D] 65 2 false)) ?_ ?_
    · repeat' (first | with_reducible refine wo_nil ?_ | ((with_reducible refine wo_any ?_); first | ((with_reducible refine ik_move ?_); refine wo_op rfl (op_move rfl) rfl rfl ?_) | ((with_reducible refine ik_alloc ?_); refine wo_op rfl (op_alloc zz65 zs65 rfl rfl rfl) rfl rfl ?_) | ((with_reducible refine ik_build ?_); refine wo_op rfl (op_buildT rfl zz65 zp65 rfl rfl) rfl rfl ?_) | ((with_reducible refine ik_store ?_); refine wo_op0 rfl (op_stAgg rfl rfl at_A zs65 rfl rfl rfl rfl) rfl ?_) | ((with_reducible refine ik_callv ?_); first | (refine wo_call rfl rfl rfl rfl (q79 _ _ _ (sx.grow gr_A) (sy.grow gr_A)) rfl rfl ?_; rintro _ _ ⟨rfl, hq⟩; all_goals ((try (have hqn := hq.nx)); (try simp only [H.nx_push, H.nx_set, H.nx_bump] at hqn))) | (refine wo_call rfl rfl rfl rfl (q94 _ wf_A) rfl rfl ?_; rintro _ _ ⟨rfl, hq⟩; all_goals ((try (have hqn := hq.nx)); (try simp only [H.nx_push, H.nx_set, H.nx_bump] at hqn))))) | with_reducible refine wc_region ?_)
      exact ⟨rfl, _, within_lk ⟨rfl, rfl, rfl, rfl, trivial⟩, ⟨wf_A, gr_A⟩, ne_A, at_A⟩
    rintro B ha ⟨⟨wa, ga⟩, hB, aB⟩
    have la := ga.nx
    have lB := aB.lt
    refine wc_mid (ι := Nat) (fun C => [(5, .pointer (some ⟨h.nx, 0, some 0⟩)), (8, .slice ax m cx), (9, .slice ay m cy), (11, .pointer (some ⟨B, 0, some 0⟩)), (12, .slice (some ⟨C, 0, some 0⟩) m m)]) (fun C h' => (Wf h' ∧ Grow g0 h') ∧ (B < C ∧ At h' B (.cells [.int .i64 N, .int .i64 D] 65 2 false)) ∧ At h' C (.cells (List.replicate m (.int .i64 0)) 3 1 false)) ?_ ?_
    · repeat' (first | with_reducible refine wo_nil ?_ | ((with_reducible refine wo_any ?_); first | ((with_reducible refine ik_move ?_); refine wo_op rfl (op_move rfl) rfl rfl ?_) | ((with_reducible refine ik_assign ?_); refine wo_op rfl (op_assign rfl) rfl rfl ?_) | ((with_reducible refine ik_makeSlice ?_); refine wo_op rfl (op_mkSl rfl rfl Tryz.underlying22 zs3 zb3 zz3 rfl (by omega) (by omega)) rfl rfl ?_) | ((with_reducible refine ik_callb ?_); refine wo_op rfl (op_lenSl rfl Tryz.underlying22) rfl rfl ?_)) | with_reducible refine wc_region ?_)
      exact ⟨rfl, _, within_lk ⟨rfl, rfl, rfl, rfl, rfl, trivial⟩, ⟨wf_A, gr_A⟩, ⟨lB, at_A⟩, at_A⟩
    clear wa ga la aB lB ha
    rintro C ha ⟨⟨wa, ga⟩, ⟨hC, aB⟩, aC⟩
    have la := ga.nx
    have lB := aB.lt
    have lC := aC.lt
    refine wc_mid (ι := Unit) (fun _ => [(5, .pointer (some ⟨h.nx, 0, some 0⟩)), (11, .pointer (some ⟨B, 0, some 0⟩)), (12, .slice (some ⟨C, 0, some 0⟩) m m)]) (fun _ h' => (Wf h' ∧ Grow g0 h') ∧ At h' B (.cells [.int .i64 N, .int .i64 D] 65 2 false) ∧ At h' C (.cells ((subL X Y).map (.int .i64)) 3 1 false)) ?_ ?_
    · repeat' (first | with_reducible refine wo_nil ?_ | ((with_reducible refine wo_any ?_); first | ((with_reducible refine ik_move ?_); refine wo_op rfl (op_move rfl) rfl rfl ?_) | ((with_reducible refine ik_callb ?_); refine wo_op rfl (op_lenSl rfl Tryz.underlying22) rfl rfl ?_)) | with_reducible refine sq_norm ?_ | with_reducible refine wc_seq ?_ | with_reducible refine wc_region ?_ | with_reducible refine wc_block ?_)
      refine wc_loop (fun i => m - i) (fun i : Nat => [(5, .pointer (some ⟨h.nx, 0, some 0⟩)), (9, .slice ay m cy), (11, .pointer (some ⟨B, 0, some 0⟩)), (12, .slice (some ⟨C, 0, some 0⟩) m m), (43, .slice ax m cx), (44, .int .i64 m), (45, .int .i64 i)])
        (fun i h' => ((Wf h' ∧ Grow g0 h') ∧ At h' B (.cells [.int .i64 N, .int .i64 D] 65 2 false) ∧ At h' C (.cells (((List.range m).map (fun k => if k < i then subF X Y k else 0)).map (.int .i64)) 3 1 false)) ∧ i ≤ m) 0 (within_lk ⟨rfl, rfl, rfl, rfl, rfl, rfl, rfl, trivial⟩) ⟨⟨⟨wf_A, gr_A⟩, at_A, ?_⟩, Nat.zero_le _⟩ ?_
      · rw [row_zero (fun i => by rw [if_neg (by omega)])]; exact aC
      clear wa ga la aB lB aC lC ha
      rintro i ha ⟨⟨⟨wa, ga⟩, aB, aC⟩, hi⟩
      have la := ga.nx
      have lB := aB.lt
      have lC := aC.lt
      by_cases hlt : i < m
      · obtain ⟨d1, i1, i3⟩ := slI_at (sx.grow ga) (i := (i : Int)) (q := i) hlt rfl
        obtain ⟨d2, j1, j3⟩ := slI_at (sy.grow ga) (i := (i : Int)) (q := i) hlt rfl
        have hF := hsl i
        have bx := getD_bound sb1 i
        have bY := getD_bound sb2 i
        have b3 := prod_bound bx (Nat.le_trans ld eb)
        have b4 := prod_bound (Nat.le_trans ln pb) bY
        have hset := row_set (n := m) (o := i) (u := subF X Y i) (f := fun k => if k < i then subF X Y k else 0) (g := fun k => if k < i + 1 then subF X Y k else 0) (by rw [if_pos (by omega)]) (fun k hk => by
          by_cases q : k < i
          · rw [if_pos q, if_pos (by omega)]
          · rw [if_neg q, if_neg (by omega)])
        obtain ⟨x, hx⟩ : ∃ x, X.getD i 0 = x := ⟨_, rfl⟩
        obtain ⟨y, hy⟩ : ∃ y, Y.getD i 0 = y := ⟨_, rfl⟩
        obtain ⟨z, hzz⟩ : ∃ z, subF X Y i = z := ⟨_, rfl⟩
        rw [hx] at i3 hF bx b3
        rw [hy] at j3 hF bY b4
        rw [hzz] at hF hset
        have q95 := fun h' : H => c95 (G := G) (h := h') (a := x * D - N * y) (b := D) ldp (by omega) (by omega)
        rw [hF] at q95
        have o1 : IntKind.wrap .i64 (x * D) = x * D := w64 (by omega) (by omega)
        have o2 : IntKind.wrap .i64 (N * y) = N * y := w64 (by omega) (by omega)
        repeat' (first | with_reducible refine wo_nil ?_ | ((with_reducible refine wo_any ?_); first | ((with_reducible refine ik_move ?_); refine wo_op rfl (op_move rfl) rfl rfl ?_) | ((with_reducible refine ik_assign ?_); refine wo_op rfl (op_assign rfl) rfl rfl ?_) | ((with_reducible refine ik_indexAddr ?_); refine wo_op rfl (op_indexAddr rfl rfl i1) rfl rfl ?_) | ((with_reducible refine ik_load ?_); refine wo_op rfl (op_ldCell rfl Tryz.underlying3 rfl i3) rfl rfl ?_) | ((with_reducible refine ik_bin ?_); first | refine wo_op rfl (op_lss rfl rfl) rfl rfl ?_ | refine wo_op rfl (op_add' rfl rfl (w64 (by omega) (by omega))) rfl rfl ?_)) | ((with_reducible refine xk_any ?_); ((with_reducible refine xk_as0 ?_); first | ((with_reducible refine xk_move ?_); refine wx_q (wt_none rfl) rfl rfl (op_q rfl (op_move rfl)) rfl rfl rfl ?_) | ((with_reducible refine xk_indexAddr ?_); first | refine wx_q (wt_none rfl) rfl rfl (op_q rfl (op_indexAddr rfl rfl j1)) rfl rfl rfl ?_ | refine wx_q (wt_none rfl) rfl rfl (op_q rfl (op_idxSl (o := i) rfl rfl Tryz.underlying22 zs3 (by omega) (by omega) (by omega))) rfl rfl rfl ?_) | ((with_reducible refine xk_load ?_); first | refine wx_h0 (wt_none rfl) rfl (op_q rfl (op_ldCell rfl Tryz.underlying3 rfl j3)) rfl rfl rfl ?_ | refine wx_h0 (wt_none rfl) rfl (op_q rfl (op_ldAt rfl at_A Tryz.underlying3 rfl rfl)) rfl rfl rfl ?_) | ((with_reducible refine xk_bin ?_); first | refine wx_q (wt_none rfl) rfl rfl (op_q rfl (op_mul' rfl rfl o1)) rfl rfl rfl ?_ | refine wx_q (wt_none rfl) rfl rfl (op_q rfl (op_mul' rfl rfl o2)) rfl rfl rfl ?_ | refine wx_q (wt_none rfl) rfl rfl (op_q rfl (op_sub' rfl rfl (w64 (by omega) (by omega)))) rfl rfl rfl ?_) | ((with_reducible refine xk_store ?_); refine wx_ee0 (wt_none rfl) rfl rfl (op_stIdx rfl rfl at_A rfl zs3 (by simp; omega) rfl hset) rfl ?_) | ((with_reducible refine xk_fieldAddr ?_); first | refine wx_q (wt_none rfl) rfl rfl (op_q rfl (op_fieldAddr (o := 1) rfl Tryz.underlying65 rfl zs3 rfl)) rfl rfl rfl ?_ | refine wx_q (wt_none rfl) rfl rfl (op_q rfl (op_fieldAddr (o := 0) rfl Tryz.underlying65 rfl zs3 rfl)) rfl rfl rfl ?_) | ((with_reducible refine xk_callv ?_); refine wx_ee (wt_none rfl) rfl rfl (op_call rfl rfl (q95 _)) rfl rfl ?_) | with_reducible refine wx_nil0 ?_ ?_)) | with_reducible exact obl_nil | with_reducible refine obl_cons ?_ ?_ | ((with_reducible refine ik_obs ?_); first | exact obs_nil | refine obs_skip rfl ?_ | refine obs_chkn rfl rfl (op_q rfl (op_ldCell rfl Tryz.underlying3 rfl j3)) ?_ | refine obs_chkn rfl rfl (op_q rfl (op_ldAt rfl at_A Tryz.underlying3 rfl (by rfl))) ?_) | with_reducible refine sq_norm ?_ | with_reducible refine wc_seq ?_ | with_reducible refine wc_region ?_ | with_reducible refine wc_skip ?_ | with_reducible refine wc_block ?_ | with_reducible refine bq_norm ?_ | (refine wc_if rfl (fun hb => ?_) (fun hb => ?_) <;> (try simp only [decide_eq_true_eq, decide_eq_false_iff_not, Bool.not_eq_true', Bool.not_eq_false', Int.not_lt, Int.not_le, Decidable.not_not, not_true_eq_false, not_false_eq_true, beq_self_eq_true, reduceCtorEq] at hb) <;> (try (exfalso; omega))) | refine wc_drawB (id := 13) 19 [0, 0, 0, 0, 8, 28, 0, 64, 0, 0, 768, 1792, 4032, 8188, 0, 16384, 65532, 131071, 262143] [0, 1, 2, 3, 4, 5, 6, 7, 8, 9, 10, 11, 12, 13, 14, 15, 16, 17, 18] (by kernel_rfl) (by kernel_rfl) rfl rfl ?_)
        exact lq_norm (i + 1) (by omega) (within_lk ⟨rfl, rfl, rfl, rfl, rfl, rfl, rfl, trivial⟩) ⟨⟨⟨wf_A, gr_A⟩, at_A, at_A⟩, by omega⟩
      · have hin : i = m := by omega
        subst hin
        have e : (List.range i).map (fun k => if k < i then subF X Y k else 0) = subL X Y := by
          rw [hnsub]
          exact List.map_congr_left fun k hk => by rw [if_pos (List.mem_range.1 hk)]
        rw [e] at aC
        repeat' (first | with_reducible refine wo_nil ?_ | ((with_reducible refine wo_any ?_); ((with_reducible refine ik_bin ?_); refine wo_op rfl (op_lss rfl rfl) rfl rfl ?_)) | with_reducible refine sq_norm ?_ | with_reducible refine wc_seq ?_ | with_reducible refine wc_region ?_ | with_reducible refine wc_exit ?_ | with_reducible refine sq_exit ?_ | with_reducible refine lq_exit ?_ | refine bq_eq rfl ?_ | (refine wc_if rfl (fun hb => ?_) (fun hb => ?_) <;> (try simp only [decide_eq_true_eq, decide_eq_false_iff_not, Bool.not_eq_true', Bool.not_eq_false', Int.not_lt, Int.not_le, Decidable.not_not, not_true_eq_false, not_false_eq_true, beq_self_eq_true, reduceCtorEq] at hb) <;> (try (exfalso; omega))))
        exact ⟨rfl, (), within_lk ⟨rfl, rfl, rfl, trivial⟩, ⟨wf_A, gr_A⟩, at_A, at_A⟩
    clear wa ga la aB lB aC lC ha
    rintro _ ha ⟨⟨wa, ga⟩, aB, aC⟩
    have la := ga.nx
    have lB := aB.lt
    have lC := aC.lt
    have a5 := ag.grow ga
    have l5 := a5.lt
    have hnL : (subL X Y).length = m := by rw [hnsub]; simp
    cases hlg : anyLarge (subL X Y) with
    | true =>
      have q74 := c74L (G := G) (n := m) (Sl.ofAt aC (by simp [hnL]) (Nat.le_refl m)) (by omega) wa hsb hlg
      repeat' (first | with_reducible refine wo_nil ?_ | ((with_reducible refine wo_any ?_); first | ((with_reducible refine ik_move ?_); refine wo_op rfl (op_move rfl) rfl rfl ?_) | ((with_reducible refine ik_assign ?_); refine wo_op rfl (op_assign rfl) rfl rfl ?_) | ((with_reducible refine ik_bin ?_); refine wo_op rfl (op_neq rfl rfl) rfl rfl ?_) | ((with_reducible refine ik_build ?_); refine wo_op rfl (op_buildT rfl zz65 zp65 rfl rfl) rfl rfl ?_) | ((with_reducible refine ik_store ?_); refine wo_op0 rfl (op_stAgg rfl rfl at_A zs65 rfl rfl rfl rfl) rfl ?_) | ((with_reducible refine ik_extract ?_); refine wo_op rfl (op_extract rfl rfl) rfl rfl ?_) | ((with_reducible refine ik_callv ?_); (refine wo_call rfl rfl rfl rfl (q74) rfl rfl ?_; rintro _ _ ⟨rfl, hq⟩; all_goals ((try (have hqn := hq.nx)); (try simp only [H.nx_push, H.nx_set, H.nx_bump] at hqn))))) | with_reducible refine sq_norm ?_ | with_reducible refine wc_seq ?_ | with_reducible refine wc_region ?_ | with_reducible refine wc_ret ?_ | with_reducible refine sq_ret ?_ | refine wc_ift rfl ?_)
      exact rqt rfl rfl (ldAgg at_A Tryz.underlying65 rfl zs65 rfl rfl) rfl ⟨.inl ⟨by decide, rfl⟩, gr_A⟩
    | false =>
      have q74 := c74K (G := G) (n := m) (Sl.ofAt aC (by simp [hnL]) (Nat.le_refl m)) (by omega) wa hsb hlg
      repeat' (first | with_reducible refine wo_nil ?_ | ((with_reducible refine wo_any ?_); first | ((with_reducible refine ik_move ?_); refine wo_op rfl (op_move rfl) rfl rfl ?_) | ((with_reducible refine ik_assign ?_); refine wo_op rfl (op_assign rfl) rfl rfl ?_) | ((with_reducible refine ik_bin ?_); refine wo_op rfl (op_neq rfl rfl) rfl rfl ?_) | ((with_reducible refine ik_extract ?_); refine wo_op rfl (op_extract rfl rfl) rfl rfl ?_) | ((with_reducible refine ik_callv ?_); (refine wo_call rfl rfl rfl rfl (q74) rfl rfl ?_; rintro _ _ ⟨⟨ar, cr, rfl, sr⟩, hq⟩; all_goals ((try (have hqn := hq.nx)); (try simp only [H.nx_push, H.nx_set, H.nx_bump] at hqn))))) | ((with_reducible refine xk_any ?_); ((with_reducible refine xk_as0 ?_); first | ((with_reducible refine xk_move ?_); refine wx_q (wt_none rfl) rfl rfl (op_q rfl (op_move rfl)) rfl rfl rfl ?_) | ((with_reducible refine xk_assign ?_); refine wx_q (wt_none rfl) rfl rfl (op_q rfl (op_assign rfl)) rfl rfl rfl ?_) | ((with_reducible refine xk_store ?_); refine wx_ee0 (wt_none rfl) rfl rfl (op_stAgg rfl rfl at_A zs65 rfl rfl rfl rfl) rfl ?_) | ((with_reducible refine xk_load ?_); refine wx_h0 (wt_none rfl) rfl (op_q rfl (op_ldAgg rfl at_A Tryz.underlying65 rfl zs65 rfl rfl)) rfl rfl rfl ?_) | with_reducible refine wx_nil0 ?_ ?_)) | with_reducible exact obl_nil | with_reducible refine obl_cons ?_ ?_ | ((with_reducible refine ik_obs ?_); first | exact obs_nil | refine obs_skip rfl ?_ | refine obs_chkn rfl rfl (op_q rfl (op_ldAgg rfl at_A Tryz.underlying65 rfl zs65 (by rfl) rfl)) ?_) | with_reducible refine sq_norm ?_ | with_reducible refine wc_seq ?_ | with_reducible refine wc_region ?_ | with_reducible refine wc_skip ?_ | with_reducible refine wc_ret ?_ | refine wc_iff rfl ?_ | refine wc_drawB (id := 18) 5 [0, 0, 1, 7, 15] [0, 1, 2, 3, 4] (by kernel_rfl) (by kernel_rfl) rfl rfl ?_)
      exact rqt rfl rfl (ldAgg at_A Tryz.underlying65 rfl zs65 rfl rfl) rfl ⟨.inr ⟨rfl, rfl, ar, cr, rfl, Sl.set_ne (sr.grow gr_A) (show At _ h.nx (.cells [.int .i64 0, .int .i64 0] 65 2 false) from at_A) (by decide) _⟩, gr_A⟩
  · unfold SubM
    have : subE E (l.map smp) (k.map smp) = E := by unfold subE; rw [if_pos hz]
    rw [this]
    refine cf_enter0 80 [.tmp 4, .cell 5 65, .tmp 6] Tryz.func42 rfl rfl rfl rfl ?_
    repeat' (first | with_reducible refine wo_nil ?_ | ((with_reducible refine wo_any ?_); first | ((with_reducible refine ik_move ?_); refine wo_op rfl (op_move rfl) rfl rfl ?_) | ((with_reducible refine ik_assign ?_); refine wo_op rfl (op_assign rfl) rfl rfl ?_) | ((with_reducible refine ik_alloc ?_); refine wo_op rfl (op_alloc zz65 zs65 rfl rfl rfl) rfl rfl ?_) | ((with_reducible refine ik_bin ?_); refine wo_op rfl (op_neq rfl rfl) rfl rfl ?_) | ((with_reducible refine ik_build ?_); refine wo_op rfl (op_buildT rfl zz65 zp65 rfl rfl) rfl rfl ?_) | ((with_reducible refine ik_store ?_); refine wo_op0 rfl (op_stAgg rfl rfl at_A zs65 rfl rfl rfl rfl) rfl ?_) | ((with_reducible refine ik_callv ?_); (refine wo_call rfl rfl rfl rfl (q78 _ gr_A wf_A) rfl rfl ?_; rintro _ _ ⟨rfl, hq⟩; all_goals ((try (have hqn := hq.nx)); (try simp only [H.nx_push, H.nx_set, H.nx_bump] at hqn))))) | with_reducible refine sq_norm ?_ | with_reducible refine wc_seq ?_ | with_reducible refine wc_region ?_ | with_reducible refine wc_ret ?_ | with_reducible refine sq_ret ?_ | (refine wc_if rfl (fun hb => ?_) (fun hb => dead_A hb); (try simp only [decide_eq_true_eq, decide_eq_false_iff_not, Bool.not_eq_true', Bool.not_eq_false', Int.not_lt, Int.not_le, Decidable.not_not, not_true_eq_false, not_false_eq_true, beq_self_eq_true, reduceCtorEq] at hb)))
    exact rqt rfl rfl (ldAgg at_A Tryz.underlying65 rfl zs65 rfl rfl) rfl ⟨.inl ⟨hz, rfl⟩, gr_A⟩
end Go.Proofs.YtdfpadokepmknaaGreatDoor
