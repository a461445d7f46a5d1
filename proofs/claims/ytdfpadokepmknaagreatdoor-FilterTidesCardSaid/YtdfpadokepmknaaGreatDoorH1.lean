/- Ratios in their lowest terms; lists less multiples. -/
import Derived.Test.YtdfpadokepmknaaGreatDoorG2
set_option linter.all false
/- Divisors, ratios in lowest terms; inner products by the reference; lists of any integers made. -/
namespace Go.Ab
open Go
end Go.Ab
namespace Go.Proofs.YtdfpadokepmknaaGreatDoor
open Go Go.Ab Go.Fl
attribute [local irreducible] SeqQ BlkQ LpQ RetQ Wc Wo WD WX Op1 Op1q Op1a Cf Cl From
attribute [local irreducible] Ieee.Format.order Ieee.Format.read Ieee.Format.nearest Ieee.Format.write Ieee.Format.mul Ieee.Format.div Ieee.Datum.order Ieee.Datum.integral smpE smp smpW K J U sumN lchk tchk trE hdrE appL undL undA undI wr ghoL rnd mulL dghL dghA rngE notN
set_option maxRecDepth 10000
variable {G : Base} {h : H}

def gcdA (l : List Int) : Nat → Nat
  | 0 => 0
  | k + 1 => Nat.gcd (gcdA l k) (l.getD k 0).natAbs
theorem tmod_nat (a b : Nat) : ((a : Int).tmod (b : Int)) = ((a % b : Nat) : Int) := rfl
set_option maxHeartbeats 2000000 in
theorem c129 {v : Value} {n : Nat} {l : List Int} (u : Sl G h 1 v n (l.map (.int .i64))) (hn : n < 1000000) (hl0 : ∀ x ∈ l, x.natAbs ≤ 100000000000000000) (hw : Wf h) :
    Cf (mz G) (.func (.func 129) #[] #[]) [v] h fun r h' => r = .int .i64 (gcdA l n : Nat) ∧ Grow h h' := by
  obtain ⟨b, c, rfl⟩ := u.form
  have hl := u.length
  simp at hl
  have hgb : ∀ k, gcdA l k ≤ 100000000000000000 := fun k => by
    induction k with
    | zero => exact Nat.zero_le _
    | succ k ih =>
      show Nat.gcd (gcdA l k) (l.getD k 0).natAbs ≤ _
      have hb2 := getD_bound hl0 k
      by_cases q : (l.getD k 0).natAbs = 0
      · rw [q, Nat.gcd_zero_right]; exact ih
      · exact Nat.le_trans (Nat.gcd_le_right _ (by omega)) hb2
  refine cf_enter0 25 [.tmp 2] Tryz.func129 rfl rfl rfl rfl ?_
  repeat' (first | with_reducible refine wo_nil ?_ | ((with_reducible refine wo_any ?_); first | ((with_reducible refine ik_move ?_); refine wo_op rfl (op_move rfl) rfl rfl ?_) | ((with_reducible refine ik_assign ?_); refine wo_op rfl (op_assign rfl) rfl rfl ?_) | ((with_reducible refine ik_callb ?_); refine wo_op rfl (op_lenSl rfl Tryz.underlying22) rfl rfl ?_)) | with_reducible refine sq_norm ?_ | with_reducible refine wc_seq ?_ | with_reducible refine wc_region ?_ | with_reducible refine wc_block ?_)
  refine wc_loop (fun i => n - i) (fun i : Nat => [(3, .int .i64 (gcdA l i : Nat)), (7, .slice b n c), (8, .int .i64 n), (9, .int .i64 i)]) (fun i h' => (Wf h' ∧ Grow h h') ∧ i ≤ n) 0 (within_lk ⟨rfl, rfl, rfl, rfl, trivial⟩) ⟨⟨wf_A, gr_A⟩, Nat.zero_le _⟩ ?_
  rintro i h1 ⟨⟨w1, g1⟩, hi⟩
  by_cases hlt : i < n
  · obtain ⟨ad, i1, i3⟩ := slI_at (u.grow g1) (i := (i : Int)) (q := i) hlt rfl
    have hb2 := getD_bound hl0 i
    have hst : gcdA l (i + 1) = Nat.gcd (gcdA l i) (l.getD i 0).natAbs := rfl
    have hg1 := hgb i
    obtain ⟨x, hx⟩ : ∃ x, l.getD i 0 = x := ⟨_, rfl⟩
    obtain ⟨d0, hd0⟩ : ∃ d, gcdA l i = d := ⟨_, rfl⟩
    rw [hx] at i3 hb2 hst
    rw [hd0] at hst hg1
    obtain ⟨y, hy⟩ : ∃ y : Nat, max x (0 - x) = (y : Int) ∧ y = x.natAbs := ⟨x.natAbs, by omega, rfl⟩
    rw [hd0]
    repeat' (first | with_reducible refine wo_nil ?_ | ((with_reducible refine wo_any ?_); first | ((with_reducible refine ik_move ?_); refine wo_op rfl (op_move rfl) rfl rfl ?_) | ((with_reducible refine ik_assign ?_); refine wo_op rfl (op_assign rfl) rfl rfl ?_) | ((with_reducible refine ik_indexAddr ?_); refine wo_op rfl (op_indexAddr rfl rfl i1) rfl rfl ?_) | ((with_reducible refine ik_load ?_); refine wo_op rfl (op_ldCell rfl Tryz.underlying3 rfl i3) rfl rfl ?_) | ((with_reducible refine ik_callb ?_); refine wo_op rfl (op_max rfl rfl) rfl rfl ?_) | ((with_reducible refine ik_bin ?_); refine wo_op rfl (op_lss rfl rfl) rfl rfl ?_) | ((with_reducible refine ik_un ?_); refine wo_op rfl (op_neg' rfl (w64 (by omega) (by omega))) rfl rfl ?_)) | with_reducible refine sq_norm ?_ | with_reducible refine wc_seq ?_ | with_reducible refine wc_region ?_ | with_reducible refine wc_skip ?_ | with_reducible refine wc_block ?_ | (refine wc_if rfl (fun hb => ?_) (fun hb => ?_) <;> (try simp only [decide_eq_true_eq, decide_eq_false_iff_not, Bool.not_eq_true', Bool.not_eq_false', Int.not_lt, Int.not_le, Decidable.not_not, not_true_eq_false, not_false_eq_true, beq_self_eq_true, reduceCtorEq] at hb) <;> (try (exfalso; omega))))
    rw [hy.1]
    refine wc_loop (fun p : Nat × Nat => p.2) (fun p => [(3, .int .i64 (p.1 : Nat)), (6, .int .i64 (p.2 : Nat)), (7, .slice b n c), (8, .int .i64 n), (9, .int .i64 i)]) (fun p h' => (Wf h' ∧ Grow h h') ∧ Nat.gcd p.1 p.2 = gcdA l (i + 1) ∧ p.1 ≤ 100000000000000000 ∧ p.2 ≤ 100000000000000000) (d0, y) (within_lk ⟨rfl, rfl, rfl, rfl, rfl, trivial⟩) ⟨⟨wf_A, gr_A⟩, by simp only; rw [hst, hy.2], hg1, by simp only; omega⟩ ?_
    clear w1 g1
    rintro ⟨p, q⟩ h2 ⟨⟨w2, g2⟩, hg, hp, hq⟩
    simp only at hg hp hq ⊢
    by_cases hq0 : q = 0
    · subst hq0
      rw [Nat.gcd_zero_right] at hg
      subst hg
      repeat' (first | with_reducible refine wo_nil ?_ | ((with_reducible refine wo_any ?_); first | ((with_reducible refine ik_move ?_); refine wo_op rfl (op_move rfl) rfl rfl ?_) | ((with_reducible refine ik_bin ?_); first | refine wo_op rfl (op_neq rfl rfl) rfl rfl ?_ | refine wo_op rfl (op_add' rfl rfl (w64 (by omega) (by omega))) rfl rfl ?_)) | with_reducible refine sq_norm ?_ | with_reducible refine wc_seq ?_ | with_reducible refine wc_region ?_ | with_reducible refine wc_exit ?_ | with_reducible refine bq_norm ?_ | with_reducible refine sq_exit ?_ | with_reducible refine lq_exit ?_ | refine bq_eq rfl ?_ | refine wc_iff rfl ?_)
      exact lq_norm (i + 1) (by omega) (within_lk ⟨rfl, rfl, rfl, rfl, trivial⟩) ⟨⟨wf_A, gr_A⟩, by omega⟩
    · have hr : ((p : Int).tmod (q : Int)) = ((p % q : Nat) : Int) := tmod_nat p q
      have hmod : p % q < q := Nat.mod_lt _ (by omega)
      repeat' (first | with_reducible refine wo_nil ?_ | ((with_reducible refine wo_any ?_); first | ((with_reducible refine ik_move ?_); refine wo_op rfl (op_move rfl) rfl rfl ?_) | ((with_reducible refine ik_bin ?_); refine wo_op rfl (op_neq rfl rfl) rfl rfl ?_)) | ((with_reducible refine xk_any ?_); ((with_reducible refine xk_as0 ?_); first | ((with_reducible refine xk_move ?_); refine wx_q (wt_none rfl) rfl rfl (op_q rfl (op_move rfl)) rfl rfl rfl ?_) | ((with_reducible refine xk_assign ?_); refine wx_q (wt_none rfl) rfl rfl (op_q rfl (op_assign rfl)) rfl rfl rfl ?_) | ((with_reducible refine xk_bin ?_); refine wx_q (wt_none rfl) rfl rfl (op_q rfl (op_remV rfl rfl (by omega) hr)) rfl rfl rfl ?_) | with_reducible refine wx_nil0 ?_ ?_)) | with_reducible exact obl_nil | with_reducible refine sq_norm ?_ | with_reducible refine wc_seq ?_ | with_reducible refine wc_region ?_ | with_reducible refine wc_skip ?_ | with_reducible refine wc_block ?_ | with_reducible refine bq_norm ?_ | (refine wc_if rfl (fun hb => ?_) (fun hb => dead_A hb); (try simp only [decide_eq_true_eq, decide_eq_false_iff_not, Bool.not_eq_true', Bool.not_eq_false', Int.not_lt, Int.not_le, Decidable.not_not, not_true_eq_false, not_false_eq_true, beq_self_eq_true, reduceCtorEq] at hb)) | refine wc_drawB (id := 7) 6 [0, 0, 0, 6, 3, 31] [0, 1, 2, 3, 4, 5] (by kernel_rfl) (by kernel_rfl) rfl rfl ?_)
      exact lq_norm (q, p % q) hmod (within_lk ⟨rfl, rfl, rfl, rfl, rfl, trivial⟩) ⟨⟨wf_A, gr_A⟩, by simp only; rw [← hg, Nat.gcd_comm p q, Nat.gcd_rec q p, Nat.gcd_comm], by simp only; omega, by simp only; omega⟩
  · have hin : i = n := by omega
    subst hin
    repeat' (first | with_reducible refine wo_nil ?_ | ((with_reducible refine wo_any ?_); first | ((with_reducible refine ik_move ?_); refine wo_op rfl (op_move rfl) rfl rfl ?_) | ((with_reducible refine ik_assign ?_); refine wo_op rfl (op_assign rfl) rfl rfl ?_) | ((with_reducible refine ik_bin ?_); refine wo_op rfl (op_lss rfl rfl) rfl rfl ?_)) | with_reducible refine sq_norm ?_ | with_reducible refine wc_seq ?_ | with_reducible refine wc_region ?_ | with_reducible refine wc_ret ?_ | with_reducible refine wc_exit ?_ | with_reducible refine sq_exit ?_ | with_reducible refine lq_exit ?_ | refine bq_eq rfl ?_ | (refine wc_if rfl (fun hb => ?_) (fun hb => ?_) <;> (try simp only [decide_eq_true_eq, decide_eq_false_iff_not, Bool.not_eq_true', Bool.not_eq_false', Int.not_lt, Int.not_le, Decidable.not_not, not_true_eq_false, not_false_eq_true, beq_self_eq_true, reduceCtorEq] at hb) <;> (try (exfalso; omega))))
    exact rq1 rfl ⟨rfl, g1⟩
/-- A ratio in lowest terms. -/
def lowN (a b : Int) : Int := a.tdiv (Int.gcd a b : Nat)
def lowD (a b : Int) : Int := b.tdiv (Int.gcd a b : Nat)
theorem gcdA_two (a b : Int) : gcdA [a, b] 2 = Int.gcd a b := by
  show Nat.gcd (Nat.gcd 0 a.natAbs) b.natAbs = _
  rw [Nat.gcd_zero_left]; rfl
theorem gcd_pos {a b : Int} (hb : 0 < b) : 0 < Int.gcd a b := Int.gcd_pos_of_ne_zero_right _ (by omega)
theorem tdiv_b {a : Int} {g : Nat} : (a.tdiv (g : Int)).natAbs ≤ a.natAbs := Int.natAbs_tdiv_le_natAbs _ _
set_option maxHeartbeats 2000000 in
theorem c94 {a b : Int} (hb0 : 0 < b) (ha : a.natAbs ≤ 100000000000000000) (hb2 : b.natAbs ≤ 100000000000000000) (hw : Wf h) : Cf (mz G) (.func (.func 94) #[] #[]) [.agg ⟨[.int .i64 a, .int .i64 b]⟩] h fun r h' => r = .agg ⟨[.int .i64 (lowN a b), .int .i64 (lowD a b)]⟩ ∧ Grow h h' := by
  have q129 := fun (h' : H) (v : Value) (u : Sl G h' 1 v 2 ([a, b].map (.int .i64))) (w' : Wf h') => c129 (G := G) (h := h') u (by decide) (by intro x hx; simp at hx; rcases hx with rfl | rfl <;> assumption) w'
  rw [gcdA_two] at q129
  have hg := gcd_pos (a := a) hb0
  have n1 := tdiv_b (a := a) (g := Int.gcd a b)
  have n2 := tdiv_b (a := b) (g := Int.gcd a b)
  unfold lowN lowD
  obtain ⟨g, hgg⟩ : ∃ g, Int.gcd a b = g := ⟨_, rfl⟩
  rw [hgg] at q129 hg n1 n2 ⊢
  have h1 : IntKind.wrap .i64 (a.tdiv (g : Int)) = a.tdiv (g : Int) := w64 (by omega) (by omega)
  have h2 : IntKind.wrap .i64 (b.tdiv (g : Int)) = b.tdiv (g : Int) := w64 (by omega) (by omega)
  have g0 : ((g : Nat) : Int) ≠ 0 := by omega
  refine cf_enter0 19 [.cell 2 65] Tryz.func94 rfl rfl rfl rfl ?_
  repeat' (first | with_reducible refine wo_nil ?_ | ((with_reducible refine wo_any ?_); first | ((with_reducible refine ik_assign ?_); refine wo_op rfl (op_assign rfl) rfl rfl ?_) | ((with_reducible refine ik_box ?_); refine wo_op rfl (op_boxAgg rfl zs65 rfl) rfl rfl ?_) | ((with_reducible refine ik_alloc ?_); refine wo_op rfl (op_alloc zz65 zs65 rfl rfl rfl) rfl rfl ?_) | ((with_reducible refine ik_fieldAddr ?_); first | refine wo_op rfl (op_fieldAddr (o := 0) rfl Tryz.underlying65 rfl zs3 rfl) rfl rfl ?_ | refine wo_op rfl (op_fieldAddr (o := 1) rfl Tryz.underlying65 rfl zs3 rfl) rfl rfl ?_) | ((with_reducible refine ik_load ?_); refine wo_op rfl (op_ldAt rfl at_A Tryz.underlying3 rfl rfl) rfl rfl ?_) | ((with_reducible refine ik_buildSlice ?_); refine wo_op rfl (op_buildSl rfl Tryz.underlying22 zs3 zz3 rfl rfl) rfl rfl ?_) | ((with_reducible refine ik_callv ?_); (refine wo_call rfl rfl rfl rfl (q129 _ _ (Sl.ofAt (at_A) rfl (Nat.le_refl _)) wf_A) rfl rfl ?_; rintro _ _ ⟨rfl, hq⟩; all_goals ((try (have hqn := hq.nx)); (try simp only [H.nx_push, H.nx_set, H.nx_bump] at hqn))))) | ((with_reducible refine xk_any ?_); ((with_reducible refine xk_as0 ?_); first | ((with_reducible refine xk_move ?_); refine wx_q (wt_none rfl) rfl rfl (op_q rfl (op_move rfl)) rfl rfl rfl ?_) | ((with_reducible refine xk_bin ?_); first | refine wx_q (wt_none rfl) rfl rfl (op_q rfl (op_quoV rfl rfl g0 h1)) rfl rfl rfl ?_ | refine wx_q (wt_none rfl) rfl rfl (op_q rfl (op_quoV rfl rfl g0 h2)) rfl rfl rfl ?_) | ((with_reducible refine xk_fieldAddr ?_); first | refine wx_q (wt_none rfl) rfl rfl (op_q rfl (op_fieldAddr (o := 0) rfl Tryz.underlying65 rfl zs3 rfl)) rfl rfl rfl ?_ | refine wx_q (wt_none rfl) rfl rfl (op_q rfl (op_fieldAddr (o := 1) rfl Tryz.underlying65 rfl zs3 rfl)) rfl rfl rfl ?_) | ((with_reducible refine xk_load ?_); refine wx_h0 (wt_none rfl) rfl (op_q rfl (op_ldAt rfl at_A Tryz.underlying3 rfl rfl)) rfl rfl rfl ?_) | ((with_reducible refine xk_build ?_); refine wx_q (wt_none rfl) rfl rfl (op_q rfl (op_buildT rfl zz65 zp65 rfl rfl)) rfl rfl rfl ?_) | ((with_reducible refine xk_store ?_); refine wx_ee0 (wt_none rfl) rfl rfl (op_stAgg rfl rfl at_A zs65 rfl rfl rfl rfl) rfl ?_) | with_reducible refine wx_nil0 ?_ ?_)) | with_reducible exact obl_nil | with_reducible refine obl_cons ?_ ?_ | ((with_reducible refine ik_obs ?_); first | exact obs_nil | refine obs_skip rfl ?_ | refine obs_chkn rfl rfl (op_q rfl (op_ldAt rfl at_A Tryz.underlying3 rfl (by rfl))) ?_) | with_reducible refine sq_norm ?_ | with_reducible refine wc_seq ?_ | with_reducible refine wc_region ?_ | with_reducible refine wc_ret ?_ | refine wc_drawB (id := 2) 10 [0, 1, 0, 7, 0, 16, 0, 112, 255, 511] [0, 1, 2, 3, 4, 5, 6, 7, 8, 9] (by kernel_rfl) (by kernel_rfl) rfl rfl ?_)
  exact rqc1 rfl (ldAgg at_A Tryz.underlying65 rfl zs65 rfl rfl) ⟨rfl, gr_A⟩
set_option maxHeartbeats 2000000 in
theorem c96 {a b : Int} (hb0 : 0 < b) (ha : a.natAbs ≤ 100000000000000000) (hb2 : b.natAbs ≤ 100000000000000000) (hw : Wf h) : Cf (mz G) (.func (.func 96) #[] #[]) [.int .i64 a, .int .i64 b] h fun r h' => r = .agg ⟨[.int .i64 (lowN a b), .int .i64 (lowD a b)]⟩ ∧ Grow h h' := by
  have q131 := fun (h' : H) => c131 (G := G) (h := h') a b (by omega) (by omega) (by omega) (by omega)
  have hg := gcd_pos (a := a) hb0
  have n1 := tdiv_b (a := a) (g := Int.gcd a b)
  have n2 := tdiv_b (a := b) (g := Int.gcd a b)
  unfold lowN lowD
  obtain ⟨g, hgg⟩ : ∃ g, Int.gcd a b = g := ⟨_, rfl⟩
  rw [hgg] at q131 hg n1 n2 ⊢
  have h1 : IntKind.wrap .i64 (a.tdiv (g : Int)) = a.tdiv (g : Int) := w64 (by omega) (by omega)
  have h2 : IntKind.wrap .i64 (b.tdiv (g : Int)) = b.tdiv (g : Int) := w64 (by omega) (by omega)
  have g0 : ((g : Nat) : Int) ≠ 0 := by omega
  refine cf_enter0 22 [.cell 4 65] Tryz.func96 rfl rfl rfl rfl ?_
  repeat' (first | with_reducible refine wo_nil ?_ | ((with_reducible refine wo_any ?_); first | ((with_reducible refine ik_move ?_); refine wo_op rfl (op_move rfl) rfl rfl ?_) | ((with_reducible refine ik_assign ?_); refine wo_op rfl (op_assign rfl) rfl rfl ?_) | ((with_reducible refine ik_bin ?_); refine wo_op rfl (op_lss rfl rfl) rfl rfl ?_) | ((with_reducible refine ik_alloc ?_); refine wo_op rfl (op_alloc zz65 zs65 rfl rfl rfl) rfl rfl ?_) | ((with_reducible refine ik_callv ?_); (refine wo_call rfl rfl rfl rfl (q131 _) rfl rfl ?_; rintro _ _ ⟨rfl, hq⟩; all_goals ((try (have hqn := hq.nx)); (try simp only [H.nx_push, H.nx_set, H.nx_bump] at hqn))))) | ((with_reducible refine xk_any ?_); ((with_reducible refine xk_as0 ?_); first | ((with_reducible refine xk_move ?_); refine wx_q (wt_none rfl) rfl rfl (op_q rfl (op_move rfl)) rfl rfl rfl ?_) | ((with_reducible refine xk_bin ?_); first | refine wx_q (wt_none rfl) rfl rfl (op_q rfl (op_quoV rfl rfl g0 h1)) rfl rfl rfl ?_ | refine wx_q (wt_none rfl) rfl rfl (op_q rfl (op_quoV rfl rfl g0 h2)) rfl rfl rfl ?_) | ((with_reducible refine xk_build ?_); refine wx_q (wt_none rfl) rfl rfl (op_q rfl (op_buildT rfl zz65 zp65 rfl rfl)) rfl rfl rfl ?_) | ((with_reducible refine xk_store ?_); refine wx_ee0 (wt_none rfl) rfl rfl (op_stAgg rfl rfl at_A zs65 rfl rfl rfl rfl) rfl ?_) | with_reducible refine wx_nil0 ?_ ?_)) | with_reducible exact obl_nil | with_reducible refine sq_norm ?_ | with_reducible refine wc_seq ?_ | with_reducible refine wc_region ?_ | with_reducible refine wc_skip ?_ | with_reducible refine wc_ret ?_ | (refine wc_if rfl (fun hb => dead_A hb) (fun hb => ?_); (try simp only [decide_eq_true_eq, decide_eq_false_iff_not, Bool.not_eq_true', Bool.not_eq_false', Int.not_lt, Int.not_le, Decidable.not_not, not_true_eq_false, not_false_eq_true, beq_self_eq_true, reduceCtorEq] at hb)) | refine wc_drawB (id := 4) 8 [0, 0, 3, 0, 0, 24, 63, 127] [0, 1, 2, 3, 4, 5, 6, 7] (by kernel_rfl) (by kernel_rfl) rfl rfl ?_)
  exact rqc1 rfl (ldAgg at_A Tryz.underlying65 rfl zs65 rfl rfl) ⟨rfl, gr_A⟩
end Go.Proofs.YtdfpadokepmknaaGreatDoor

/- Lists less multiples, shares removed. -/
namespace Go.Proofs.YtdfpadokepmknaaGreatDoor
open Go Go.Ab Go.Fl
attribute [local irreducible] SeqQ BlkQ LpQ RetQ Wc Wo WD WX Op1 Op1q Op1a Cf Cl From
attribute [local irreducible] Ieee.Format.order Ieee.Format.read Ieee.Format.nearest Ieee.Format.write Ieee.Format.mul Ieee.Format.div Ieee.Datum.order Ieee.Datum.integral smpE smp smpW K J U sumN lchk tchk trE hdrE appL undL undA undI wr ghoL rnd mulL dghL dghA rngE notN innL lowN lowD madeE pairE
set_option maxRecDepth 10000
variable {G : Base} {h : H}
/-- The list less the multiple, in each integer. -/
def subF (x y : List Int) (i : Nat) : Int := rnd (x.getD i 0 * innL y y - innL x y * y.getD i 0) (innL y y)
def subL (x y : List Int) : List Int := (List.range x.length).map (subF x y)
@[reducible] def ratV (a b : Int) : Value := .agg ⟨[.int .i64 a, .int .i64 b]⟩
def subE (P : Int) (x y : List Int) : Int := if P ≠ 0 then P else if innL y y = 0 then 17 else if anyLarge (subL x y) then 4 else 0
end Go.Proofs.YtdfpadokepmknaaGreatDoor
