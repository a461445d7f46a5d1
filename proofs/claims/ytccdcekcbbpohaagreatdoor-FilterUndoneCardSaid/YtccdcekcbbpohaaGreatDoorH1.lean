/- Taps undone, by the program and by the reference. -/
import Derived.Test.YtccdcekcbbpohaaGreatDoorG2
set_option linter.all false
/- Taps undone, by the program. -/
namespace Go.Proofs.YtccdcekcbbpohaaGreatDoor
open Go Go.Ab Go.Fl
attribute [local irreducible] SeqQ BlkQ LpQ RetQ Wc Wo WD WX Op1 Op1q Op1a Cf Cl From
attribute [local irreducible] Ieee.Format.order Ieee.Format.read Ieee.Format.nearest Ieee.Format.write Ieee.Format.mul Ieee.Format.div Ieee.Datum.order Ieee.Datum.integral smpE smp smpW K J U sumN lchk tchk trE hdrE appL undL undA undI wr ghoL rnd mulL dghL dghA rngE notN
set_option maxRecDepth 10000
variable {G : Base} {h : H}
theorem c74g {v : Value} {n : Nat} {l : List Int} (s : Sl G h 1 v n (l.map (.int .i64))) (hn : n < 1000000) (hw : Wf h) : Cf (mz G) (.func (.func 74) #[] #[]) [v] h fun r h' =>
    (if anyLarge l then r = .tuple #[.slice none 0 0, .int .i64 4] else ∃ u, r = .tuple #[u, .int .i64 0] ∧ Sl G h' 1 u n ((l.map smpW).map (.float .f32))) ∧ Grow h h' := by
  obtain ⟨a, c, rfl⟩ := s.form
  have hl := s.length
  simp at hl
  refine cf_enter0 21 [.tmp 2, .tmp 3] Tryz.func74 rfl rfl rfl rfl ?_
  repeat' (first | with_reducible refine wo_nil ?_ | ((with_reducible refine wo_any ?_); first | ((with_reducible refine ik_move ?_); refine wo_op rfl (op_move rfl) rfl rfl ?_) | ((with_reducible refine ik_assign ?_); refine wo_op rfl (op_assign rfl) rfl rfl ?_) | ((with_reducible refine ik_callb ?_); refine wo_op rfl (op_lenSl rfl Tryz.underlying22) rfl rfl ?_)) | with_reducible refine sq_norm ?_ | with_reducible refine wc_seq ?_ | with_reducible refine wc_region ?_ | with_reducible refine wc_block ?_)
  refine wc_loop (fun k => n - k) (fun k : Nat => [(0, .slice a n c), (6, .slice a n c), (7, .int .i64 n), (8, .int .i64 k)]) (fun k h' => h' = h ∧ k ≤ n ∧ (anyLarge (l.take k)) = false) 0 (within_lk ⟨rfl, rfl, rfl, rfl, trivial⟩) ⟨rfl, Nat.zero_le _, by simp [anyLarge]⟩ ?_
  rintro k h' ⟨rfl, hk, hi⟩
  by_cases hlt : k < n
  · obtain ⟨ad, h1, h2⟩ := s.addr (M := mz G) Tryz.underlying22 (es := 1) zs3 (i := k) (k := .i64) (by omega) (by omega)
    have h3 : acell G h' ad = some (.int .i64 (l[k]'(by omega))) := h2.get 0 _ (by simp)
    have hm : l[k]'(by omega) ∈ l := List.getElem_mem _
    obtain ⟨x, hx⟩ : ∃ x, l[k]'(by omega) = x := ⟨_, rfl⟩
    rw [hx] at h3 hm
    by_cases hlg : isLargeB x = true
    · have hlg' := of_decide_eq_true hlg
      repeat' (first | with_reducible refine wo_nil ?_ | ((with_reducible refine wo_any ?_); first | ((with_reducible refine ik_move ?_); refine wo_op rfl (op_move rfl) rfl rfl ?_) | ((with_reducible refine ik_assign ?_); refine wo_op rfl (op_assign rfl) rfl rfl ?_) | ((with_reducible refine ik_indexAddr ?_); refine wo_op rfl (op_indexAddr rfl rfl h1) rfl rfl ?_) | ((with_reducible refine ik_load ?_); refine wo_op rfl (op_ldCell rfl Tryz.underlying3 rfl h3) rfl rfl ?_) | ((with_reducible refine ik_bin ?_); refine wo_op rfl (op_lss rfl rfl) rfl rfl ?_) | ((with_reducible refine ik_pick ?_); first | refine wo_op rfl (op_pickt rfl rfl) rfl rfl ?_ | refine wo_op rfl (op_pickf rfl rfl) rfl rfl ?_) | ((with_reducible refine ik_g ?_); first | refine wo_gskip rfl rfl rfl rfl rfl rfl ?_ | ((with_reducible refine ig_move ?_); refine wo_grun rfl rfl rfl (op_move rfl) rfl rfl ?_) | ((with_reducible refine ig_bin ?_); refine wo_grun rfl rfl rfl (op_gtr rfl rfl) rfl rfl ?_) | (refine wo_gsplit rfl rfl rfl (fun hb => ?_) (fun hb => ?_) <;> (try simp only [decide_eq_true_eq, decide_eq_false_iff_not, Bool.not_eq_true', Bool.not_eq_false', Int.not_lt, Int.not_le, Decidable.not_not, not_true_eq_false, not_false_eq_true, beq_self_eq_true, reduceCtorEq] at hb) <;> (try (exfalso; omega))))) | with_reducible refine sq_norm ?_ | with_reducible refine wc_seq ?_ | with_reducible refine wc_region ?_ | with_reducible refine wc_skip ?_ | with_reducible refine wc_ret ?_ | with_reducible refine wc_block ?_ | with_reducible refine bq_ret ?_ | with_reducible refine sq_ret ?_ | with_reducible refine lq_ret ?_ | refine wc_ift rfl ?_ | (refine wc_if rfl (fun hb => ?_) (fun hb => ?_) <;> (try simp only [decide_eq_true_eq, decide_eq_false_iff_not, Bool.not_eq_true', Bool.not_eq_false', Int.not_lt, Int.not_le, Decidable.not_not, not_true_eq_false, not_false_eq_true, beq_self_eq_true, reduceCtorEq] at hb) <;> (try (exfalso; omega))))
      all_goals
        refine rq2 rfl rfl ⟨?_, .refl _⟩
        rw [if_pos (by unfold anyLarge; rw [List.any_eq_true]; exact ⟨_, hm, hlg⟩)]
    · have hlg' := of_decide_eq_false (Bool.eq_false_iff.2 hlg)
      repeat' (first | with_reducible refine wo_nil ?_ | ((with_reducible refine wo_any ?_); first | ((with_reducible refine ik_move ?_); refine wo_op rfl (op_move rfl) rfl rfl ?_) | ((with_reducible refine ik_assign ?_); refine wo_op rfl (op_assign rfl) rfl rfl ?_) | ((with_reducible refine ik_indexAddr ?_); refine wo_op rfl (op_indexAddr rfl rfl h1) rfl rfl ?_) | ((with_reducible refine ik_load ?_); refine wo_op rfl (op_ldCell rfl Tryz.underlying3 rfl h3) rfl rfl ?_) | ((with_reducible refine ik_bin ?_); first | refine wo_op rfl (op_lss rfl rfl) rfl rfl ?_ | refine wo_op rfl (op_add' rfl rfl (w64 (by omega) (by omega))) rfl rfl ?_) | ((with_reducible refine ik_pick ?_); refine wo_op rfl (op_pickf rfl rfl) rfl rfl ?_) | ((with_reducible refine ik_g ?_); first | ((with_reducible refine ig_move ?_); refine wo_grun rfl rfl rfl (op_move rfl) rfl rfl ?_) | ((with_reducible refine ig_bin ?_); refine wo_grun rfl rfl rfl (op_gtr rfl rfl) rfl rfl ?_) | (refine wo_gsplit rfl rfl rfl (fun hb => ?_) (fun hb => ?_) <;> (try simp only [decide_eq_true_eq, decide_eq_false_iff_not, Bool.not_eq_true', Bool.not_eq_false', Int.not_lt, Int.not_le, Decidable.not_not, not_true_eq_false, not_false_eq_true, beq_self_eq_true, reduceCtorEq] at hb) <;> (try (exfalso; omega))))) | with_reducible refine sq_norm ?_ | with_reducible refine wc_seq ?_ | with_reducible refine wc_region ?_ | with_reducible refine wc_skip ?_ | with_reducible refine wc_block ?_ | with_reducible refine bq_norm ?_ | (refine wc_if rfl (fun hb => ?_) (fun hb => ?_) <;> (try simp only [decide_eq_true_eq, decide_eq_false_iff_not, Bool.not_eq_true', Bool.not_eq_false', Int.not_lt, Int.not_le, Decidable.not_not, not_true_eq_false, not_false_eq_true, beq_self_eq_true, reduceCtorEq] at hb) <;> (try (exfalso; omega))))
      all_goals
        refine lq_norm (k + 1) (by omega) (within_lk ⟨rfl, rfl, rfl, rfl, trivial⟩) ⟨rfl, by omega, ?_⟩
        rw [List.take_succ_eq_append_getElem (by omega), hx]
        unfold anyLarge at hi ⊢
        rw [List.any_append, hi]
        simpa using hlg
  · have hkn : k = n := by omega
    subst hkn
    rw [List.take_of_length_le (by omega)] at hi
    have hall : ∀ x ∈ l, x.natAbs ≤ 16384 := fun x hx => by
      have : isLargeB x = false := by
        unfold anyLarge at hi
        rw [List.any_eq_false] at hi
        simpa using hi x hx
      have := of_decide_eq_false this
      omega
    repeat' (first | with_reducible refine wo_nil ?_ | ((with_reducible refine wo_any ?_); first | ((with_reducible refine ik_move ?_); refine wo_op rfl (op_move rfl) rfl rfl ?_) | ((with_reducible refine ik_assign ?_); refine wo_op rfl (op_assign rfl) rfl rfl ?_) | ((with_reducible refine ik_bin ?_); refine wo_op rfl (op_lss rfl rfl) rfl rfl ?_) | ((with_reducible refine ik_callF (f := 125) ?_); (refine wo_call rfl rfl rfl rfl (c125 s hn hall hw) rfl rfl ?_; rintro _ _ ⟨sl, hq⟩; all_goals ((try (have hqn := hq.nx)); (try simp only [H.nx_push, H.nx_set, H.nx_bump] at hqn))))) | with_reducible refine sq_norm ?_ | with_reducible refine wc_seq ?_ | with_reducible refine wc_region ?_ | with_reducible refine wc_ret ?_ | with_reducible refine wc_exit ?_ | with_reducible refine sq_exit ?_ | with_reducible refine lq_exit ?_ | refine bq_eq rfl ?_ | (refine wc_if rfl (fun hb => ?_) (fun hb => ?_) <;> (try simp only [decide_eq_true_eq, decide_eq_false_iff_not, Bool.not_eq_true', Bool.not_eq_false', Int.not_lt, Int.not_le, Decidable.not_not, not_true_eq_false, not_false_eq_true, beq_self_eq_true, reduceCtorEq] at hb) <;> (try (exfalso; omega))))
    refine rq2 rfl rfl ⟨?_, hq⟩
    rw [hi]
    exact ⟨_, rfl, sl⟩

theorem c74n {v : Value} {n : Nat} {L : List Int} (s : Sl G h 1 v n (L.map (.int .i64))) (hn : n < 1000000) (hw : Wf h) : Cf (mz G) (.func (.func 74) #[] #[]) [v] h fun r h' => (∃ u E, r = .tuple #[u, .int .i64 E] ∧ MadeF G h' r n (madeE 0 L) L) ∧ Grow h h' :=
  (c74g s hn hw).mono fun r h' ⟨q, g⟩ => by
    refine ⟨?_, g⟩
    unfold madeE
    by_cases hl : anyLarge L = true
    · rw [if_pos hl] at q
      subst q
      exact ⟨_, _, rfl, .inl ⟨by simp [hl], by simp [hl]⟩⟩
    · have hf := Bool.eq_false_iff.2 hl
      rw [if_neg hl] at q
      obtain ⟨u, rfl, su⟩ := q
      obtain ⟨a, c, rfl⟩ := su.form
      exact ⟨_, _, rfl, .inr ⟨by simp [hf], a, c, rfl, su, not_large hf⟩⟩

def undU (t : List Int) (l : List Nat) : Int := if firstNZ [tchk t, lchk l] ≠ 0 then firstNZ [tchk t, lchk l] else if t.getD 0 0 ≠ 1 ∧ t.getD 0 0 ≠ -1 then 21 else madeE 0 (undL t (l.map smp))
set_option maxHeartbeats 2000000 in
theorem c21 {v w : Value} {n m : Nat} {t : List Int} {l : List Nat} (s : Sl G h 1 v m (t.map (.int .i64))) (u : Sl G h 1 w n (l.map (.float .f32))) (hm : m < 1000000) (hn : n < 1000000) (hw : Wf h) (hG : ∀ a v, laidBase a = some v → G a = some v) :
    Cf (mz G) (.func (.func 21) #[] #[]) [v, w] h fun r h' => MadeF G h' r n (undU t l) (undL t (l.map smp)) ∧ Grow h h' := by
  obtain ⟨a, c, rfl⟩ := s.form
  obtain ⟨b, d, rfl⟩ := u.form
  have ht := s.length
  have hl := u.length
  simp at hl ht
  have q30 := fun (h' : H) (g : Grow h h') => c30 (s.grow g) hm
  have q73 := fun (h' : H) (g : Grow h h') (w' : Wf h') => c73 (u.grow g) hn w' hG
  unfold undU
  by_cases hz : firstNZ [tchk t, lchk l] = 0
  · have hz2 := firstNZ_zero hz
    have z1 : tchk t = 0 := hz2 _ (by simp)
    have z2 : lchk l = 0 := hz2 _ (by simp)
    obtain ⟨k1, k2⟩ := lchk_ok z2
    obtain ⟨k3, k4, k5⟩ := tchk_ok z1
    rw [z1] at q30
    rw [z2] at q73
    rw [if_neg (by omega)]
    have qi := fun (h' : H) (g : Grow h h') => slI_at (s.grow g) (i := 0) (q := 0) (by omega) (by omega)
    obtain ⟨ad, i1, i3⟩ := qi h (.refl _)
    have i4 : ∀ h', Grow h h' → acell G h' ad = some (.int .i64 (t.getD 0 0)) := fun h' g => by
      obtain ⟨ad', j1, j3⟩ := qi h' g
      rw [i1] at j1; cases j1; exact j3
    obtain ⟨x, hx⟩ : ∃ x, t.getD 0 0 = x := ⟨_, rfl⟩
    rw [hx] at i4 ⊢
    have hLn : (undL t (l.map smp)).length = n := by unfold undL; rw [undA_len]; simp [hl]
    have q80 := fun (h' : H) (ad : Addr) (cc : Nat) (g : Grow h h') (u2 : Sl G h' 1 (.slice (some ad) n cc) n ((l.map smp).map (.int .i64))) (w' : Wf h') => c80 (G := G) (h := h') (s.grow g) u2 (by omega) (by omega) (by omega) w'
    by_cases hx1 : x = 1
    · rw [if_neg (by omega)]
      subst hx1
      refine cf_enter0 33 [.tmp 4, .tmp 5] Tryz.func21 rfl rfl rfl rfl ?_
      repeat' (first | with_reducible refine wo_nil ?_ | ((with_reducible refine wo_any ?_); first | ((with_reducible refine ik_move ?_); refine wo_op rfl (op_move rfl) rfl rfl ?_) | ((with_reducible refine ik_assign ?_); refine wo_op rfl (op_assign rfl) rfl rfl ?_) | ((with_reducible refine ik_indexAddr ?_); refine wo_op rfl (op_indexAddr rfl rfl i1) rfl rfl ?_) | ((with_reducible refine ik_load ?_); refine wo_op rfl (op_ldCell rfl Tryz.underlying3 rfl (i4 _ gr_A)) rfl rfl ?_) | ((with_reducible refine ik_buildSlice ?_); refine wo_op rfl (op_buildSl rfl Tryz.underlying163 zs29 zz29 rfl rfl) rfl rfl ?_) | ((with_reducible refine ik_bin ?_); refine wo_op rfl (op_neq rfl rfl) rfl rfl ?_) | ((with_reducible refine ik_pick ?_); refine wo_op rfl (op_pickf rfl rfl) rfl rfl ?_) | ((with_reducible refine ik_extract ?_); refine wo_op rfl (op_extract rfl rfl) rfl rfl ?_) | ((with_reducible refine ik_callv ?_); first | refine wo_op rfl (op_call rfl rfl (q30 _ gr_A)) rfl rfl ?_ | (refine wo_call rfl rfl rfl rfl (q73 _ gr_A wf_A) rfl rfl ?_; rintro _ _ ⟨rfl, hq⟩; all_goals ((try (have hqn := hq.nx)); (try simp only [H.nx_push, H.nx_set, H.nx_bump] at hqn))) | (refine wo_call rfl rfl rfl rfl (q80 _ _ _ gr_A (Sl.ofAt (at_A) (by simp [hl]) (Nat.le_refl _)) wf_A) rfl rfl ?_; rintro _ _ ⟨⟨B2, f2, rfl, hB2, at2⟩, hq⟩; all_goals ((try (have hqn := hq.nx)); (try simp only [H.nx_push, H.nx_set, H.nx_bump] at hqn)))) | ((with_reducible refine ik_callF (f := 72) ?_); refine wo_op rfl (op_call rfl rfl (c72 (es := [0, 0]) (n := 2) (Sl.ofAt (at_A) rfl (Nat.le_refl _)) (by omega))) rfl rfl ?_) | ((with_reducible refine ik_callF (f := 76) ?_); (refine wo_call rfl rfl rfl rfl (c76o (u.grow gr_A) hn k2 wf_A) rfl rfl ?_; rintro _ _ ⟨⟨rfl, at0⟩, hq⟩; all_goals ((try (have hqn := hq.nx)); (try simp only [H.nx_push, H.nx_set, H.nx_bump] at hqn)))) | ((with_reducible refine ik_callF (f := 74) ?_); (refine wo_call rfl rfl rfl rfl (c74n (Sl.ofAt at2 (by simp [hLn]) (Nat.le_refl _)) (by omega) wf_A) rfl rfl ?_; rintro _ _ ⟨⟨U1, E1, rfl, mf⟩, hq⟩; all_goals ((try (have hqn := hq.nx)); (try simp only [H.nx_push, H.nx_set, H.nx_bump] at hqn)))) | ((with_reducible refine ik_g ?_); refine wo_gskip rfl rfl rfl rfl rfl rfl ?_)) | with_reducible refine sq_norm ?_ | with_reducible refine wc_seq ?_ | with_reducible refine wc_region ?_ | with_reducible refine wc_skip ?_ | with_reducible refine wc_ret ?_ | refine wc_iff rfl ?_)
      exact rq2 rfl rfl ⟨mf, gr_A⟩
    · by_cases hx2 : x = -1
      · rw [if_neg (by omega)]
        subst hx2
        refine cf_enter0 33 [.tmp 4, .tmp 5] Tryz.func21 rfl rfl rfl rfl ?_
        repeat' (first | with_reducible refine wo_nil ?_ | ((with_reducible refine wo_any ?_); first | ((with_reducible refine ik_move ?_); refine wo_op rfl (op_move rfl) rfl rfl ?_) | ((with_reducible refine ik_assign ?_); refine wo_op rfl (op_assign rfl) rfl rfl ?_) | ((with_reducible refine ik_indexAddr ?_); refine wo_op rfl (op_indexAddr rfl rfl i1) rfl rfl ?_) | ((with_reducible refine ik_load ?_); refine wo_op rfl (op_ldCell rfl Tryz.underlying3 rfl (i4 _ gr_A)) rfl rfl ?_) | ((with_reducible refine ik_buildSlice ?_); refine wo_op rfl (op_buildSl rfl Tryz.underlying163 zs29 zz29 rfl rfl) rfl rfl ?_) | ((with_reducible refine ik_bin ?_); refine wo_op rfl (op_neq rfl rfl) rfl rfl ?_) | ((with_reducible refine ik_pick ?_); refine wo_op rfl (op_pickt rfl rfl) rfl rfl ?_) | ((with_reducible refine ik_extract ?_); refine wo_op rfl (op_extract rfl rfl) rfl rfl ?_) | ((with_reducible refine ik_callv ?_); first | refine wo_op rfl (op_call rfl rfl (q30 _ gr_A)) rfl rfl ?_ | (refine wo_call rfl rfl rfl rfl (q73 _ gr_A wf_A) rfl rfl ?_; rintro _ _ ⟨rfl, hq⟩; all_goals ((try (have hqn := hq.nx)); (try simp only [H.nx_push, H.nx_set, H.nx_bump] at hqn))) | (refine wo_call rfl rfl rfl rfl (q80 _ _ _ gr_A (Sl.ofAt (at_A) (by simp [hl]) (Nat.le_refl _)) wf_A) rfl rfl ?_; rintro _ _ ⟨⟨B2, f2, rfl, hB2, at2⟩, hq⟩; all_goals ((try (have hqn := hq.nx)); (try simp only [H.nx_push, H.nx_set, H.nx_bump] at hqn)))) | ((with_reducible refine ik_callF (f := 72) ?_); refine wo_op rfl (op_call rfl rfl (c72 (es := [0, 0]) (n := 2) (Sl.ofAt (at_A) rfl (Nat.le_refl _)) (by omega))) rfl rfl ?_) | ((with_reducible refine ik_callF (f := 76) ?_); (refine wo_call rfl rfl rfl rfl (c76o (u.grow gr_A) hn k2 wf_A) rfl rfl ?_; rintro _ _ ⟨⟨rfl, at0⟩, hq⟩; all_goals ((try (have hqn := hq.nx)); (try simp only [H.nx_push, H.nx_set, H.nx_bump] at hqn)))) | ((with_reducible refine ik_callF (f := 74) ?_); (refine wo_call rfl rfl rfl rfl (c74n (Sl.ofAt at2 (by simp [hLn]) (Nat.le_refl _)) (by omega) wf_A) rfl rfl ?_; rintro _ _ ⟨⟨U1, E1, rfl, mf⟩, hq⟩; all_goals ((try (have hqn := hq.nx)); (try simp only [H.nx_push, H.nx_set, H.nx_bump] at hqn)))) | ((with_reducible refine ik_g ?_); first | ((with_reducible refine ig_move ?_); refine wo_grun rfl rfl rfl (op_move rfl) rfl rfl ?_) | ((with_reducible refine ig_indexAddr ?_); refine wo_grun rfl rfl rfl (op_indexAddr rfl rfl i1) rfl rfl ?_) | ((with_reducible refine ig_load ?_); refine wo_grun rfl rfl rfl (op_ldCell rfl Tryz.underlying3 rfl (i4 _ gr_A)) rfl rfl ?_) | ((with_reducible refine ig_bin ?_); refine wo_grun rfl rfl rfl (op_neq rfl rfl) rfl rfl ?_))) | with_reducible refine sq_norm ?_ | with_reducible refine wc_seq ?_ | with_reducible refine wc_region ?_ | with_reducible refine wc_skip ?_ | with_reducible refine wc_ret ?_ | refine wc_iff rfl ?_)
        exact rq2 rfl rfl ⟨mf, gr_A⟩
      · rw [if_pos ⟨hx1, hx2⟩]
        refine cf_enter0 33 [.tmp 4, .tmp 5] Tryz.func21 rfl rfl rfl rfl ?_
        repeat' (first | with_reducible refine wo_nil ?_ | ((with_reducible refine wo_any ?_); first | ((with_reducible refine ik_move ?_); refine wo_op rfl (op_move rfl) rfl rfl ?_) | ((with_reducible refine ik_assign ?_); refine wo_op rfl (op_assign rfl) rfl rfl ?_) | ((with_reducible refine ik_indexAddr ?_); refine wo_op rfl (op_indexAddr rfl rfl i1) rfl rfl ?_) | ((with_reducible refine ik_load ?_); refine wo_op rfl (op_ldCell rfl Tryz.underlying3 rfl (i4 _ gr_A)) rfl rfl ?_) | ((with_reducible refine ik_buildSlice ?_); refine wo_op rfl (op_buildSl rfl Tryz.underlying163 zs29 zz29 rfl rfl) rfl rfl ?_) | ((with_reducible refine ik_bin ?_); refine wo_op rfl (op_neq rfl rfl) rfl rfl ?_) | ((with_reducible refine ik_pick ?_); refine wo_op rfl (op_pickt rfl rfl) rfl rfl ?_) | ((with_reducible refine ik_callv ?_); first | refine wo_op rfl (op_call rfl rfl (q30 _ gr_A)) rfl rfl ?_ | (refine wo_call rfl rfl rfl rfl (q73 _ gr_A wf_A) rfl rfl ?_; rintro _ _ ⟨rfl, hq⟩; all_goals ((try (have hqn := hq.nx)); (try simp only [H.nx_push, H.nx_set, H.nx_bump] at hqn)))) | ((with_reducible refine ik_callF (f := 72) ?_); refine wo_op rfl (op_call rfl rfl (c72 (es := [0, 0]) (n := 2) (Sl.ofAt (at_A) rfl (Nat.le_refl _)) (by omega))) rfl rfl ?_) | ((with_reducible refine ik_g ?_); first | ((with_reducible refine ig_move ?_); refine wo_grun rfl rfl rfl (op_move rfl) rfl rfl ?_) | ((with_reducible refine ig_indexAddr ?_); refine wo_grun rfl rfl rfl (op_indexAddr rfl rfl i1) rfl rfl ?_) | ((with_reducible refine ig_load ?_); refine wo_grun rfl rfl rfl (op_ldCell rfl Tryz.underlying3 rfl (i4 _ gr_A)) rfl rfl ?_) | ((with_reducible refine ig_bin ?_); refine wo_grun rfl rfl rfl (op_neq rfl rfl) rfl rfl ?_) | (refine wo_gsplit rfl rfl rfl (fun hb => ?_) (fun hb => dead_A hb); (try simp only [decide_eq_true_eq, decide_eq_false_iff_not, Bool.not_eq_true', Bool.not_eq_false', Int.not_lt, Int.not_le, Decidable.not_not, not_true_eq_false, not_false_eq_true, beq_self_eq_true, reduceCtorEq] at hb)))) | with_reducible refine sq_norm ?_ | with_reducible refine wc_seq ?_ | with_reducible refine wc_region ?_ | with_reducible refine wc_skip ?_ | with_reducible refine wc_ret ?_ | with_reducible refine sq_ret ?_ | refine wc_iff rfl ?_ | (refine wc_if rfl (fun hb => ?_) (fun hb => dead_A hb); (try simp only [decide_eq_true_eq, decide_eq_false_iff_not, Bool.not_eq_true', Bool.not_eq_false', Int.not_lt, Int.not_le, Decidable.not_not, not_true_eq_false, not_false_eq_true, beq_self_eq_true, reduceCtorEq] at hb)))
        exact rq2 rfl rfl ⟨.inl ⟨by decide, rfl⟩, gr_A⟩
  · rw [if_pos hz]
    refine cf_enter0 33 [.tmp 4, .tmp 5] Tryz.func21 rfl rfl rfl rfl ?_
    repeat' (first | with_reducible refine wo_nil ?_ | ((with_reducible refine wo_any ?_); first | ((with_reducible refine ik_move ?_); refine wo_op rfl (op_move rfl) rfl rfl ?_) | ((with_reducible refine ik_assign ?_); refine wo_op rfl (op_assign rfl) rfl rfl ?_) | ((with_reducible refine ik_buildSlice ?_); refine wo_op rfl (op_buildSl rfl Tryz.underlying163 zs29 zz29 rfl rfl) rfl rfl ?_) | ((with_reducible refine ik_bin ?_); refine wo_op rfl (op_neq rfl rfl) rfl rfl ?_) | ((with_reducible refine ik_callv ?_); first | refine wo_op rfl (op_call rfl rfl (q30 _ gr_A)) rfl rfl ?_ | (refine wo_call rfl rfl rfl rfl (q73 _ gr_A wf_A) rfl rfl ?_; rintro _ _ ⟨rfl, hq⟩; all_goals ((try (have hqn := hq.nx)); (try simp only [H.nx_push, H.nx_set, H.nx_bump] at hqn)))) | ((with_reducible refine ik_callF (f := 72) ?_); refine wo_op rfl (op_call rfl rfl (c72 (es := [_, _]) (n := 2) (Sl.ofAt (at_A) rfl (Nat.le_refl _)) (by omega))) rfl rfl ?_)) | with_reducible refine sq_norm ?_ | with_reducible refine wc_seq ?_ | with_reducible refine wc_region ?_ | with_reducible refine wc_ret ?_ | with_reducible refine sq_ret ?_ | (refine wc_if rfl (fun hb => ?_) (fun hb => dead_A hb); (try simp only [decide_eq_true_eq, decide_eq_false_iff_not, Bool.not_eq_true', Bool.not_eq_false', Int.not_lt, Int.not_le, Decidable.not_not, not_true_eq_false, not_false_eq_true, beq_self_eq_true, reduceCtorEq] at hb)))
    exact rq2 rfl rfl ⟨.inl ⟨hz, rfl⟩, gr_A⟩
end Go.Proofs.YtccdcekcbbpohaaGreatDoor

/- Taps undone, by the reference. -/
namespace Go.Proofs.YtccdcekcbbpohaaGreatDoor
open Go Go.Ab Go.Fl
attribute [local irreducible] SeqQ BlkQ LpQ RetQ Wc Wo WD WX Op1 Op1q Op1a Cf Cl From
attribute [local irreducible] Ieee.Format.order Ieee.Format.read Ieee.Format.nearest Ieee.Format.write Ieee.Format.mul Ieee.Format.div Ieee.Datum.order Ieee.Datum.integral smpE smp smpW K J U sumN lchk tchk trE hdrE appL undL undA undI wr ghoL rnd mulL dghL dghA rngE notN
set_option maxRecDepth 10000
variable {G : Base} {h : H}

theorem und_small {t o : List Int} {i : Nat} {x : Int} (hx : x.natAbs ≤ 16384) (ht : ∀ z ∈ t, z.natAbs ≤ 16) (ho : ∀ z ∈ o, z.natAbs ≤ 16384) : ∀ j, j ≤ 64 → (undI t o i x j).natAbs ≤ 16384 + j * 262144
  | 0, _ => by unfold undI; omega
  | j + 1, h => by
    have ih := und_small (i := i) hx ht ho j (by omega)
    have hp := prod_bound (getD_bound ht (j + 1)) (getD_bound ho (i - j - 1))
    unfold undI
    have e1 : wr (t.getD (j + 1) 0 * o.getD (i - j - 1) 0) = t.getD (j + 1) 0 * o.getD (i - j - 1) 0 := wr_id (by omega)
    rw [e1, wr_id (by omega)]
    omega
theorem und_step {t o : List Int} {i : Nat} {x : Int} (hx : x.natAbs ≤ 16384) (ht : ∀ z ∈ t, z.natAbs ≤ 16) (ho : ∀ z ∈ o, z.natAbs ≤ 16384) {j : Nat} (hj : j < 64) : undI t o i x (j + 1) = undI t o i x j - t.getD (j + 1) 0 * o.getD (i - j - 1) 0 := by
  have ih := und_small (i := i) hx ht ho j (by omega)
  have hp := prod_bound (getD_bound ht (j + 1)) (getD_bound ho (i - j - 1))
  have e1 : wr (t.getD (j + 1) 0 * o.getD (i - j - 1) 0) = t.getD (j + 1) 0 * o.getD (i - j - 1) 0 := wr_id (by omega)
  rw [undI, e1, wr_id (by omega)]
theorem undA_pre (t l : List Int) (i : Nat) : ∀ n, i ≤ n → ∃ s, undA t l n = undA t l i ++ s := by
  intro n
  induction n with
  | zero => intro h; have : i = 0 := by omega
            subst this; exact ⟨[], by simp⟩
  | succ n ih =>
    intro h
    by_cases q : i = n + 1
    · subst q; exact ⟨[], by simp⟩
    · obtain ⟨s, hs⟩ := ih (by omega)
      exact ⟨s ++ _, by rw [undA, hs, List.append_assoc]⟩
theorem undA_next {t l : List Int} {i : Nat} : undA t l (i + 1) = undA t l i ++ [wr (undI t (undA t l i) i (l.getD i 0) (min (t.length - 1) i) * t.getD 0 0)] := by rw [undA]
end Go.Proofs.YtccdcekcbbpohaaGreatDoor
