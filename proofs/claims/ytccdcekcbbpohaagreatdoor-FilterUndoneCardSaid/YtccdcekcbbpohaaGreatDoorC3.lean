/- Contracts of functions on lists of samples: filters, inner products. -/
import Derived.Test.YtccdcekcbbpohaaGreatDoorC2
import Derived.Test.YtccdcekcbbpohaaGreatDoorK3
set_option linter.all false
/- Fresh lists; filters by the program: taps applied, adjoints, inner products. -/
namespace Go.Proofs.YtccdcekcbbpohaaGreatDoor
open Go Go.Ab Go.Fl
attribute [local irreducible] SeqQ BlkQ LpQ RetQ Wc Wo WD WX Op1 Op1q Op1a Cf Cl From
attribute [local irreducible] Ieee.Format.order Ieee.Format.read Ieee.Format.nearest Ieee.Format.write Ieee.Format.mul Ieee.Format.div Ieee.Datum.order Ieee.Datum.integral smpE smp smpW K J U sumN lchk tchk trE hdrE appL
set_option maxRecDepth 10000
variable {G : Base} {h : H}
/-! fresh lists -/
set_option maxHeartbeats 4000000 in
theorem c126o {v : Value} {n : Nat} {l : List Nat} (s : Sl G h 1 v n (l.map (.float .f32))) (hn : n < 1000000) (hl0 : ∀ x ∈ l, smpE x = 0) (hw : Wf h) : Cf (mz G) (.func (.func 126) #[] #[]) [v, .func (.func 110) #[] #[]] h fun r h' => (r = .slice (some ⟨h.nx, 0, some 0⟩) n n ∧ At h' h.nx (.cells ((l.map smp).map (.int .i64)) 3 1 false)) ∧ Grow h h' := by
  obtain ⟨a, c, rfl⟩ := s.form
  have hl := s.length
  simp at hl
  refine cf_enter0 26 [.tmp 4] Tryz.func126 rfl rfl rfl rfl ?_
  repeat' (first | with_reducible refine wo_nil ?_ | ((with_reducible refine wo_any ?_); first | ((with_reducible refine ik_move ?_); refine wo_op rfl (op_move rfl) rfl rfl ?_) | ((with_reducible refine ik_assign ?_); refine wo_op rfl (op_assign rfl) rfl rfl ?_) | ((with_reducible refine ik_makeSlice ?_); refine wo_op rfl (op_mkSl rfl rfl Tryz.underlying22 zs3 zb3 zz3 rfl (by omega) (by omega)) rfl rfl ?_) | ((with_reducible refine ik_callb ?_); refine wo_op rfl (op_lenSl rfl Tryz.underlying23) rfl rfl ?_)) | with_reducible refine sq_norm ?_ | with_reducible refine wc_seq ?_ | with_reducible refine wc_region ?_ | with_reducible refine wc_block ?_)
  refine wc_loop (fun k => n - k) (fun k : Nat => [(1, .func (.func 110) #[] #[]), (5, .slice (some ⟨h.nx, 0, some 0⟩) n n), (11, .slice a n c), (12, .int .i64 n), (13, .int .i64 k)]) (fun k h' => Grow h h' ∧ At h' h.nx (.cells ((l.take k).map (fun x => .int .i64 (smp x)) ++ List.replicate (n - k) (.int .i64 0)) 3 1 false) ∧ k ≤ n) 0 (within_lk ⟨rfl, rfl, rfl, rfl, rfl, trivial⟩) ⟨gr_A, by simpa using At.new h _, Nat.zero_le _⟩ ?_
  rintro k h' ⟨hgr, hat, hk⟩
  by_cases hlt : k < n
  · obtain ⟨ad, h1, h2⟩ := (s.grow hgr).addr (M := mz G) Tryz.underlying23 (es := 1) zs36 (i := k) (k := .i64) (by omega) (by omega)
    have h3 : acell G h' ad = some (.float .f32 (l[k]'(by omega))) := h2.get 0 _ (by simp)
    repeat' (first | with_reducible refine wo_nil ?_ | ((with_reducible refine wo_any ?_); first | ((with_reducible refine ik_move ?_); refine wo_op rfl (op_move rfl) rfl rfl ?_) | ((with_reducible refine ik_assign ?_); refine wo_op rfl (op_assign rfl) rfl rfl ?_) | ((with_reducible refine ik_indexAddr ?_); first | refine wo_op rfl (op_indexAddr rfl rfl h1) rfl rfl ?_ | refine wo_op rfl (op_idxSl (o := k) rfl rfl Tryz.underlying22 zs3 (by omega) (by omega) (by omega)) rfl rfl ?_) | ((with_reducible refine ik_load ?_); refine wo_op rfl (op_ldCell rfl Tryz.underlying36 rfl h3) rfl rfl ?_) | ((with_reducible refine ik_store ?_); refine wo_op0 rfl (op_stIdx rfl rfl hat rfl zs3 (by simp; omega) rfl (fill_step hl hlt rfl)) rfl ?_) | ((with_reducible refine ik_bin ?_); first | refine wo_op rfl (op_lss rfl rfl) rfl rfl ?_ | refine wo_op rfl (op_add' rfl rfl (w64 (by omega) (by omega))) rfl rfl ?_) | ((with_reducible refine ik_callv ?_); refine wo_op rfl (op_call rfl rfl ((c110 (hl0 _ (List.getElem_mem _))))) rfl rfl ?_)) | with_reducible refine sq_norm ?_ | with_reducible refine wc_seq ?_ | with_reducible refine wc_region ?_ | with_reducible refine wc_skip ?_ | with_reducible refine wc_block ?_ | with_reducible refine bq_norm ?_ | (refine wc_if rfl (fun hb => ?_) (fun hb => ?_) <;> (try simp only [decide_eq_true_eq, decide_eq_false_iff_not, Bool.not_eq_true', Bool.not_eq_false', Int.not_lt, Int.not_le, Decidable.not_not, not_true_eq_false, not_false_eq_true, beq_self_eq_true, reduceCtorEq] at hb) <;> (try (exfalso; omega))))
    refine lq_norm (k + 1) (by omega) (within_lk ⟨rfl, rfl, rfl, rfl, rfl, trivial⟩) ⟨gr_A, at_A, by omega⟩
  · have hkn : k = n := by omega
    subst hkn
    repeat' (first | with_reducible refine wo_nil ?_ | ((with_reducible refine wo_any ?_); first | ((with_reducible refine ik_move ?_); refine wo_op rfl (op_move rfl) rfl rfl ?_) | ((with_reducible refine ik_assign ?_); refine wo_op rfl (op_assign rfl) rfl rfl ?_) | ((with_reducible refine ik_bin ?_); refine wo_op rfl (op_lss rfl rfl) rfl rfl ?_)) | with_reducible refine sq_norm ?_ | with_reducible refine wc_seq ?_ | with_reducible refine wc_region ?_ | with_reducible refine wc_ret ?_ | with_reducible refine wc_exit ?_ | with_reducible refine sq_exit ?_ | with_reducible refine lq_exit ?_ | refine bq_eq rfl ?_ | (refine wc_if rfl (fun hb => ?_) (fun hb => ?_) <;> (try simp only [decide_eq_true_eq, decide_eq_false_iff_not, Bool.not_eq_true', Bool.not_eq_false', Int.not_lt, Int.not_le, Decidable.not_not, not_true_eq_false, not_false_eq_true, beq_self_eq_true, reduceCtorEq] at hb) <;> (try (exfalso; omega))))
    rw [fill_end hl] at hat
    exact rq1 rfl ⟨⟨rfl, by rw [List.map_map]; exact hat⟩, hgr⟩
set_option maxHeartbeats 4000000 in
theorem c76o {v : Value} {n : Nat} {l : List Nat} (s : Sl G h 1 v n (l.map (.float .f32))) (hn : n < 1000000) (hl0 : ∀ x ∈ l, smpE x = 0) (hw : Wf h) : Cf (mz G) (.func (.func 76) #[] #[]) [v] h fun r h' => (r = .slice (some ⟨h.nx, 0, some 0⟩) n n ∧ At h' h.nx (.cells ((l.map smp).map (.int .i64)) 3 1 false)) ∧ Grow h h' := by
  refine cf_enter0 5 [.tmp 2] Tryz.func76 rfl rfl rfl rfl ?_
  repeat' (first | with_reducible refine wo_nil ?_ | ((with_reducible refine wo_any ?_); first | ((with_reducible refine ik_move ?_); refine wo_op rfl (op_move rfl) rfl rfl ?_) | ((with_reducible refine ik_assign ?_); refine wo_op rfl (op_assign rfl) rfl rfl ?_) | ((with_reducible refine ik_callF (f := 126) ?_); (refine wo_call rfl rfl rfl rfl (c126o s hn hl0 hw) rfl rfl ?_; rintro _ _ ⟨⟨rfl, sl⟩, hq⟩; all_goals ((try (have hqn := hq.nx)); (try simp only [H.nx_push, H.nx_set, H.nx_bump] at hqn))))) | with_reducible refine sq_norm ?_ | with_reducible refine wc_seq ?_ | with_reducible refine wc_region ?_ | with_reducible refine wc_ret ?_)
  exact rq1 rfl ⟨⟨rfl, sl⟩, hq⟩
/-! equality -/
def fEqL (l l' : List Nat) : Prop := l.length = l'.length ∧ ∀ i (q : i < l.length) (q' : i < l'.length), (Ieee.single.order l[i] l'[i] == some .eq) = true
theorem smpW_feq {x : Nat} (h : smpE x = 0) : (Ieee.single.order (smpW (smp x)) x == some .eq) = true := by
  obtain ⟨s, m, e, hr, hv, hlo, hhi⟩ := smp_read h
  obtain ⟨_, v, hn, hv2⟩ := div16 (n := smp x) (by omega)
  have hx : Num Ieee.single x (Ieee.signed s m (e + 1074).toNat) := ⟨s, m, e, hr, by have := (read_single hr).2.1; omega, rfl⟩
  rw [hn.feq hx]
  have : v = Ieee.signed s m (e + 1074).toNat := by omega
  simp [this]
set_option maxHeartbeats 4000000 in
theorem c19g {v w : Value} {n : Nat} {l l' : List Nat} (s : Sl G h 1 v n (l.map (.float .f32))) (u : Sl G h 1 w n (l'.map (.float .f32))) (hn : n < 1000000) (hs : fEqL l l') : Cf (mz G) (.func (.func 19) #[] #[]) [v, w] h fun r h' => r = .bool true ∧ Grow h h' := by
  obtain ⟨a, c, rfl⟩ := s.form
  obtain ⟨b, d, rfl⟩ := u.form
  have hl := s.length
  have hl' := u.length
  simp at hl hl'
  refine cf_enter0 26 [.tmp 4] Tryz.func19 rfl rfl rfl rfl ?_
  repeat' (first | with_reducible refine wo_nil ?_ | ((with_reducible refine wo_any ?_); first | ((with_reducible refine ik_move ?_); refine wo_op rfl (op_move rfl) rfl rfl ?_) | ((with_reducible refine ik_assign ?_); refine wo_op rfl (op_assign rfl) rfl rfl ?_) | ((with_reducible refine ik_callb ?_); refine wo_op rfl (op_lenSl rfl Tryz.underlying23) rfl rfl ?_) | ((with_reducible refine ik_bin ?_); refine wo_op rfl (op_neq rfl rfl) rfl rfl ?_)) | with_reducible refine sq_norm ?_ | with_reducible refine wc_seq ?_ | with_reducible refine wc_region ?_ | with_reducible refine wc_skip ?_ | with_reducible refine wc_block ?_ | (refine wc_if rfl (fun hb => ?_) (fun hb => ?_) <;> (try simp only [decide_eq_true_eq, decide_eq_false_iff_not, Bool.not_eq_true', Bool.not_eq_false', Int.not_lt, Int.not_le, Decidable.not_not, not_true_eq_false, not_false_eq_true, beq_self_eq_true, reduceCtorEq] at hb) <;> (try (exfalso; omega))))
  refine wc_loop (fun k => n - k) (fun k : Nat => [(0, .slice a n c), (1, .slice b n d), (5, .int .i64 k)]) (fun k h' => Grow h h' ∧ k ≤ n) 0 (within_lk ⟨rfl, rfl, rfl, trivial⟩) ⟨.refl _, Nat.zero_le _⟩ ?_
  rintro k h' ⟨hgr, hk⟩
  by_cases hlt : k < n
  · obtain ⟨ad, h1, h3⟩ := sl_at (s.grow hgr) (i := (k : Int)) hlt rfl
    obtain ⟨bd, g1, g3⟩ := sl_at (u.grow hgr) (i := (k : Int)) hlt rfl
    have he := hs.2 k (by omega) (by omega)
    repeat' (first | with_reducible refine wo_nil ?_ | ((with_reducible refine wo_any ?_); first | ((with_reducible refine ik_move ?_); refine wo_op rfl (op_move rfl) rfl rfl ?_) | ((with_reducible refine ik_assign ?_); refine wo_op rfl (op_assign rfl) rfl rfl ?_) | ((with_reducible refine ik_bin ?_); first | refine wo_op rfl (op_lss rfl rfl) rfl rfl ?_ | refine wo_op rfl (op_add' rfl rfl (w64 (by omega) (by omega))) rfl rfl ?_) | ((with_reducible refine ik_callb ?_); refine wo_op rfl (op_lenSl rfl Tryz.underlying23) rfl rfl ?_)) | ((with_reducible refine xk_any ?_); ((with_reducible refine xk_as0 ?_); first | ((with_reducible refine xk_move ?_); refine wx_q (wt_none rfl) rfl rfl (op_q rfl (op_move rfl)) rfl rfl rfl ?_) | ((with_reducible refine xk_indexAddr ?_); first | refine wx_q (wt_none rfl) rfl rfl (op_q rfl (op_indexAddr rfl rfl h1)) rfl rfl rfl ?_ | refine wx_q (wt_none rfl) rfl rfl (op_q rfl (op_indexAddr rfl rfl g1)) rfl rfl rfl ?_) | ((with_reducible refine xk_load ?_); first | refine wx_h0 (wt_none rfl) rfl (op_q rfl (op_ldCell rfl Tryz.underlying36 rfl h3)) rfl rfl rfl ?_ | refine wx_h0 (wt_none rfl) rfl (op_q rfl (op_ldCell rfl Tryz.underlying36 rfl g3)) rfl rfl rfl ?_) | ((with_reducible refine xk_bin ?_); refine wx_q (wt_none rfl) rfl rfl (op_q rfl (op_fneq rfl rfl he)) rfl rfl rfl ?_) | with_reducible refine wx_nil0 ?_ ?_)) | with_reducible exact obl_nil | with_reducible refine obl_cons ?_ ?_ | ((with_reducible refine ik_obs ?_); first | exact obs_nil | refine obs_chkn rfl rfl (op_q rfl (op_ldCell rfl Tryz.underlying36 rfl h3)) ?_ | refine obs_chkn rfl rfl (op_q rfl (op_ldCell rfl Tryz.underlying36 rfl g3)) ?_) | with_reducible refine sq_norm ?_ | with_reducible refine wc_seq ?_ | with_reducible refine wc_region ?_ | with_reducible refine wc_skip ?_ | with_reducible refine wc_block ?_ | with_reducible refine bq_norm ?_ | refine wc_iff rfl ?_ | (refine wc_if rfl (fun hb => ?_) (fun hb => ?_) <;> (try simp only [decide_eq_true_eq, decide_eq_false_iff_not, Bool.not_eq_true', Bool.not_eq_false', Int.not_lt, Int.not_le, Decidable.not_not, not_true_eq_false, not_false_eq_true, beq_self_eq_true, reduceCtorEq] at hb) <;> (try (exfalso; omega))) | refine wc_drawB (id := 6) 9 [0, 0, 3, 7, 0, 0, 48, 112, 255] [0, 1, 2, 3, 4, 5, 6, 7, 8] (by kernel_rfl) (by kernel_rfl) rfl rfl ?_)
    exact lq_norm (k + 1) (by omega) (within_lk ⟨rfl, rfl, rfl, trivial⟩) ⟨gr_A, by omega⟩
  · repeat' (first | with_reducible refine wo_nil ?_ | ((with_reducible refine wo_any ?_); first | ((with_reducible refine ik_move ?_); refine wo_op rfl (op_move rfl) rfl rfl ?_) | ((with_reducible refine ik_assign ?_); refine wo_op rfl (op_assign rfl) rfl rfl ?_) | ((with_reducible refine ik_callb ?_); refine wo_op rfl (op_lenSl rfl Tryz.underlying23) rfl rfl ?_) | ((with_reducible refine ik_bin ?_); refine wo_op rfl (op_lss rfl rfl) rfl rfl ?_)) | with_reducible refine sq_norm ?_ | with_reducible refine wc_seq ?_ | with_reducible refine wc_region ?_ | with_reducible refine wc_ret ?_ | with_reducible refine wc_exit ?_ | with_reducible refine sq_exit ?_ | with_reducible refine lq_exit ?_ | refine bq_eq rfl ?_ | (refine wc_if rfl (fun hb => ?_) (fun hb => ?_) <;> (try simp only [decide_eq_true_eq, decide_eq_false_iff_not, Bool.not_eq_true', Bool.not_eq_false', Int.not_lt, Int.not_le, Decidable.not_not, not_true_eq_false, not_false_eq_true, beq_self_eq_true, reduceCtorEq] at hb) <;> (try (exfalso; omega))))
    exact rq1 rfl ⟨rfl, hgr⟩

/-! the program -/
theorem tchk_ok {t : List Int} (h : tchk t = 0) : (1 ≤ t.length ∧ t.length ≤ 8) ∧ (∀ x ∈ t, x.natAbs ≤ 16) ∧ t.getD 0 0 ≠ 0 := by
  unfold tchk at h
  split at h
  · exact absurd h (by decide)
  · split at h
    · exact absurd h (by decide)
    · split at h
      · rename_i q; exact absurd h q
      · split at h
        · exact absurd h (by decide)
        · rename_i q3 q4
          refine ⟨by omega, fun x hx => ?_, q4⟩
          have h0 : firstNZ (t.map tapE) = 0 := by simpa using q3
          have := firstNZ_zero h0 _ (List.mem_map_of_mem hx)
          unfold tapE at this
          rcases rng_cases x (-16) 16 with ⟨_, r1, r2⟩ | ⟨e, _⟩
          · omega
          · rw [e] at this; exact absurd this (by decide)
/-- What a function that makes a list answers: an error, or the list. -/
def MadeF (G : Base) (h : H) (r : Value) (n : Nat) (e : Int) (L : List Int) : Prop :=
  (e ≠ 0 ∧ r = .tuple #[.slice none 0 0, .int .i64 e]) ∨ (e = 0 ∧ ∃ a c, r = .tuple #[.slice a n c, .int .i64 0] ∧ Sl G h 1 (.slice a n c) n ((L.map smpW).map (.float .f32)) ∧ ∀ x ∈ L, x.natAbs ≤ 16384)
theorem not_large {L : List Int} (h : anyLarge L = false) : ∀ x ∈ L, x.natAbs ≤ 16384 := fun x hx => by
  unfold anyLarge at h
  rw [List.any_eq_false] at h
  have h2 : isLargeB x = false := by simpa using h x hx
  have := of_decide_eq_false h2
  omega
def madeE (E : Int) (L : List Int) : Int := if E ≠ 0 then E else if anyLarge L then 4 else 0
theorem c74m {v : Value} {n : Nat} {L : List Int} (s : Sl G h 1 v n (L.map (.int .i64))) (hn : n < 1000000) (hw : Wf h) (hb : ∀ x ∈ L, x.natAbs ≤ 1000000000000) : Cf (mz G) (.func (.func 74) #[] #[]) [v] h fun r h' => (∃ u E, r = .tuple #[u, .int .i64 E] ∧ MadeF G h' r n (madeE 0 L) L) ∧ Grow h h' :=
  (c74 s hn hw hb).mono fun r h' ⟨q, g⟩ => by
    refine ⟨?_, g⟩
    unfold madeE
    by_cases hl : anyLarge L = true
    · rw [if_pos hl] at q
      subst q
      exact ⟨_, _, rfl, .inl ⟨by simp [hl], by simp [hl]⟩⟩
    · have hf := Bool.eq_false_iff.2 hl
      rw [if_neg hl] at q
      obtain ⟨u, rfl, su⟩ := q
      obtain ⟨a, c, rfl⟩ := su.form
      exact ⟨_, _, rfl, .inr ⟨by simp [hf], a, c, rfl, su, not_large hf⟩⟩
theorem appL_bound {t l : List Int} {A C : Nat} (ht : ∀ x ∈ t, x.natAbs ≤ A) (hl : ∀ x ∈ l, x.natAbs ≤ C) : ∀ x ∈ appL t l, x.natAbs ≤ t.length * (A * C) := fun x hx => by
  unfold appL at hx
  obtain ⟨k, _, rfl⟩ := List.mem_map.1 hx
  exact sumN_bound fun i _ => app_bound ht hl k i
def appE (t : List Int) (l : List Nat) : Int := madeE (firstNZ [tchk t, lchk l]) (appL t (l.map smp))
set_option maxHeartbeats 1000000 in
theorem c14 {v w : Value} {n m : Nat} {t : List Int} {l : List Nat} (s : Sl G h 1 v m (t.map (.int .i64))) (u : Sl G h 1 w n (l.map (.float .f32))) (hm : m < 1000000) (hn : n < 1000000) (hw : Wf h) (hG : ∀ a v, laidBase a = some v → G a = some v) :
    Cf (mz G) (.func (.func 14) #[] #[]) [v, w] h fun r h' => MadeF G h' r n (appE t l) (appL t (l.map smp)) ∧ Grow h h' := by
  obtain ⟨a, c, rfl⟩ := s.form
  obtain ⟨b, d, rfl⟩ := u.form
  have ht := s.length
  have hl := u.length
  simp at hl ht
  have q30 := fun (h' : H) (g : Grow h h') => c30 (s.grow g) hm
  have q73 := fun (h' : H) (g : Grow h h') (w' : Wf h') => c73 (u.grow g) hn w' hG
  unfold appE
  by_cases hz : firstNZ [tchk t, lchk l] = 0
  · have hz2 := firstNZ_zero hz
    have z1 : tchk t = 0 := hz2 _ (by simp)
    have z2 : lchk l = 0 := hz2 _ (by simp)
    obtain ⟨k1, k2⟩ := lchk_ok z2
    obtain ⟨k3, k4, _⟩ := tchk_ok z1
    rw [z1] at q30
    rw [z2] at q73
    rw [hz]
    have hbd : ∀ x ∈ appL t (l.map smp), x.natAbs ≤ 1000000000000 := fun x hx => by
      have := appL_bound k4 (smp_bound k2) x hx
      have h2 : t.length * (16 * 16384) ≤ 8 * (16 * 16384) := Nat.mul_le_mul_right _ k3.2
      omega
    refine cf_enter0 23 [.tmp 4, .tmp 5] Tryz.func14 rfl rfl rfl rfl ?_
    repeat' (first | with_reducible refine wo_nil ?_ | ((with_reducible refine wo_any ?_); first | ((with_reducible refine ik_move ?_); refine wo_op rfl (op_move rfl) rfl rfl ?_) | ((with_reducible refine ik_assign ?_); refine wo_op rfl (op_assign rfl) rfl rfl ?_) | ((with_reducible refine ik_buildSlice ?_); refine wo_op rfl (op_buildSl rfl Tryz.underlying163 zs29 zz29 rfl rfl) rfl rfl ?_) | ((with_reducible refine ik_bin ?_); refine wo_op rfl (op_neq rfl rfl) rfl rfl ?_) | ((with_reducible refine ik_extract ?_); refine wo_op rfl (op_extract rfl rfl) rfl rfl ?_) | ((with_reducible refine ik_callv ?_); first | refine wo_op rfl (op_call rfl rfl (q30 _ gr_A)) rfl rfl ?_ | (refine wo_call rfl rfl rfl rfl (q73 _ gr_A wf_A) rfl rfl ?_; rintro _ _ ⟨rfl, hq⟩; all_goals ((try (have hqn := hq.nx)); (try simp only [H.nx_push, H.nx_set, H.nx_bump] at hqn)))) | ((with_reducible refine ik_callF (f := 72) ?_); refine wo_op rfl (op_call rfl rfl (c72 (es := [0, 0]) (n := 2) (Sl.ofAt (at_A) rfl (Nat.le_refl _)) (by omega))) rfl rfl ?_) | ((with_reducible refine ik_callF (f := 76) ?_); (refine wo_call rfl rfl rfl rfl (c76 (u.grow gr_A) hn k2 wf_A) rfl rfl ?_; rintro _ _ ⟨sl, hq⟩; all_goals ((try (have hqn := hq.nx)); (try simp only [H.nx_push, H.nx_set, H.nx_bump] at hqn)))) | ((with_reducible refine ik_callF (f := 75) ?_); (refine wo_call rfl rfl rfl rfl (c75 (s.grow gr_A) sl (by omega) (by omega) k4 (smp_bound k2) wf_A) rfl rfl ?_; rintro _ _ ⟨⟨rfl, at1⟩, hq, hw2⟩; all_goals ((try (have hqn := hq.nx)); (try simp only [H.nx_push, H.nx_set, H.nx_bump] at hqn)))) | ((with_reducible refine ik_callF (f := 74) ?_); (refine wo_call rfl rfl rfl rfl (c74m (Sl.ofAt at1 (by simp [appL_len, hl]) (Nat.le_refl _)) (by omega) wf_A hbd) rfl rfl ?_; rintro _ _ ⟨⟨U1, E1, rfl, mf⟩, hq⟩; all_goals ((try (have hqn := hq.nx)); (try simp only [H.nx_push, H.nx_set, H.nx_bump] at hqn))))) | with_reducible refine sq_norm ?_ | with_reducible refine wc_seq ?_ | with_reducible refine wc_region ?_ | with_reducible refine wc_skip ?_ | with_reducible refine wc_ret ?_ | refine wc_iff rfl ?_)
    exact rq2 rfl rfl ⟨mf, gr_A⟩
  · refine cf_enter0 23 [.tmp 4, .tmp 5] Tryz.func14 rfl rfl rfl rfl ?_
    repeat' (first | with_reducible refine wo_nil ?_ | ((with_reducible refine wo_any ?_); first | ((with_reducible refine ik_move ?_); refine wo_op rfl (op_move rfl) rfl rfl ?_) | ((with_reducible refine ik_assign ?_); refine wo_op rfl (op_assign rfl) rfl rfl ?_) | ((with_reducible refine ik_buildSlice ?_); refine wo_op rfl (op_buildSl rfl Tryz.underlying163 zs29 zz29 rfl rfl) rfl rfl ?_) | ((with_reducible refine ik_bin ?_); refine wo_op rfl (op_neq rfl rfl) rfl rfl ?_) | ((with_reducible refine ik_callv ?_); first | refine wo_op rfl (op_call rfl rfl (q30 _ gr_A)) rfl rfl ?_ | (refine wo_call rfl rfl rfl rfl (q73 _ gr_A wf_A) rfl rfl ?_; rintro _ _ ⟨rfl, hq⟩; all_goals ((try (have hqn := hq.nx)); (try simp only [H.nx_push, H.nx_set, H.nx_bump] at hqn)))) | ((with_reducible refine ik_callF (f := 72) ?_); refine wo_op rfl (op_call rfl rfl (c72 (es := [_, _]) (n := 2) (Sl.ofAt (at_A) rfl (Nat.le_refl _)) (by omega))) rfl rfl ?_)) | with_reducible refine sq_norm ?_ | with_reducible refine wc_seq ?_ | with_reducible refine wc_region ?_ | with_reducible refine wc_ret ?_ | with_reducible refine sq_ret ?_ | (refine wc_if rfl (fun hb => ?_) (fun hb => ?_) <;> (try simp only [decide_eq_true_eq, decide_eq_false_iff_not, Bool.not_eq_true', Bool.not_eq_false', Int.not_lt, Int.not_le, Decidable.not_not, not_true_eq_false, not_false_eq_true, beq_self_eq_true, reduceCtorEq] at hb) <;> (try (exfalso; omega))))
    refine rq2 rfl rfl ⟨.inl ?_, gr_A⟩
    unfold madeE
    rw [if_pos hz]
    exact ⟨hz, rfl⟩
theorem c77g {b n cap : Nat} {l : List Int} {sf : Bool} {g : H} (hat : At h b (.cells (l.map (.int .i64)) 3 1 sf)) (hg : Grow g h) (hb0 : g.nx ≤ b) (hl : l.length = n) (hn : n < 1000000) (hw : Wf h) :
    Cf (mz G) (.func (.func 77) #[] #[]) [.slice (some ⟨b, 0, some 0⟩) n cap] h fun r h' => r = packed [] ∧ At h' b (.cells (l.reverse.map (.int .i64)) 3 1 sf) ∧ Grow g h' ∧ Wf h' :=
  (c77 hat hl hn hw).mono fun r h' ⟨q, m⟩ => ⟨q, m.at_, m.grow hg hb0, m.wf hw⟩
def adjL (t l : List Int) : List Int := (appL t l.reverse).reverse
def adjE (t : List Int) (l : List Nat) : Int := madeE (firstNZ [tchk t, lchk l]) (adjL t (l.map smp))
set_option maxHeartbeats 1000000 in
theorem c17 {v w : Value} {n m : Nat} {t : List Int} {l : List Nat} (s : Sl G h 1 v m (t.map (.int .i64))) (u : Sl G h 1 w n (l.map (.float .f32))) (hm : m < 1000000) (hn : n < 1000000) (hw : Wf h) (hG : ∀ a v, laidBase a = some v → G a = some v) :
    Cf (mz G) (.func (.func 17) #[] #[]) [v, w] h fun r h' => MadeF G h' r n (adjE t l) (adjL t (l.map smp)) ∧ Grow h h' := by
  obtain ⟨a, c, rfl⟩ := s.form
  obtain ⟨b, d, rfl⟩ := u.form
  have ht := s.length
  have hl := u.length
  simp at hl ht
  have q30 := fun (h' : H) (g : Grow h h') => c30 (s.grow g) hm
  have q73 := fun (h' : H) (g : Grow h h') (w' : Wf h') => c73 (u.grow g) hn w' hG
  unfold adjE
  by_cases hz : firstNZ [tchk t, lchk l] = 0
  · have hz2 := firstNZ_zero hz
    have z1 : tchk t = 0 := hz2 _ (by simp)
    have z2 : lchk l = 0 := hz2 _ (by simp)
    obtain ⟨k1, k2⟩ := lchk_ok z2
    obtain ⟨k3, k4, _⟩ := tchk_ok z1
    rw [z1] at q30
    rw [z2] at q73
    rw [hz]
    have hrb : ∀ x ∈ (l.map smp).reverse, x.natAbs ≤ 16384 := fun x hx => smp_bound k2 x (List.mem_reverse.1 hx)
    have hbd : ∀ x ∈ adjL t (l.map smp), x.natAbs ≤ 1000000000000 := fun x hx => by
      have := appL_bound k4 hrb x (List.mem_reverse.1 hx)
      have h2 : t.length * (16 * 16384) ≤ 8 * (16 * 16384) := Nat.mul_le_mul_right _ k3.2
      omega
    refine cf_enter0 31 [.tmp 4, .tmp 5] Tryz.func17 rfl rfl rfl rfl ?_
    repeat' (first | with_reducible refine wo_nil ?_ | ((with_reducible refine wo_any ?_); first | ((with_reducible refine ik_move ?_); refine wo_op rfl (op_move rfl) rfl rfl ?_) | ((with_reducible refine ik_assign ?_); refine wo_op rfl (op_assign rfl) rfl rfl ?_) | ((with_reducible refine ik_buildSlice ?_); refine wo_op rfl (op_buildSl rfl Tryz.underlying163 zs29 zz29 rfl rfl) rfl rfl ?_) | ((with_reducible refine ik_bin ?_); refine wo_op rfl (op_neq rfl rfl) rfl rfl ?_) | ((with_reducible refine ik_extract ?_); refine wo_op rfl (op_extract rfl rfl) rfl rfl ?_) | ((with_reducible refine ik_callv ?_); first | refine wo_op rfl (op_call rfl rfl (q30 _ gr_A)) rfl rfl ?_ | (refine wo_call rfl rfl rfl rfl (q73 _ gr_A wf_A) rfl rfl ?_; rintro _ _ ⟨rfl, hq⟩; all_goals ((try (have hqn := hq.nx)); (try simp only [H.nx_push, H.nx_set, H.nx_bump] at hqn)))) | ((with_reducible refine ik_callF (f := 72) ?_); refine wo_op rfl (op_call rfl rfl (c72 (es := [0, 0]) (n := 2) (Sl.ofAt (at_A) rfl (Nat.le_refl _)) (by omega))) rfl rfl ?_) | ((with_reducible refine ik_callF (f := 76) ?_); (refine wo_call rfl rfl rfl rfl (c76o (u.grow gr_A) hn k2 wf_A) rfl rfl ?_; rintro _ _ ⟨⟨rfl, at1⟩, hq⟩; all_goals ((try (have hqn := hq.nx)); (try simp only [H.nx_push, H.nx_set, H.nx_bump] at hqn)))) | ((with_reducible refine ik_callF (f := 77) ?_); first | (refine wo_call rfl rfl rfl rfl (c77g at1 (g := h) gr_A ne_A (by simp [hl]) (by omega) wf_A) rfl rfl ?_; rintro _ _ ⟨rfl, at2, hq, hw2⟩; all_goals ((try (have hqn := hq.nx)); (try simp only [H.nx_push, H.nx_set, H.nx_bump] at hqn))) | (refine wo_call rfl rfl rfl rfl (c77g at3 (g := h) gr_A ne_A (by simp [appL_len, hl]) (by omega) wf_A) rfl rfl ?_; rintro _ _ ⟨rfl, at4, hq, hw4⟩; all_goals ((try (have hqn := hq.nx)); (try simp only [H.nx_push, H.nx_set, H.nx_bump] at hqn)))) | ((with_reducible refine ik_callF (f := 75) ?_); (refine wo_call rfl rfl rfl rfl (c75 (s.grow gr_A) (Sl.ofAt at2 (by simp [hl]) (Nat.le_refl _)) (by omega) (by omega) k4 hrb wf_A) rfl rfl ?_; rintro _ _ ⟨⟨rfl, at3⟩, hq, hw3⟩; all_goals ((try (have hqn := hq.nx)); (try simp only [H.nx_push, H.nx_set, H.nx_bump] at hqn)))) | ((with_reducible refine ik_callF (f := 74) ?_); (refine wo_call rfl rfl rfl rfl (c74m (L := adjL t (l.map smp)) (Sl.ofAt at4 (by simp [adjL, appL_len, hl]) (Nat.le_refl _)) (by omega) wf_A hbd) rfl rfl ?_; rintro _ _ ⟨⟨U1, E1, rfl, mf⟩, hq⟩; all_goals ((try (have hqn := hq.nx)); (try simp only [H.nx_push, H.nx_set, H.nx_bump] at hqn))))) | with_reducible refine sq_norm ?_ | with_reducible refine wc_seq ?_ | with_reducible refine wc_region ?_ | with_reducible refine wc_skip ?_ | with_reducible refine wc_ret ?_ | refine wc_iff rfl ?_)
    exact rq2 rfl rfl ⟨mf, gr_A⟩
  · refine cf_enter0 31 [.tmp 4, .tmp 5] Tryz.func17 rfl rfl rfl rfl ?_
    repeat' (first | with_reducible refine wo_nil ?_ | ((with_reducible refine wo_any ?_); first | ((with_reducible refine ik_move ?_); refine wo_op rfl (op_move rfl) rfl rfl ?_) | ((with_reducible refine ik_assign ?_); refine wo_op rfl (op_assign rfl) rfl rfl ?_) | ((with_reducible refine ik_buildSlice ?_); refine wo_op rfl (op_buildSl rfl Tryz.underlying163 zs29 zz29 rfl rfl) rfl rfl ?_) | ((with_reducible refine ik_bin ?_); refine wo_op rfl (op_neq rfl rfl) rfl rfl ?_) | ((with_reducible refine ik_callv ?_); first | refine wo_op rfl (op_call rfl rfl (q30 _ gr_A)) rfl rfl ?_ | (refine wo_call rfl rfl rfl rfl (q73 _ gr_A wf_A) rfl rfl ?_; rintro _ _ ⟨rfl, hq⟩; all_goals ((try (have hqn := hq.nx)); (try simp only [H.nx_push, H.nx_set, H.nx_bump] at hqn)))) | ((with_reducible refine ik_callF (f := 72) ?_); refine wo_op rfl (op_call rfl rfl (c72 (es := [_, _]) (n := 2) (Sl.ofAt (at_A) rfl (Nat.le_refl _)) (by omega))) rfl rfl ?_)) | with_reducible refine sq_norm ?_ | with_reducible refine wc_seq ?_ | with_reducible refine wc_region ?_ | with_reducible refine wc_ret ?_ | with_reducible refine sq_ret ?_ | (refine wc_if rfl (fun hb => ?_) (fun hb => ?_) <;> (try simp only [decide_eq_true_eq, decide_eq_false_iff_not, Bool.not_eq_true', Bool.not_eq_false', Int.not_lt, Int.not_le, Decidable.not_not, not_true_eq_false, not_false_eq_true, beq_self_eq_true, reduceCtorEq] at hb) <;> (try (exfalso; omega))))
    refine rq2 rfl rfl ⟨.inl ?_, gr_A⟩
    unfold madeE
    rw [if_pos hz]
    exact ⟨hz, rfl⟩
end Go.Proofs.YtccdcekcbbpohaaGreatDoor

/- Inner products; what the law asks at its beginning. -/
namespace Go.Proofs.YtccdcekcbbpohaaGreatDoor
open Go Go.Ab Go.Fl
attribute [local irreducible] SeqQ BlkQ LpQ RetQ Wc Wo WD WX Op1 Op1q Op1a Cf Cl From
attribute [local irreducible] Ieee.Format.order Ieee.Format.read Ieee.Format.nearest Ieee.Format.write Ieee.Format.mul Ieee.Format.div Ieee.Datum.order Ieee.Datum.integral smpE smp smpW K J U sumN lchk tchk trE hdrE appL
set_option maxRecDepth 10000
variable {G : Base} {h : H}

def innL (a b : List Int) : Int := sumN a.length (fun k => a.getD k 0 * b.getD k 0)
theorem inn_bound {a b : List Int} {A C : Nat} (ha : ∀ x ∈ a, x.natAbs ≤ A) (hc : ∀ x ∈ b, x.natAbs ≤ C) (k : Nat) : (a.getD k 0 * b.getD k 0).natAbs ≤ A * C := prod_bound (getD_bound ha _) (getD_bound hc _)
set_option maxHeartbeats 1000000 in
theorem c79 {v w : Value} {n : Nat} {x y : List Int} (s : Sl G h 1 v n (x.map (.int .i64))) (u : Sl G h 1 w n (y.map (.int .i64))) (hn : n ≤ 1024) (hx0 : ∀ z ∈ x, z.natAbs ≤ 32768) (hy0 : ∀ z ∈ y, z.natAbs ≤ 32768) :
    Cf (mz G) (.func (.func 79) #[] #[]) [v, w] h fun r h' => r = .int .i64 (innL x y) ∧ Grow h h' := by
  obtain ⟨a, c, rfl⟩ := s.form
  obtain ⟨b, d, rfl⟩ := u.form
  have hx := s.length
  have hy := u.length
  simp at hx hy
  have hB := inn_bound hx0 hy0
  refine cf_enter0 25 [.tmp 4] Tryz.func79 rfl rfl rfl rfl ?_
  repeat' (first | with_reducible refine wo_nil ?_ | ((with_reducible refine wo_any ?_); first | ((with_reducible refine ik_move ?_); refine wo_op rfl (op_move rfl) rfl rfl ?_) | ((with_reducible refine ik_assign ?_); refine wo_op rfl (op_assign rfl) rfl rfl ?_) | ((with_reducible refine ik_callb ?_); refine wo_op rfl (op_lenSl rfl Tryz.underlying22) rfl rfl ?_)) | with_reducible refine sq_norm ?_ | with_reducible refine wc_seq ?_ | with_reducible refine wc_region ?_ | with_reducible refine wc_block ?_)
  refine wc_loop (fun p : Nat × Int => n - p.1) (fun p => [(1, .slice b n d), (5, .int .i64 p.2), (8, .slice a n c), (9, .int .i64 n), (10, .int .i64 (p.1 : Nat))])
    (fun p h' => Grow h h' ∧ p.1 ≤ n ∧ sumN p.1 (fun k => x.getD k 0 * y.getD k 0) = p.2) (0, 0) (within_lk ⟨rfl, rfl, rfl, rfl, rfl, trivial⟩) ⟨gr_A, Nat.zero_le _, by unfold sumN; rfl⟩ ?_
  rintro ⟨i, S⟩ h1 ⟨hgr, hi, hS⟩
  simp only at hgr hi hS ⊢
  by_cases hlt : i < n
  · obtain ⟨ad, i1, i3⟩ := slI_at (s.grow hgr) (i := (i : Int)) (q := i) (by omega) rfl
    obtain ⟨bd, g1, g3⟩ := slI_at (u.grow hgr) (i := (i : Int)) (q := i) (by omega) rfl
    have hsb : (sumN i (fun k => x.getD k 0 * y.getD k 0)).natAbs ≤ i * (32768 * 32768) := sumN_bound fun k _ => hB k
    have hst : sumN (i + 1) (fun k => x.getD k 0 * y.getD k 0) = S + x.getD i 0 * y.getD i 0 := by rw [sumN, hS]
    have hpb := hB i
    obtain ⟨p, hp⟩ : ∃ p, x.getD i 0 = p := ⟨_, rfl⟩
    obtain ⟨q, hq⟩ : ∃ q, y.getD i 0 = q := ⟨_, rfl⟩
    rw [hp] at i3 hst hpb
    rw [hq] at g3 hst hpb
    rw [hS] at hsb
    repeat' (first | with_reducible refine wo_nil ?_ | ((with_reducible refine wo_any ?_); first | ((with_reducible refine ik_move ?_); refine wo_op rfl (op_move rfl) rfl rfl ?_) | ((with_reducible refine ik_assign ?_); refine wo_op rfl (op_assign rfl) rfl rfl ?_) | ((with_reducible refine ik_indexAddr ?_); first | refine wo_op rfl (op_indexAddr rfl rfl i1) rfl rfl ?_ | refine wo_op rfl (op_indexAddr rfl rfl g1) rfl rfl ?_) | ((with_reducible refine ik_load ?_); first | refine wo_op rfl (op_ldCell rfl Tryz.underlying3 rfl i3) rfl rfl ?_ | refine wo_op rfl (op_ldCell rfl Tryz.underlying3 rfl g3) rfl rfl ?_) | ((with_reducible refine ik_bin ?_); first | refine wo_op rfl (op_lss rfl rfl) rfl rfl ?_ | refine wo_op rfl (op_mul' rfl rfl (w64 (by omega) (by omega))) rfl rfl ?_ | refine wo_op rfl (op_add' rfl rfl (w64 (by omega) (by omega))) rfl rfl ?_)) | with_reducible refine sq_norm ?_ | with_reducible refine wc_seq ?_ | with_reducible refine wc_region ?_ | with_reducible refine wc_skip ?_ | with_reducible refine wc_block ?_ | with_reducible refine bq_norm ?_ | (refine wc_if rfl (fun hb => ?_) (fun hb => ?_) <;> (try simp only [decide_eq_true_eq, decide_eq_false_iff_not, Bool.not_eq_true', Bool.not_eq_false', Int.not_lt, Int.not_le, Decidable.not_not, not_true_eq_false, not_false_eq_true, beq_self_eq_true, reduceCtorEq] at hb) <;> (try (exfalso; omega))))
    exact lq_norm (i + 1, S + p * q) (by simp only; omega) (within_lk ⟨rfl, rfl, rfl, rfl, rfl, trivial⟩) ⟨gr_A, by simp only; omega, hst⟩
  · have hin : i = n := by omega
    subst hin
    repeat' (first | with_reducible refine wo_nil ?_ | ((with_reducible refine wo_any ?_); first | ((with_reducible refine ik_move ?_); refine wo_op rfl (op_move rfl) rfl rfl ?_) | ((with_reducible refine ik_assign ?_); refine wo_op rfl (op_assign rfl) rfl rfl ?_) | ((with_reducible refine ik_bin ?_); refine wo_op rfl (op_lss rfl rfl) rfl rfl ?_)) | with_reducible refine sq_norm ?_ | with_reducible refine wc_seq ?_ | with_reducible refine wc_region ?_ | with_reducible refine wc_ret ?_ | with_reducible refine wc_exit ?_ | with_reducible refine sq_exit ?_ | with_reducible refine lq_exit ?_ | refine bq_eq rfl ?_ | (refine wc_if rfl (fun hb => ?_) (fun hb => ?_) <;> (try simp only [decide_eq_true_eq, decide_eq_false_iff_not, Bool.not_eq_true', Bool.not_eq_false', Int.not_lt, Int.not_le, Decidable.not_not, not_true_eq_false, not_false_eq_true, beq_self_eq_true, reduceCtorEq] at hb) <;> (try (exfalso; omega))))
    refine rq1 rfl ⟨?_, hgr⟩
    unfold innL; rw [hx, hS]
def pairE (l m : List Nat) : Int := if firstNZ [lchk l, lchk m] ≠ 0 then firstNZ [lchk l, lchk m] else if l.length ≠ m.length then 2 else 0
set_option maxHeartbeats 1000000 in
theorem c78 {v w : Value} {n m : Nat} {l k : List Nat} (s : Sl G h 1 v n (l.map (.float .f32))) (u : Sl G h 1 w m (k.map (.float .f32))) (hn : n < 1000000) (hm : m < 1000000) (hw : Wf h) (hG : ∀ a v, laidBase a = some v → G a = some v) :
    Cf (mz G) (.func (.func 78) #[] #[]) [v, w] h fun r h' => r = .int .i64 (pairE l k) ∧ Grow h h' := by
  obtain ⟨a, c, rfl⟩ := s.form
  obtain ⟨b, d, rfl⟩ := u.form
  have hl := s.length
  have hk := u.length
  simp at hl hk
  have q73 := fun (h' : H) (g : Grow h h') (w' : Wf h') => c73 (s.grow g) hn w' hG
  have r73 := fun (h' : H) (g : Grow h h') (w' : Wf h') => c73 (u.grow g) hm w' hG
  unfold pairE
  by_cases hz : firstNZ [lchk l, lchk k] = 0
  · have hz2 := firstNZ_zero hz
    have z1 : lchk l = 0 := hz2 _ (by simp)
    have z2 : lchk k = 0 := hz2 _ (by simp)
    rw [if_neg (by simpa using hz)]
    rw [z1] at q73
    rw [z2] at r73
    by_cases hne : n = m
    · rw [if_neg (by omega)]
      refine cf_enter0 20 [.tmp 4] Tryz.func78 rfl rfl rfl rfl ?_
      repeat' (first | with_reducible refine wo_nil ?_ | ((with_reducible refine wo_any ?_); first | ((with_reducible refine ik_move ?_); refine wo_op rfl (op_move rfl) rfl rfl ?_) | ((with_reducible refine ik_assign ?_); refine wo_op rfl (op_assign rfl) rfl rfl ?_) | ((with_reducible refine ik_buildSlice ?_); refine wo_op rfl (op_buildSl rfl Tryz.underlying163 zs29 zz29 rfl rfl) rfl rfl ?_) | ((with_reducible refine ik_bin ?_); refine wo_op rfl (op_neq rfl rfl) rfl rfl ?_) | ((with_reducible refine ik_callb ?_); refine wo_op rfl (op_lenSl rfl Tryz.underlying23) rfl rfl ?_) | ((with_reducible refine ik_callF (f := 72) ?_); refine wo_op rfl (op_call rfl rfl (c72 (es := [0, 0]) (n := 2) (Sl.ofAt (at_A) rfl (Nat.le_refl _)) (by omega))) rfl rfl ?_) | ((with_reducible refine ik_callv ?_); first | (refine wo_call rfl rfl rfl rfl (q73 _ gr_A wf_A) rfl rfl ?_; rintro _ _ ⟨rfl, hq⟩; all_goals ((try (have hqn := hq.nx)); (try simp only [H.nx_push, H.nx_set, H.nx_bump] at hqn))) | (refine wo_call rfl rfl rfl rfl (r73 _ gr_A wf_A) rfl rfl ?_; rintro _ _ ⟨rfl, hq⟩; all_goals ((try (have hqn := hq.nx)); (try simp only [H.nx_push, H.nx_set, H.nx_bump] at hqn))))) | with_reducible refine sq_norm ?_ | with_reducible refine wc_seq ?_ | with_reducible refine wc_region ?_ | with_reducible refine wc_skip ?_ | with_reducible refine wc_ret ?_ | refine wc_iff rfl ?_ | (refine wc_if rfl (fun hb => ?_) (fun hb => ?_) <;> (try simp only [decide_eq_true_eq, decide_eq_false_iff_not, Bool.not_eq_true', Bool.not_eq_false', Int.not_lt, Int.not_le, Decidable.not_not, not_true_eq_false, not_false_eq_true, beq_self_eq_true, reduceCtorEq] at hb) <;> (try (exfalso; omega))))
      exact rq1 rfl ⟨rfl, gr_A⟩
    · rw [if_pos (by omega)]
      refine cf_enter0 20 [.tmp 4] Tryz.func78 rfl rfl rfl rfl ?_
      repeat' (first | with_reducible refine wo_nil ?_ | ((with_reducible refine wo_any ?_); first | ((with_reducible refine ik_move ?_); refine wo_op rfl (op_move rfl) rfl rfl ?_) | ((with_reducible refine ik_assign ?_); refine wo_op rfl (op_assign rfl) rfl rfl ?_) | ((with_reducible refine ik_buildSlice ?_); refine wo_op rfl (op_buildSl rfl Tryz.underlying163 zs29 zz29 rfl rfl) rfl rfl ?_) | ((with_reducible refine ik_bin ?_); refine wo_op rfl (op_neq rfl rfl) rfl rfl ?_) | ((with_reducible refine ik_callb ?_); refine wo_op rfl (op_lenSl rfl Tryz.underlying23) rfl rfl ?_) | ((with_reducible refine ik_callF (f := 72) ?_); refine wo_op rfl (op_call rfl rfl (c72 (es := [0, 0]) (n := 2) (Sl.ofAt (at_A) rfl (Nat.le_refl _)) (by omega))) rfl rfl ?_) | ((with_reducible refine ik_callv ?_); first | (refine wo_call rfl rfl rfl rfl (q73 _ gr_A wf_A) rfl rfl ?_; rintro _ _ ⟨rfl, hq⟩; all_goals ((try (have hqn := hq.nx)); (try simp only [H.nx_push, H.nx_set, H.nx_bump] at hqn))) | (refine wo_call rfl rfl rfl rfl (r73 _ gr_A wf_A) rfl rfl ?_; rintro _ _ ⟨rfl, hq⟩; all_goals ((try (have hqn := hq.nx)); (try simp only [H.nx_push, H.nx_set, H.nx_bump] at hqn))))) | with_reducible refine sq_norm ?_ | with_reducible refine wc_seq ?_ | with_reducible refine wc_region ?_ | with_reducible refine wc_skip ?_ | with_reducible refine wc_ret ?_ | with_reducible refine sq_ret ?_ | refine wc_iff rfl ?_ | (refine wc_if rfl (fun hb => ?_) (fun hb => ?_) <;> (try simp only [decide_eq_true_eq, decide_eq_false_iff_not, Bool.not_eq_true', Bool.not_eq_false', Int.not_lt, Int.not_le, Decidable.not_not, not_true_eq_false, not_false_eq_true, beq_self_eq_true, reduceCtorEq] at hb) <;> (try (exfalso; omega))))
      exact rq1 rfl ⟨rfl, gr_A⟩
  · rw [if_pos hz]
    refine cf_enter0 20 [.tmp 4] Tryz.func78 rfl rfl rfl rfl ?_
    repeat' (first | with_reducible refine wo_nil ?_ | ((with_reducible refine wo_any ?_); first | ((with_reducible refine ik_move ?_); refine wo_op rfl (op_move rfl) rfl rfl ?_) | ((with_reducible refine ik_assign ?_); refine wo_op rfl (op_assign rfl) rfl rfl ?_) | ((with_reducible refine ik_buildSlice ?_); refine wo_op rfl (op_buildSl rfl Tryz.underlying163 zs29 zz29 rfl rfl) rfl rfl ?_) | ((with_reducible refine ik_bin ?_); refine wo_op rfl (op_neq rfl rfl) rfl rfl ?_) | ((with_reducible refine ik_callF (f := 72) ?_); refine wo_op rfl (op_call rfl rfl (c72 (es := [_, _]) (n := 2) (Sl.ofAt (at_A) rfl (Nat.le_refl _)) (by omega))) rfl rfl ?_) | ((with_reducible refine ik_callv ?_); first | (refine wo_call rfl rfl rfl rfl (q73 _ gr_A wf_A) rfl rfl ?_; rintro _ _ ⟨rfl, hq⟩; all_goals ((try (have hqn := hq.nx)); (try simp only [H.nx_push, H.nx_set, H.nx_bump] at hqn))) | (refine wo_call rfl rfl rfl rfl (r73 _ gr_A wf_A) rfl rfl ?_; rintro _ _ ⟨rfl, hq⟩; all_goals ((try (have hqn := hq.nx)); (try simp only [H.nx_push, H.nx_set, H.nx_bump] at hqn))))) | with_reducible refine sq_norm ?_ | with_reducible refine wc_seq ?_ | with_reducible refine wc_region ?_ | with_reducible refine wc_ret ?_ | with_reducible refine sq_ret ?_ | (refine wc_if rfl (fun hb => ?_) (fun hb => ?_) <;> (try simp only [decide_eq_true_eq, decide_eq_false_iff_not, Bool.not_eq_true', Bool.not_eq_false', Int.not_lt, Int.not_le, Decidable.not_not, not_true_eq_false, not_false_eq_true, beq_self_eq_true, reduceCtorEq] at hb) <;> (try (exfalso; omega))))
    exact rq1 rfl ⟨rfl, gr_A⟩
set_option maxHeartbeats 1000000 in
theorem c18 {v w : Value} {n m : Nat} {l k : List Nat} (s : Sl G h 1 v n (l.map (.float .f32))) (u : Sl G h 1 w m (k.map (.float .f32))) (hn : n < 1000000) (hm : m < 1000000) (hw : Wf h) (hG : ∀ a v, laidBase a = some v → G a = some v) :
    Cf (mz G) (.func (.func 18) #[] #[]) [v, w] h fun r h' => r = .tuple #[.int .i64 (if pairE l k ≠ 0 then 0 else innL (l.map smp) (k.map smp)), .int .i64 (pairE l k)] ∧ Grow h h' := by
  obtain ⟨a, c, rfl⟩ := s.form
  obtain ⟨b, d, rfl⟩ := u.form
  have hl := s.length
  have hk := u.length
  simp at hl hk
  have q78 := fun (h' : H) (g : Grow h h') (w' : Wf h') => c78 (s.grow g) (u.grow g) hn hm w' hG
  obtain ⟨E, hE⟩ : ∃ E, pairE l k = E := ⟨_, rfl⟩
  rw [hE] at q78 ⊢
  by_cases hz : E = 0
  · subst hz
    have hp : (lchk l = 0 ∧ lchk k = 0) ∧ l.length = k.length := by
      unfold pairE at hE
      split at hE
      · rename_i q; exact absurd hE q
      · rename_i q
        have hz2 := firstNZ_zero (show firstNZ [lchk l, lchk k] = 0 by simpa using q)
        split at hE
        · exact absurd hE (by decide)
        · rename_i q2
          exact ⟨⟨hz2 _ (by simp), hz2 _ (by simp)⟩, by simpa using q2⟩
    obtain ⟨⟨z1, z2⟩, z3⟩ := hp
    obtain ⟨k1, k2⟩ := lchk_ok z1
    obtain ⟨k3, k4⟩ := lchk_ok z2
    have b1 : ∀ x ∈ l.map smp, x.natAbs ≤ 32768 := fun x hx => Nat.le_trans (smp_bound k2 x hx) (by decide)
    have b2 : ∀ x ∈ k.map smp, x.natAbs ≤ 32768 := fun x hx => Nat.le_trans (smp_bound k4 x hx) (by decide)
    have hnm : m = n := by omega
    subst hnm
    rw [if_neg (by simp)]
    refine cf_enter0 18 [.tmp 4, .tmp 5] Tryz.func18 rfl rfl rfl rfl ?_
    repeat' (first | with_reducible refine wo_nil ?_ | ((with_reducible refine wo_any ?_); first | ((with_reducible refine ik_move ?_); refine wo_op rfl (op_move rfl) rfl rfl ?_) | ((with_reducible refine ik_assign ?_); refine wo_op rfl (op_assign rfl) rfl rfl ?_) | ((with_reducible refine ik_bin ?_); refine wo_op rfl (op_neq rfl rfl) rfl rfl ?_) | ((with_reducible refine ik_callv ?_); (refine wo_call rfl rfl rfl rfl (q78 _ gr_A wf_A) rfl rfl ?_; rintro _ _ ⟨rfl, hq⟩; all_goals ((try (have hqn := hq.nx)); (try simp only [H.nx_push, H.nx_set, H.nx_bump] at hqn)))) | ((with_reducible refine ik_callF (f := 76) ?_); first | (refine wo_call rfl rfl rfl rfl (c76 (s.grow gr_A) hn k2 wf_A) rfl rfl ?_; rintro _ _ ⟨sl, hq⟩; all_goals ((try (have hqn := hq.nx)); (try simp only [H.nx_push, H.nx_set, H.nx_bump] at hqn))) | (refine wo_call rfl rfl rfl rfl (c76 (u.grow gr_A) hn k4 wf_A) rfl rfl ?_; rintro _ _ ⟨su, hq⟩; all_goals ((try (have hqn := hq.nx)); (try simp only [H.nx_push, H.nx_set, H.nx_bump] at hqn)))) | ((with_reducible refine ik_callF (f := 79) ?_); (refine wo_call rfl rfl rfl rfl (c79 (sl.grow gr_A) su (by omega) b1 b2) rfl rfl ?_; rintro _ _ ⟨rfl, hq⟩; all_goals ((try (have hqn := hq.nx)); (try simp only [H.nx_push, H.nx_set, H.nx_bump] at hqn))))) | with_reducible refine sq_norm ?_ | with_reducible refine wc_seq ?_ | with_reducible refine wc_region ?_ | with_reducible refine wc_skip ?_ | with_reducible refine wc_ret ?_ | refine wc_iff rfl ?_)
    exact rq2 rfl rfl ⟨rfl, gr_A⟩
  · rw [if_pos hz]
    refine cf_enter0 18 [.tmp 4, .tmp 5] Tryz.func18 rfl rfl rfl rfl ?_
    repeat' (first | with_reducible refine wo_nil ?_ | ((with_reducible refine wo_any ?_); first | ((with_reducible refine ik_move ?_); refine wo_op rfl (op_move rfl) rfl rfl ?_) | ((with_reducible refine ik_assign ?_); refine wo_op rfl (op_assign rfl) rfl rfl ?_) | ((with_reducible refine ik_bin ?_); refine wo_op rfl (op_neq rfl rfl) rfl rfl ?_) | ((with_reducible refine ik_callv ?_); (refine wo_call rfl rfl rfl rfl (q78 _ gr_A wf_A) rfl rfl ?_; rintro _ _ ⟨rfl, hq⟩; all_goals ((try (have hqn := hq.nx)); (try simp only [H.nx_push, H.nx_set, H.nx_bump] at hqn))))) | with_reducible refine sq_norm ?_ | with_reducible refine wc_seq ?_ | with_reducible refine wc_region ?_ | with_reducible refine wc_ret ?_ | with_reducible refine sq_ret ?_ | (refine wc_if rfl (fun hb => ?_) (fun hb => ?_) <;> (try simp only [decide_eq_true_eq, decide_eq_false_iff_not, Bool.not_eq_true', Bool.not_eq_false', Int.not_lt, Int.not_le, Decidable.not_not, not_true_eq_false, not_false_eq_true, beq_self_eq_true, reduceCtorEq] at hb) <;> (try (exfalso; omega))))
    exact rq2 rfl rfl ⟨rfl, gr_A⟩

/-! the tests of the law -/
theorem c11 {a : Option Addr} {n c : Nat} : Cl (mz G) (.func (.func 11) #[] #[]) [.slice a n c] h (.bool (decide (n ≤ 9))) h := by
  refine cl_of_cf (cf_enter0 6 [.tmp 2] Tryz.func11 rfl rfl rfl rfl ?_)
  repeat' (first | with_reducible refine wo_nil ?_ | ((with_reducible refine wo_any ?_); first | ((with_reducible refine ik_move ?_); refine wo_op rfl (op_move rfl) rfl rfl ?_) | ((with_reducible refine ik_assign ?_); refine wo_op rfl (op_assign rfl) rfl rfl ?_) | ((with_reducible refine ik_callb ?_); refine wo_op rfl (op_lenSl rfl Tryz.underlying22) rfl rfl ?_) | ((with_reducible refine ik_bin ?_); refine wo_op rfl (op_leq rfl rfl) rfl rfl ?_)) | with_reducible refine sq_norm ?_ | with_reducible refine wc_seq ?_ | with_reducible refine wc_region ?_ | with_reducible refine wc_ret ?_)
  all_goals refine rq1 rfl ⟨?_, rfl⟩
  all_goals first
    | rfl
    | (congr 1; rw [decide_eq_decide]; omega)
def quietB (l : List Nat) (L : Nat) : Bool := decide (l.length ≤ 24 ∧ firstNZ (l.map smpE) = 0 ∧ ∀ z ∈ l, (smp z).natAbs ≤ L)
set_option maxHeartbeats 1000000 in
theorem c13 {v : Value} {n L : Nat} {l : List Nat} (s : Sl G h 1 v n (l.map (.float .f32))) (hL : L ≤ 16384) : Cl (mz G) (.func (.func 13) #[] #[]) [v, .int .i64 L] h (.bool (quietB l L)) h := by
  obtain ⟨a, c, rfl⟩ := s.form
  have hl := s.length
  simp at hl
  unfold quietB
  by_cases hbig : 24 < n
  · rw [decide_eq_false (fun q => by omega)]
    refine cl_of_cf (cf_enter0 34 [.tmp 4] Tryz.func13 rfl rfl rfl rfl ?_)
    repeat' (first | with_reducible refine wo_nil ?_ | ((with_reducible refine wo_any ?_); first | ((with_reducible refine ik_move ?_); refine wo_op rfl (op_move rfl) rfl rfl ?_) | ((with_reducible refine ik_assign ?_); refine wo_op rfl (op_assign rfl) rfl rfl ?_) | ((with_reducible refine ik_callb ?_); refine wo_op rfl (op_lenSl rfl Tryz.underlying23) rfl rfl ?_) | ((with_reducible refine ik_bin ?_); refine wo_op rfl (op_gtr rfl rfl) rfl rfl ?_) | ((with_reducible refine ik_pick ?_); refine wo_op rfl (op_pickt rfl rfl) rfl rfl ?_) | ((with_reducible refine ik_g ?_); first | refine wo_gskip rfl rfl rfl rfl rfl rfl ?_ | (refine wo_gsplit rfl rfl rfl (fun hb => ?_) (fun hb => ?_) <;> (try simp only [decide_eq_true_eq, decide_eq_false_iff_not, Bool.not_eq_true', Bool.not_eq_false', Int.not_lt, Int.not_le, Decidable.not_not, not_true_eq_false, not_false_eq_true, beq_self_eq_true, reduceCtorEq] at hb) <;> (try (exfalso; omega))))) | with_reducible refine sq_norm ?_ | with_reducible refine wc_seq ?_ | with_reducible refine wc_region ?_ | with_reducible refine wc_ret ?_ | with_reducible refine sq_ret ?_ | refine wc_ift rfl ?_)
    exact rq1 rfl ⟨rfl, rfl⟩
  have q70 := c70 s (by omega)
  by_cases h0 : l.length ≤ 24 ∧ firstNZ (l.map smpE) = 0
  · obtain ⟨h0, h1⟩ := h0
    have hs := firstNZ_zero h1
    rw [h1] at q70
    refine cl_of_cf (cf_enter0 34 [.tmp 4] Tryz.func13 rfl rfl rfl rfl ?_)
    repeat' (first | with_reducible refine wo_nil ?_ | ((with_reducible refine wo_any ?_); first | ((with_reducible refine ik_move ?_); refine wo_op rfl (op_move rfl) rfl rfl ?_) | ((with_reducible refine ik_assign ?_); refine wo_op rfl (op_assign rfl) rfl rfl ?_) | ((with_reducible refine ik_callb ?_); refine wo_op rfl (op_lenSl rfl Tryz.underlying23) rfl rfl ?_) | ((with_reducible refine ik_bin ?_); refine wo_op rfl (op_gtr rfl rfl) rfl rfl ?_) | ((with_reducible refine ik_pick ?_); refine wo_op rfl (op_pickf rfl rfl) rfl rfl ?_) | ((with_reducible refine ik_g ?_); first | ((with_reducible refine ig_move ?_); refine wo_grun rfl rfl rfl (op_move rfl) rfl rfl ?_) | ((with_reducible refine ig_bin ?_); refine wo_grun rfl rfl rfl (op_neq rfl rfl) rfl rfl ?_) | ((with_reducible refine ig_callv ?_); refine wo_grun rfl rfl rfl (op_call rfl rfl (q70)) rfl rfl ?_) | (refine wo_gsplit rfl rfl rfl (fun hb => ?_) (fun hb => ?_) <;> (try simp only [decide_eq_true_eq, decide_eq_false_iff_not, Bool.not_eq_true', Bool.not_eq_false', Int.not_lt, Int.not_le, Decidable.not_not, not_true_eq_false, not_false_eq_true, beq_self_eq_true, reduceCtorEq] at hb) <;> (try (exfalso; omega))))) | with_reducible refine sq_norm ?_ | with_reducible refine wc_seq ?_ | with_reducible refine wc_region ?_ | with_reducible refine wc_skip ?_ | with_reducible refine wc_block ?_ | refine wc_iff rfl ?_)
    refine wc_loop (fun k => n - k) (fun k : Nat => [(1, .int .i64 L), (16, .slice a n c), (17, .int .i64 n), (18, .int .i64 k)]) (fun k h' => h' = h ∧ k ≤ n ∧ ∀ i (q : i < l.length), i < k → (smp l[i]).natAbs ≤ L) 0 (within_lk ⟨rfl, rfl, rfl, rfl, trivial⟩) ⟨rfl, Nat.zero_le _, fun i _ q => by omega⟩ ?_
    rintro k h' ⟨rfl, hk, hi⟩
    by_cases hlt : k < n
    · obtain ⟨ad, i1, i3⟩ := sl_at s (i := (k : Int)) hlt rfl
      have hx0 : smpE (l[k]'(by omega)) = 0 := hs _ (List.mem_map_of_mem (List.getElem_mem _))
      have hm : l[k]'(by omega) ∈ l := List.getElem_mem _
      have q71 := fun (h : H) => c71 (G := G) (h := h) hx0
      obtain ⟨_, _, _, _, _, b1, b2⟩ := smp_read hx0
      obtain ⟨x, hx⟩ : ∃ x, smp (l[k]'(by omega)) = x := ⟨_, rfl⟩
      rw [hx] at q71 b1 b2
      by_cases hg : x.natAbs ≤ L
      · repeat' (first | with_reducible refine wo_nil ?_ | ((with_reducible refine wo_any ?_); first | ((with_reducible refine ik_move ?_); refine wo_op rfl (op_move rfl) rfl rfl ?_) | ((with_reducible refine ik_assign ?_); refine wo_op rfl (op_assign rfl) rfl rfl ?_) | ((with_reducible refine ik_indexAddr ?_); refine wo_op rfl (op_indexAddr rfl rfl i1) rfl rfl ?_) | ((with_reducible refine ik_load ?_); refine wo_op rfl (op_ldCell rfl Tryz.underlying36 rfl i3) rfl rfl ?_) | ((with_reducible refine ik_bin ?_); first | refine wo_op rfl (op_gtr rfl rfl) rfl rfl ?_ | refine wo_op rfl (op_lss rfl rfl) rfl rfl ?_ | refine wo_op rfl (op_add' rfl rfl (w64 (by omega) (by omega))) rfl rfl ?_) | ((with_reducible refine ik_pick ?_); refine wo_op rfl (op_pickf rfl rfl) rfl rfl ?_) | ((with_reducible refine ik_callv ?_); refine wo_op rfl (op_call rfl rfl (q71 _)) rfl rfl ?_) | ((with_reducible refine ik_g ?_); first | ((with_reducible refine ig_move ?_); refine wo_grun rfl rfl rfl (op_move rfl) rfl rfl ?_) | ((with_reducible refine ig_bin ?_); refine wo_grun rfl rfl rfl (op_lss rfl rfl) rfl rfl ?_) | ((with_reducible refine ig_un ?_); refine wo_grun rfl rfl rfl (op_neg' rfl (w64 (by omega) (by omega))) rfl rfl ?_) | (refine wo_gsplit rfl rfl rfl (fun hb => dead_A hb) (fun hb => ?_); (try simp only [decide_eq_true_eq, decide_eq_false_iff_not, Bool.not_eq_true', Bool.not_eq_false', Int.not_lt, Int.not_le, Decidable.not_not, not_true_eq_false, not_false_eq_true, beq_self_eq_true, reduceCtorEq] at hb)))) | with_reducible refine sq_norm ?_ | with_reducible refine wc_seq ?_ | with_reducible refine wc_region ?_ | with_reducible refine wc_skip ?_ | with_reducible refine wc_block ?_ | with_reducible refine bq_norm ?_ | (refine wc_if rfl (fun hb => dead_A hb) (fun hb => ?_); (try simp only [decide_eq_true_eq, decide_eq_false_iff_not, Bool.not_eq_true', Bool.not_eq_false', Int.not_lt, Int.not_le, Decidable.not_not, not_true_eq_false, not_false_eq_true, beq_self_eq_true, reduceCtorEq] at hb)) | (refine wc_if rfl (fun hb => ?_) (fun hb => dead_A hb); (try simp only [decide_eq_true_eq, decide_eq_false_iff_not, Bool.not_eq_true', Bool.not_eq_false', Int.not_lt, Int.not_le, Decidable.not_not, not_true_eq_false, not_false_eq_true, beq_self_eq_true, reduceCtorEq] at hb)))
        refine lq_norm (k + 1) (by omega) (within_lk ⟨rfl, rfl, rfl, rfl, trivial⟩) ⟨rfl, by omega, fun i q qi => ?_⟩
        by_cases hik : i < k
        · exact hi i q hik
        · have : i = k := by omega
          subst this
          rw [hx]; exact hg
      · repeat' (first | with_reducible refine wo_nil ?_ | ((with_reducible refine wo_any ?_); first | ((with_reducible refine ik_move ?_); refine wo_op rfl (op_move rfl) rfl rfl ?_) | ((with_reducible refine ik_assign ?_); refine wo_op rfl (op_assign rfl) rfl rfl ?_) | ((with_reducible refine ik_indexAddr ?_); refine wo_op rfl (op_indexAddr rfl rfl i1) rfl rfl ?_) | ((with_reducible refine ik_load ?_); refine wo_op rfl (op_ldCell rfl Tryz.underlying36 rfl i3) rfl rfl ?_) | ((with_reducible refine ik_bin ?_); first | refine wo_op rfl (op_gtr rfl rfl) rfl rfl ?_ | refine wo_op rfl (op_lss rfl rfl) rfl rfl ?_) | ((with_reducible refine ik_pick ?_); first | refine wo_op rfl (op_pickt rfl rfl) rfl rfl ?_ | refine wo_op rfl (op_pickf rfl rfl) rfl rfl ?_) | ((with_reducible refine ik_callv ?_); refine wo_op rfl (op_call rfl rfl (q71 _)) rfl rfl ?_) | ((with_reducible refine ik_g ?_); first | refine wo_gskip rfl rfl rfl rfl rfl rfl ?_ | ((with_reducible refine ig_move ?_); refine wo_grun rfl rfl rfl (op_move rfl) rfl rfl ?_) | ((with_reducible refine ig_bin ?_); refine wo_grun rfl rfl rfl (op_lss rfl rfl) rfl rfl ?_) | ((with_reducible refine ig_un ?_); refine wo_grun rfl rfl rfl (op_neg' rfl (w64 (by omega) (by omega))) rfl rfl ?_) | (refine wo_gsplit rfl rfl rfl (fun hb => ?_) (fun hb => ?_) <;> (try simp only [decide_eq_true_eq, decide_eq_false_iff_not, Bool.not_eq_true', Bool.not_eq_false', Int.not_lt, Int.not_le, Decidable.not_not, not_true_eq_false, not_false_eq_true, beq_self_eq_true, reduceCtorEq] at hb) <;> (try (exfalso; omega))))) | with_reducible refine sq_norm ?_ | with_reducible refine wc_seq ?_ | with_reducible refine wc_region ?_ | with_reducible refine wc_skip ?_ | with_reducible refine wc_ret ?_ | with_reducible refine wc_block ?_ | with_reducible refine bq_ret ?_ | with_reducible refine sq_ret ?_ | with_reducible refine lq_ret ?_ | refine wc_ift rfl ?_ | (refine wc_if rfl (fun hb => ?_) (fun hb => ?_) <;> (try simp only [decide_eq_true_eq, decide_eq_false_iff_not, Bool.not_eq_true', Bool.not_eq_false', Int.not_lt, Int.not_le, Decidable.not_not, not_true_eq_false, not_false_eq_true, beq_self_eq_true, reduceCtorEq] at hb) <;> (try (exfalso; omega))))
        all_goals
          refine rq1 rfl ⟨?_, rfl⟩
          rw [decide_eq_false (fun q => hg (by rw [← hx]; exact q.2.2 _ hm))]
    · have hkn : k = n := by omega
      subst hkn
      repeat' (first | with_reducible refine wo_nil ?_ | ((with_reducible refine wo_any ?_); first | ((with_reducible refine ik_assign ?_); refine wo_op rfl (op_assign rfl) rfl rfl ?_) | ((with_reducible refine ik_bin ?_); refine wo_op rfl (op_lss rfl rfl) rfl rfl ?_)) | with_reducible refine sq_norm ?_ | with_reducible refine wc_seq ?_ | with_reducible refine wc_region ?_ | with_reducible refine wc_ret ?_ | with_reducible refine wc_exit ?_ | with_reducible refine sq_exit ?_ | with_reducible refine lq_exit ?_ | refine bq_eq rfl ?_ | (refine wc_if rfl (fun hb => ?_) (fun hb => ?_) <;> (try simp only [decide_eq_true_eq, decide_eq_false_iff_not, Bool.not_eq_true', Bool.not_eq_false', Int.not_lt, Int.not_le, Decidable.not_not, not_true_eq_false, not_false_eq_true, beq_self_eq_true, reduceCtorEq] at hb) <;> (try (exfalso; omega))))
      refine rq1 rfl ⟨?_, rfl⟩
      rw [decide_eq_true]
      refine ⟨h0, h1, fun z hz => ?_⟩
      obtain ⟨i, q, rfl⟩ := List.getElem_of_mem hz
      exact hi i q (by omega)
  · obtain ⟨E, hE⟩ : ∃ E, firstNZ (l.map smpE) = E := ⟨_, rfl⟩
    rw [hE] at q70 h0
    rw [decide_eq_false (fun q => h0 ⟨q.1, by rw [← hE]; exact q.2.1⟩)]
    refine cl_of_cf (cf_enter0 34 [.tmp 4] Tryz.func13 rfl rfl rfl rfl ?_)
    repeat' (first | with_reducible refine wo_nil ?_ | ((with_reducible refine wo_any ?_); first | ((with_reducible refine ik_move ?_); refine wo_op rfl (op_move rfl) rfl rfl ?_) | ((with_reducible refine ik_assign ?_); refine wo_op rfl (op_assign rfl) rfl rfl ?_) | ((with_reducible refine ik_callb ?_); refine wo_op rfl (op_lenSl rfl Tryz.underlying23) rfl rfl ?_) | ((with_reducible refine ik_bin ?_); refine wo_op rfl (op_gtr rfl rfl) rfl rfl ?_) | ((with_reducible refine ik_pick ?_); refine wo_op rfl (op_pickf rfl rfl) rfl rfl ?_) | ((with_reducible refine ik_g ?_); first | ((with_reducible refine ig_move ?_); refine wo_grun rfl rfl rfl (op_move rfl) rfl rfl ?_) | ((with_reducible refine ig_bin ?_); refine wo_grun rfl rfl rfl (op_neq rfl rfl) rfl rfl ?_) | ((with_reducible refine ig_callv ?_); refine wo_grun rfl rfl rfl (op_call rfl rfl (q70)) rfl rfl ?_) | (refine wo_gsplit rfl rfl rfl (fun hb => ?_) (fun hb => ?_) <;> (try simp only [decide_eq_true_eq, decide_eq_false_iff_not, Bool.not_eq_true', Bool.not_eq_false', Int.not_lt, Int.not_le, Decidable.not_not, not_true_eq_false, not_false_eq_true, beq_self_eq_true, reduceCtorEq] at hb) <;> (try (exfalso; omega))))) | with_reducible refine sq_norm ?_ | with_reducible refine wc_seq ?_ | with_reducible refine wc_region ?_ | with_reducible refine wc_ret ?_ | with_reducible refine sq_ret ?_ | (refine wc_if rfl (fun hb => ?_) (fun hb => ?_) <;> (try simp only [decide_eq_true_eq, decide_eq_false_iff_not, Bool.not_eq_true', Bool.not_eq_false', Int.not_lt, Int.not_le, Decidable.not_not, not_true_eq_false, not_false_eq_true, beq_self_eq_true, reduceCtorEq] at hb) <;> (try (exfalso; omega))))
    all_goals exact rq1 rfl ⟨rfl, rfl⟩
end Go.Proofs.YtccdcekcbbpohaaGreatDoor
