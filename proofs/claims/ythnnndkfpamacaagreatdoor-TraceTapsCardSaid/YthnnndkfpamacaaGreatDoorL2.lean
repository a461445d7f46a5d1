/- Contracts of functions on lists of samples: convolutions, correlations. -/
import Derived.Test.YthnnndkfpamacaaGreatDoorL1
import Derived.Test.YthnnndkfpamacaaGreatDoorK2
set_option linter.all false
/- Lists convolved: by the reference. -/
namespace Go.Proofs.YthnnndkfpamacaaGreatDoor
open Go Go.Ab Go.Fl
attribute [local irreducible] SeqQ BlkQ LpQ RetQ Wc Wo WD WX Op1 Op1q Op1a Cf Cl From
attribute [local irreducible] Ieee.Format.order Ieee.Format.read Ieee.Format.nearest Ieee.Format.write Ieee.Format.mul Ieee.Format.div Ieee.Datum.order Ieee.Datum.integral smpE smp smpW K J U spread sumN
set_option maxRecDepth 10000
variable {G : Base} {h : H}

def colv (l t : List Int) (k b : Nat) : Int := if b ≤ k ∧ k - b < l.length then t.getD b 0 * l.getD (k - b) 0 else 0
def convL (l t : List Int) : List Int := (List.range (l.length + t.length - 1)).map fun k => sumN t.length (colv l t k)
theorem conv_same (l t : List Int) : convS l t = convL l t := by
  unfold convS convL
  refine List.map_congr_left fun k _ => ?_
  rw [spread_all cpos (cval l t) t.length l.length k (fun b => decide (b ≤ k ∧ k - b < l.length)) (fun b => k - b)]
  · refine sumN_congr fun b _ => ?_
    unfold colv cval
    simp only [decide_eq_true_eq]
    split
    · rw [Int.mul_comm]
    · rfl
  · intro a b ha hb
    unfold cpos
    simp only [decide_eq_true_eq]
    omega
  · intro b _ q
    exact (of_decide_eq_true q).2
theorem smp_bound {l : List Nat} (h : ∀ x ∈ l, smpE x = 0) : ∀ x ∈ l.map smp, x.natAbs ≤ 16384 := fun x hx => by
  obtain ⟨w, hw, rfl⟩ := List.mem_map.1 hx
  obtain ⟨_, _, _, _, _, h1, h2⟩ := smp_read (h w hw)
  omega
theorem colv_bound {l t : List Int} (hl : ∀ x ∈ l, x.natAbs ≤ 16384) (ht : ∀ x ∈ t, x.natAbs ≤ 64) (k b : Nat) : (colv l t k b).natAbs ≤ 64 * 16384 := by
  unfold colv
  split
  · exact prod_bound (getD_bound ht _) (getD_bound hl _)
  · simp
theorem map_getD {l : List Nat} {i : Nat} (h : i < l.length) : (l.map smp).getD i 0 = smp l[i] := by simp [List.getD, List.getElem?_eq_getElem h]
theorem sl_at {h : H} {v : Value} {n : Nat} {l : List Nat} (s : Sl G h 1 v n (l.map (.float .f32))) {i : Int} {q : Nat} (hq : q < n) (hi : i = (q : Int)) :
    ∃ ad, aindexAddr Tryz.prog 45 v (.int .i64 i) = some (.pointer (some ad)) ∧ acell G h ad = some (.float .f32 (l[q]'(by have := s.length; simp at this; omega))) := by
  have hl := s.length
  simp at hl
  obtain ⟨ad, h1, h2⟩ := s.addr (M := mz G) Tryz.underlying45 (es := 1) zs23 (i := i) (k := .i64) (by omega) (by omega)
  refine ⟨ad, h1, h2.get 0 _ ?_⟩
  rw [show i.toNat * 1 = q by omega]
  simp
theorem slI_at {h : H} {v : Value} {n : Nat} {l : List Int} (s : Sl G h 1 v n (l.map (.int .i64))) {i : Int} {q : Nat} (hq : q < n) (hi : i = (q : Int)) :
    ∃ ad, aindexAddr Tryz.prog 25 v (.int .i64 i) = some (.pointer (some ad)) ∧ acell G h ad = some (.int .i64 (l.getD q 0)) := by
  have hl := s.length
  simp at hl
  obtain ⟨ad, h1, h2⟩ := s.addr (M := mz G) Tryz.underlying25 (es := 1) zs3 (i := i) (k := .i64) (by omega) (by omega)
  refine ⟨ad, h1, h2.get 0 _ ?_⟩
  rw [show i.toNat * 1 = q by omega, ← getElem_getD (by omega)]
  simp
def convP (l : List Nat) (t : List Int) (r : Value) (G : Base) (h' : H) : Prop :=
  if l.length = 0 then r = .tuple #[.slice none 0 0, .int .i64 0] else if 1024 < l.length + t.length - 1 then r = .tuple #[.slice none 0 0, .int .i64 5]
  else if anyLarge (convL (l.map smp) t) then r = .tuple #[.slice none 0 0, .int .i64 4] else ∃ u, r = .tuple #[u, .int .i64 0] ∧ Sl G h' 1 u (l.length + t.length - 1) (((convL (l.map smp) t).map smpW).map (.float .f32))
end Go.Proofs.YthnnndkfpamacaaGreatDoor

/- Lists convolved: by the program; lists that are the same. -/
namespace Go.Proofs.YthnnndkfpamacaaGreatDoor
open Go Go.Ab Go.Fl
attribute [local irreducible] SeqQ BlkQ LpQ RetQ Wc Wo WD WX Op1 Op1q Op1a Cf Cl From
attribute [local irreducible] Ieee.Format.order Ieee.Format.read Ieee.Format.nearest Ieee.Format.write Ieee.Format.mul Ieee.Format.div Ieee.Datum.order Ieee.Datum.integral smpE smp smpW K J U spread sumN
set_option maxRecDepth 10000
variable {G : Base} {h : H}

theorem firstNZ_zero : ∀ {l : List Int}, firstNZ l = 0 → ∀ e ∈ l, e = 0
  | [], _, _, h => by cases h
  | a :: l, h, e, he => by
    unfold firstNZ at h
    split at h
    · rcases List.mem_cons.1 he with rfl | he
      · assumption
      · exact firstNZ_zero h e he
    · contradiction
theorem lchk_ok {l : List Nat} (h : lchk l = 0) : l.length ≤ 1024 ∧ ∀ x ∈ l, smpE x = 0 := by
  unfold lchk at h
  split at h
  · exact absurd h (by decide)
  · exact ⟨by omega, fun x hx => firstNZ_zero h _ (List.mem_map_of_mem hx)⟩
theorem tchk_ok {t : List Int} (h : tchk t = 0) : (1 ≤ t.length ∧ t.length ≤ 16) ∧ ∀ x ∈ t, x.natAbs ≤ 64 := by
  unfold tchk at h
  split at h
  · exact absurd h (by decide)
  · split at h
    · exact absurd h (by decide)
    · refine ⟨by omega, fun x hx => ?_⟩
      have := firstNZ_zero h _ (List.mem_map_of_mem hx)
      unfold tapE at this
      rcases rng_cases x (-64) 64 with ⟨_, r1, r2⟩ | ⟨e, _⟩
      · omega
      · rw [e] at this; exact absurd this (by decide)
def convR (l : List Nat) (t : List Int) (r : Value) (G : Base) (h' : H) : Prop :=
  if firstNZ [lchk l, tchk t] ≠ 0 then r = .tuple #[.slice none 0 0, .int .i64 (firstNZ [lchk l, tchk t])] else convP l t r G h'
theorem convL_bound {l : List Int} {t : List Int} (hl : ∀ x ∈ l, x.natAbs ≤ 16384) (ht : ∀ x ∈ t, x.natAbs ≤ 64) (hm : t.length ≤ 16) : ∀ x ∈ convL l t, x.natAbs ≤ 1000000000000 := by
  intro x hx
  unfold convL at hx
  obtain ⟨k, _, rfl⟩ := List.mem_map.1 hx
  have := sumN_bound (n := t.length) fun b _ => colv_bound hl ht k b
  have h2 : t.length * (64 * 16384) ≤ 16 * (64 * 16384) := Nat.mul_le_mul_right _ hm
  omega
theorem c58 {v w : Value} {n m : Nat} {l : List Nat} {t : List Int} (s : Sl G h 1 v n (l.map (.float .f32))) (u : Sl G h 1 w m (t.map (.int .i64))) (hn : n < 1000000) (hm : m < 1000000) (hw : Wf h) :
    Cf (mz G) (.func (.func 58) #[] #[]) [v, w] h fun r h' => convR l t r G h' ∧ Grow h h' := by
  obtain ⟨a, c, rfl⟩ := s.form
  obtain ⟨b, d, rfl⟩ := u.form
  have hl := s.length
  have ht := u.length
  simp at hl ht
  by_cases hz : firstNZ [lchk l, tchk t] = 0
  · have hz2 := firstNZ_zero hz
    have z1 : lchk l = 0 := hz2 _ (by simp)
    have z2 : tchk t = 0 := hz2 _ (by simp)
    obtain ⟨k1, k2⟩ := lchk_ok z1
    obtain ⟨k3, k4⟩ := tchk_ok z2
    have q106 := fun (h' : H) (g : Grow h h') => c107 (s.grow g) hn
    have q132 := fun (h' : H) (g : Grow h h') => c133 (u.grow g) hm
    rw [z1] at q106
    rw [z2] at q132
    have fin : ∀ {r : Value} {h' : H}, convP l t r G h' → convR l t r G h' := fun q => by unfold convR; rw [if_neg (by simpa using hz)]; exact q
    unfold convP at fin
    by_cases hn0 : n = 0
    · refine cf_enter0 33 [.tmp 4, .tmp 5] Tryz.func58 rfl rfl rfl rfl ?_
      repeat' (first | with_reducible refine wo_nil ?_ | ((with_reducible refine wo_any ?_); first | ((with_reducible refine ik_move ?_); refine wo_op rfl (op_move rfl) rfl rfl ?_) | ((with_reducible refine ik_assign ?_); refine wo_op rfl (op_assign rfl) rfl rfl ?_) | ((with_reducible refine ik_buildSlice ?_); refine wo_op rfl (op_buildSl rfl Tryz.underlying219 zs26 zz26 rfl rfl) rfl rfl ?_) | ((with_reducible refine ik_bin ?_); first | refine wo_op rfl (op_neq rfl rfl) rfl rfl ?_ | refine wo_op rfl (op_eql rfl rfl) rfl rfl ?_) | ((with_reducible refine ik_callb ?_); refine wo_op rfl (op_lenSl rfl Tryz.underlying45) rfl rfl ?_) | ((with_reducible refine ik_callv ?_); first | refine wo_op rfl (op_call rfl rfl (q106 _ gr_A)) rfl rfl ?_ | refine wo_op rfl (op_call rfl rfl (q132 _ gr_A)) rfl rfl ?_) | ((with_reducible refine ik_callF (f := 90) ?_); refine wo_op rfl (op_call rfl rfl (c90 (es := [0, 0]) (n := 2) (Sl.ofAt (at_A) rfl (Nat.le_refl _)) (by omega))) rfl rfl ?_)) | with_reducible refine sq_norm ?_ | with_reducible refine wc_seq ?_ | with_reducible refine wc_region ?_ | with_reducible refine wc_skip ?_ | with_reducible refine wc_ret ?_ | with_reducible refine sq_ret ?_ | refine wc_iff rfl ?_ | (refine wc_if rfl (fun hb => ?_) (fun hb => ?_) <;> (try simp only [decide_eq_true_eq, decide_eq_false_iff_not, Bool.not_eq_true', Bool.not_eq_false', Int.not_lt, Int.not_le, Decidable.not_not, not_true_eq_false, not_false_eq_true, beq_self_eq_true, reduceCtorEq] at hb) <;> (try (exfalso; omega))))
      refine rq2 rfl rfl ⟨fin ?_, gr_A⟩
      rw [if_pos (by omega)]
    by_cases hbig : 1024 < n + m - 1
    · refine cf_enter0 33 [.tmp 4, .tmp 5] Tryz.func58 rfl rfl rfl rfl ?_
      repeat' (first | with_reducible refine wo_nil ?_ | ((with_reducible refine wo_any ?_); first | ((with_reducible refine ik_move ?_); refine wo_op rfl (op_move rfl) rfl rfl ?_) | ((with_reducible refine ik_assign ?_); refine wo_op rfl (op_assign rfl) rfl rfl ?_) | ((with_reducible refine ik_buildSlice ?_); refine wo_op rfl (op_buildSl rfl Tryz.underlying219 zs26 zz26 rfl rfl) rfl rfl ?_) | ((with_reducible refine ik_bin ?_); first | refine wo_op rfl (op_neq rfl rfl) rfl rfl ?_ | refine wo_op rfl (op_eql rfl rfl) rfl rfl ?_ | refine wo_op rfl (op_add' rfl rfl (w64 (by omega) (by omega))) rfl rfl ?_ | refine wo_op rfl (op_sub' rfl rfl (w64 (by omega) (by omega))) rfl rfl ?_ | refine wo_op rfl (op_gtr rfl rfl) rfl rfl ?_) | ((with_reducible refine ik_callb ?_); first | refine wo_op rfl (op_lenSl rfl Tryz.underlying45) rfl rfl ?_ | refine wo_op rfl (op_lenSl rfl Tryz.underlying25) rfl rfl ?_) | ((with_reducible refine ik_callv ?_); first | refine wo_op rfl (op_call rfl rfl (q106 _ gr_A)) rfl rfl ?_ | refine wo_op rfl (op_call rfl rfl (q132 _ gr_A)) rfl rfl ?_) | ((with_reducible refine ik_callF (f := 90) ?_); refine wo_op rfl (op_call rfl rfl (c90 (es := [0, 0]) (n := 2) (Sl.ofAt (at_A) rfl (Nat.le_refl _)) (by omega))) rfl rfl ?_)) | with_reducible refine sq_norm ?_ | with_reducible refine wc_seq ?_ | with_reducible refine wc_region ?_ | with_reducible refine wc_skip ?_ | with_reducible refine wc_ret ?_ | with_reducible refine sq_ret ?_ | refine wc_iff rfl ?_ | (refine wc_if rfl (fun hb => ?_) (fun hb => ?_) <;> (try simp only [decide_eq_true_eq, decide_eq_false_iff_not, Bool.not_eq_true', Bool.not_eq_false', Int.not_lt, Int.not_le, Decidable.not_not, not_true_eq_false, not_false_eq_true, beq_self_eq_true, reduceCtorEq] at hb) <;> (try (exfalso; omega))))
      refine rq2 rfl rfl ⟨fin ?_, gr_A⟩
      rw [if_neg (by omega), if_pos (by omega)]
    have hLn : (l.map smp).length = n := by simpa using hl
    refine cf_enter0 33 [.tmp 4, .tmp 5] Tryz.func58 rfl rfl rfl rfl ?_
    repeat' (first | with_reducible refine wo_nil ?_ | ((with_reducible refine wo_any ?_); first | ((with_reducible refine ik_move ?_); refine wo_op rfl (op_move rfl) rfl rfl ?_) | ((with_reducible refine ik_assign ?_); refine wo_op rfl (op_assign rfl) rfl rfl ?_) | ((with_reducible refine ik_buildSlice ?_); refine wo_op rfl (op_buildSl rfl Tryz.underlying219 zs26 zz26 rfl rfl) rfl rfl ?_) | ((with_reducible refine ik_bin ?_); first | refine wo_op rfl (op_neq rfl rfl) rfl rfl ?_ | refine wo_op rfl (op_eql rfl rfl) rfl rfl ?_ | refine wo_op rfl (op_add' rfl rfl (w64 (by omega) (by omega))) rfl rfl ?_ | refine wo_op rfl (op_sub' rfl rfl (w64 (by omega) (by omega))) rfl rfl ?_ | refine wo_op rfl (op_gtr rfl rfl) rfl rfl ?_) | ((with_reducible refine ik_callb ?_); first | refine wo_op rfl (op_lenSl rfl Tryz.underlying45) rfl rfl ?_ | refine wo_op rfl (op_lenSl rfl Tryz.underlying25) rfl rfl ?_) | ((with_reducible refine ik_callv ?_); first | refine wo_op rfl (op_call rfl rfl (q106 _ gr_A)) rfl rfl ?_ | refine wo_op rfl (op_call rfl rfl (q132 _ gr_A)) rfl rfl ?_) | ((with_reducible refine ik_callF (f := 90) ?_); refine wo_op rfl (op_call rfl rfl (c90 (es := [0, 0]) (n := 2) (Sl.ofAt (at_A) rfl (Nat.le_refl _)) (by omega))) rfl rfl ?_) | ((with_reducible refine ik_callF (f := 135) ?_); (refine wo_call rfl rfl rfl rfl (c135 (s.grow gr_A) hn k2 wf_A) rfl rfl ?_; rintro _ _ ⟨sl, hq⟩; all_goals ((try (have hqn := hq.nx)); (try simp only [H.nx_push, H.nx_set, H.nx_bump] at hqn)))) | ((with_reducible refine ik_callF (f := 134) ?_); (refine wo_call rfl rfl rfl rfl (c134 sl (u.grow gr_A) (by omega) (by omega) (smp_bound k2) k4 wf_A) rfl rfl ?_; rintro _ _ ⟨sm, hq, hw2⟩; all_goals ((try (have hqn := hq.nx)); (try simp only [H.nx_push, H.nx_set, H.nx_bump] at hqn)))) | ((with_reducible refine ik_callF (f := 127) ?_); (refine wo_call rfl rfl rfl rfl (c127 sm (by omega) wf_A (by rw [conv_same]; exact convL_bound (smp_bound k2) k4 k3.2)) rfl rfl ?_; rintro _ _ ⟨hr, hq⟩; all_goals ((try (have hqn := hq.nx)); (try simp only [H.nx_push, H.nx_set, H.nx_bump] at hqn))))) | with_reducible refine sq_norm ?_ | with_reducible refine wc_seq ?_ | with_reducible refine wc_region ?_ | with_reducible refine wc_skip ?_ | refine wc_iff rfl ?_ | (refine wc_if rfl (fun hb => ?_) (fun hb => ?_) <;> (try simp only [decide_eq_true_eq, decide_eq_false_iff_not, Bool.not_eq_true', Bool.not_eq_false', Int.not_lt, Int.not_le, Decidable.not_not, not_true_eq_false, not_false_eq_true, beq_self_eq_true, reduceCtorEq] at hb) <;> (try (exfalso; omega))))
    rw [conv_same] at hr
    by_cases hlg : anyLarge (convL (l.map smp) t) = true
    · rw [if_pos hlg] at hr
      subst hr
      repeat' (first | with_reducible refine wo_nil ?_ | ((with_reducible refine wo_any ?_); first | ((with_reducible refine ik_assign ?_); refine wo_op rfl (op_assign rfl) rfl rfl ?_) | ((with_reducible refine ik_extract ?_); refine wo_op rfl (op_extract rfl rfl) rfl rfl ?_)) | with_reducible refine sq_norm ?_ | with_reducible refine wc_ret ?_)
      refine rq2 rfl rfl ⟨fin ?_, gr_A⟩
      rw [if_neg (by omega), if_neg (by omega), if_pos hlg]
      rfl
    · rw [if_neg hlg] at hr
      obtain ⟨z, rfl, sz⟩ := hr
      repeat' (first | with_reducible refine wo_nil ?_ | ((with_reducible refine wo_any ?_); first | ((with_reducible refine ik_assign ?_); refine wo_op rfl (op_assign rfl) rfl rfl ?_) | ((with_reducible refine ik_extract ?_); refine wo_op rfl (op_extract rfl rfl) rfl rfl ?_)) | with_reducible refine sq_norm ?_ | with_reducible refine wc_ret ?_)
      refine rq2 rfl rfl ⟨fin ?_, gr_A⟩
      rw [if_neg (by omega), if_neg (by omega), if_neg hlg]
      exact ⟨_, rfl, by rw [hl, ht]; exact sz⟩
  · refine cf_enter0 33 [.tmp 4, .tmp 5] Tryz.func58 rfl rfl rfl rfl ?_
    repeat' (first | with_reducible refine wo_nil ?_ | ((with_reducible refine wo_any ?_); first | ((with_reducible refine ik_move ?_); refine wo_op rfl (op_move rfl) rfl rfl ?_) | ((with_reducible refine ik_assign ?_); refine wo_op rfl (op_assign rfl) rfl rfl ?_) | ((with_reducible refine ik_buildSlice ?_); refine wo_op rfl (op_buildSl rfl Tryz.underlying219 zs26 zz26 rfl rfl) rfl rfl ?_) | ((with_reducible refine ik_bin ?_); refine wo_op rfl (op_neq rfl rfl) rfl rfl ?_) | ((with_reducible refine ik_callF (f := 107) ?_); refine wo_op rfl (op_call rfl rfl (c107 (s.grow gr_A) hn)) rfl rfl ?_) | ((with_reducible refine ik_callF (f := 133) ?_); refine wo_op rfl (op_call rfl rfl (c133 (u.grow gr_A) hm)) rfl rfl ?_) | ((with_reducible refine ik_callF (f := 90) ?_); refine wo_op rfl (op_call rfl rfl (c90 (es := [_, _]) (n := 2) (Sl.ofAt (at_A) rfl (Nat.le_refl _)) (by omega))) rfl rfl ?_)) | with_reducible refine sq_norm ?_ | with_reducible refine wc_seq ?_ | with_reducible refine wc_region ?_ | with_reducible refine wc_ret ?_ | with_reducible refine sq_ret ?_ | (refine wc_if rfl (fun hb => ?_) (fun hb => ?_) <;> (try simp only [decide_eq_true_eq, decide_eq_false_iff_not, Bool.not_eq_true', Bool.not_eq_false', Int.not_lt, Int.not_le, Decidable.not_not, not_true_eq_false, not_false_eq_true, beq_self_eq_true, reduceCtorEq] at hb) <;> (try (exfalso; omega))))
    refine rq2 rfl rfl ⟨?_, gr_A⟩
    unfold convR
    rw [if_pos hz]

def selfEq (l : List Nat) : Prop := ∀ x ∈ l, (Ieee.single.order x x == some .eq) = true
theorem num_self {w : Nat} {v : Int} (h : Num Ieee.single w v) : (Ieee.single.order w w == some .eq) = true := by rw [h.feq h]; simp
theorem smpW_self {n : Int} (h : n.natAbs ≤ 16384) : (Ieee.single.order (smpW n) (smpW n) == some .eq) = true := by
  obtain ⟨_, v, hv, _⟩ := div16 h
  exact num_self hv
theorem c84 {v w : Value} {n : Nat} {l : List Nat} (s : Sl G h 1 v n (l.map (.float .f32))) (u : Sl G h 1 w n (l.map (.float .f32))) (hn : n < 1000000) (hs : selfEq l) : Cf (mz G) (.func (.func 84) #[] #[]) [v, w] h fun r h' => r = .bool true ∧ Grow h h' := by
  obtain ⟨a, c, rfl⟩ := s.form
  obtain ⟨b, d, rfl⟩ := u.form
  have hl := s.length
  simp at hl
  refine cf_enter0 26 [.tmp 4] Tryz.func84 rfl rfl rfl rfl ?_
  repeat' (first | with_reducible refine wo_nil ?_ | ((with_reducible refine wo_any ?_); first | ((with_reducible refine ik_move ?_); refine wo_op rfl (op_move rfl) rfl rfl ?_) | ((with_reducible refine ik_assign ?_); refine wo_op rfl (op_assign rfl) rfl rfl ?_) | ((with_reducible refine ik_callb ?_); refine wo_op rfl (op_lenSl rfl Tryz.underlying45) rfl rfl ?_) | ((with_reducible refine ik_bin ?_); refine wo_op rfl (op_neq rfl rfl) rfl rfl ?_)) | with_reducible refine sq_norm ?_ | with_reducible refine wc_seq ?_ | with_reducible refine wc_region ?_ | with_reducible refine wc_skip ?_ | with_reducible refine wc_block ?_ | (refine wc_if rfl (fun hb => ?_) (fun hb => ?_) <;> (try simp only [decide_eq_true_eq, decide_eq_false_iff_not, Bool.not_eq_true', Bool.not_eq_false', Int.not_lt, Int.not_le, Decidable.not_not, not_true_eq_false, not_false_eq_true, beq_self_eq_true, reduceCtorEq] at hb) <;> (try (exfalso; omega))))
  refine wc_loop (fun k => n - k) (fun k : Nat => [(0, .slice a n c), (1, .slice b n d), (5, .int .i64 k)]) (fun k h' => Grow h h' ∧ k ≤ n) 0 (within_lk ⟨rfl, rfl, rfl, trivial⟩) ⟨.refl _, Nat.zero_le _⟩ ?_
  rintro k h' ⟨hgr, hk⟩
  by_cases hlt : k < n
  · obtain ⟨ad, h1, h3⟩ := sl_at (s.grow hgr) (i := (k : Int)) hlt rfl
    obtain ⟨bd, g1, g3⟩ := sl_at (u.grow hgr) (i := (k : Int)) hlt rfl
    have he := hs _ (List.getElem_mem (show k < l.length by omega))
    repeat' (first | with_reducible refine wo_nil ?_ | ((with_reducible refine wo_any ?_); first | ((with_reducible refine ik_move ?_); refine wo_op rfl (op_move rfl) rfl rfl ?_) | ((with_reducible refine ik_assign ?_); refine wo_op rfl (op_assign rfl) rfl rfl ?_) | ((with_reducible refine ik_bin ?_); first | refine wo_op rfl (op_lss rfl rfl) rfl rfl ?_ | refine wo_op rfl (op_add' rfl rfl (w64 (by omega) (by omega))) rfl rfl ?_) | ((with_reducible refine ik_callb ?_); refine wo_op rfl (op_lenSl rfl Tryz.underlying45) rfl rfl ?_)) | ((with_reducible refine xk_any ?_); ((with_reducible refine xk_as0 ?_); first | ((with_reducible refine xk_move ?_); refine wx_q (wt_none rfl) rfl rfl (op_q rfl (op_move rfl)) rfl rfl rfl ?_) | ((with_reducible refine xk_indexAddr ?_); first | refine wx_q (wt_none rfl) rfl rfl (op_q rfl (op_indexAddr rfl rfl h1)) rfl rfl rfl ?_ | refine wx_q (wt_none rfl) rfl rfl (op_q rfl (op_indexAddr rfl rfl g1)) rfl rfl rfl ?_) | ((with_reducible refine xk_load ?_); first | refine wx_h0 (wt_none rfl) rfl (op_q rfl (op_ldCell rfl Tryz.underlying23 rfl h3)) rfl rfl rfl ?_ | refine wx_h0 (wt_none rfl) rfl (op_q rfl (op_ldCell rfl Tryz.underlying23 rfl g3)) rfl rfl rfl ?_) | ((with_reducible refine xk_bin ?_); refine wx_q (wt_none rfl) rfl rfl (op_q rfl (op_fneq rfl rfl he)) rfl rfl rfl ?_) | with_reducible refine wx_nil0 ?_ ?_)) | with_reducible exact obl_nil | with_reducible refine obl_cons ?_ ?_ | ((with_reducible refine ik_obs ?_); first | exact obs_nil | refine obs_chkn rfl rfl (op_q rfl (op_ldCell rfl Tryz.underlying23 rfl h3)) ?_ | refine obs_chkn rfl rfl (op_q rfl (op_ldCell rfl Tryz.underlying23 rfl g3)) ?_) | with_reducible refine sq_norm ?_ | with_reducible refine wc_seq ?_ | with_reducible refine wc_region ?_ | with_reducible refine wc_skip ?_ | with_reducible refine wc_block ?_ | with_reducible refine bq_norm ?_ | refine wc_iff rfl ?_ | (refine wc_if rfl (fun hb => ?_) (fun hb => ?_) <;> (try simp only [decide_eq_true_eq, decide_eq_false_iff_not, Bool.not_eq_true', Bool.not_eq_false', Int.not_lt, Int.not_le, Decidable.not_not, not_true_eq_false, not_false_eq_true, beq_self_eq_true, reduceCtorEq] at hb) <;> (try (exfalso; omega))) | refine wc_drawB (id := 6) 9 [0, 0, 3, 7, 0, 0, 48, 112, 255] [0, 1, 2, 3, 4, 5, 6, 7, 8] (by kernel_rfl) (by kernel_rfl) rfl rfl ?_)
    exact lq_norm (k + 1) (by omega) (within_lk ⟨rfl, rfl, rfl, trivial⟩) ⟨gr_A, by omega⟩
  · repeat' (first | with_reducible refine wo_nil ?_ | ((with_reducible refine wo_any ?_); first | ((with_reducible refine ik_move ?_); refine wo_op rfl (op_move rfl) rfl rfl ?_) | ((with_reducible refine ik_assign ?_); refine wo_op rfl (op_assign rfl) rfl rfl ?_) | ((with_reducible refine ik_callb ?_); refine wo_op rfl (op_lenSl rfl Tryz.underlying45) rfl rfl ?_) | ((with_reducible refine ik_bin ?_); refine wo_op rfl (op_lss rfl rfl) rfl rfl ?_)) | with_reducible refine sq_norm ?_ | with_reducible refine wc_seq ?_ | with_reducible refine wc_region ?_ | with_reducible refine wc_ret ?_ | with_reducible refine wc_exit ?_ | with_reducible refine sq_exit ?_ | with_reducible refine lq_exit ?_ | refine bq_eq rfl ?_ | (refine wc_if rfl (fun hb => ?_) (fun hb => ?_) <;> (try simp only [decide_eq_true_eq, decide_eq_false_iff_not, Bool.not_eq_true', Bool.not_eq_false', Int.not_lt, Int.not_le, Decidable.not_not, not_true_eq_false, not_false_eq_true, beq_self_eq_true, reduceCtorEq] at hb) <;> (try (exfalso; omega))))
    exact rq1 rfl ⟨rfl, hgr⟩
end Go.Proofs.YthnnndkfpamacaaGreatDoor

/- Lists correlated. -/
namespace Go.Proofs.YthnnndkfpamacaaGreatDoor
open Go Go.Ab Go.Fl
attribute [local irreducible] SeqQ BlkQ LpQ RetQ Wc Wo WD WX Op1 Op1q Op1a Cf Cl From
attribute [local irreducible] Ieee.Format.order Ieee.Format.read Ieee.Format.nearest Ieee.Format.write Ieee.Format.mul Ieee.Format.div Ieee.Datum.order Ieee.Datum.integral smpE smp smpW K J U spread sumN
set_option maxRecDepth 10000
variable {G : Base} {h : H}

theorem c135f {v : Value} {n : Nat} {l : List Nat} (s : Sl G h 1 v n (l.map (.float .f32))) (hn : n < 1000000) (hl0 : ∀ x ∈ l, smpE x = 0) (hw : Wf h) : Cf (mz G) (.func (.func 135) #[] #[]) [v] h fun r h' => (∃ a c, r = .slice a n c ∧ Sl G h' 1 (.slice a n c) n ((l.map smp).map (.int .i64))) ∧ Grow h h' :=
  (c135 s hn hl0 hw).mono fun r h' ⟨q, g⟩ => by
    obtain ⟨a, c, rfl⟩ := q.form
    exact ⟨⟨a, c, rfl, q⟩, g⟩
def rpos (m i j : Nat) : Nat := i + (m - 1 - j)
def corS (x y : List Int) : List Int := (List.range (x.length + y.length - 1)).map (spread (rpos y.length) (cval x y) y.length x.length 0)
def colw (x y : List Int) (k j : Nat) : Int := if y.length - 1 ≤ j + k ∧ j + k - (y.length - 1) < x.length then x.getD (j + k - (y.length - 1)) 0 * y.getD j 0 else 0
def corL (x y : List Int) : List Int := (List.range (x.length + y.length - 1)).map fun k => sumN y.length (colw x y k)
theorem cor_same (x y : List Int) : corS x y = corL x y := by
  unfold corS corL
  refine List.map_congr_left fun k _ => ?_
  rw [spread_all (rpos y.length) (cval x y) y.length x.length k (fun b => decide (y.length - 1 ≤ b + k ∧ b + k - (y.length - 1) < x.length)) (fun b => b + k - (y.length - 1))]
  · refine sumN_congr fun b _ => ?_
    unfold colw cval
    simp only [decide_eq_true_eq]
  · intro a b ha hb
    unfold rpos
    simp only [decide_eq_true_eq]
    omega
  · intro b _ q
    exact (of_decide_eq_true q).2
/-- What Correlate answers. -/
def corR (l t : List Nat) (r : Value) (G : Base) (h' : H) : Prop :=
  if firstNZ [lchk l, lchk t] ≠ 0 then r = .tuple #[.slice none 0 0, .int .i64 (firstNZ [lchk l, lchk t])]
  else if l.length = 0 ∨ t.length = 0 then r = .tuple #[.slice none 0 0, .int .i64 0]
  else ∃ u, r = .tuple #[u, .int .i64 0] ∧ Sl G h' 1 u (l.length + t.length - 1) ((corL (l.map smp) (t.map smp)).map (.int .i64))
set_option maxHeartbeats 1000000 in
theorem c61 {v w : Value} {n m : Nat} {l t : List Nat} (s : Sl G h 1 v n (l.map (.float .f32))) (u : Sl G h 1 w m (t.map (.float .f32))) (hn : n < 1000000) (hm : m < 1000000) (hw : Wf h) :
    Cf (mz G) (.func (.func 61) #[] #[]) [v, w] h fun r h' => corR l t r G h' ∧ Grow h h' := by
  obtain ⟨a, c, rfl⟩ := s.form
  obtain ⟨b, d, rfl⟩ := u.form
  have hl := s.length
  have ht := u.length
  simp at hl ht
  by_cases hz : firstNZ [lchk l, lchk t] = 0
  · have hz2 := firstNZ_zero hz
    have z1 : lchk l = 0 := hz2 _ (by simp)
    have z2 : lchk t = 0 := hz2 _ (by simp)
    obtain ⟨k1, k2⟩ := lchk_ok z1
    obtain ⟨k3, k4⟩ := lchk_ok z2
    have q106 := fun (h' : H) (g : Grow h h') => c107 (s.grow g) hn
    have r106 := fun (h' : H) (g : Grow h h') => c107 (u.grow g) hm
    rw [z1] at q106
    rw [z2] at r106
    have fin : ∀ {r : Value} {h' : H}, (if n = 0 ∨ m = 0 then r = .tuple #[.slice none 0 0, .int .i64 0] else ∃ u, r = .tuple #[u, .int .i64 0] ∧ Sl G h' 1 u (n + m - 1) ((corL (l.map smp) (t.map smp)).map (.int .i64))) → corR l t r G h' := fun q => by
      unfold corR; rw [if_neg (by simpa using hz), hl, ht]; exact q
    by_cases hn0 : n = 0 ∨ m = 0
    · refine cf_enter0 74 [.tmp 4, .tmp 5] Tryz.func61 rfl rfl rfl rfl ?_
      repeat' (first | with_reducible refine wo_nil ?_ | ((with_reducible refine wo_any ?_); first | ((with_reducible refine ik_move ?_); refine wo_op rfl (op_move rfl) rfl rfl ?_) | ((with_reducible refine ik_assign ?_); refine wo_op rfl (op_assign rfl) rfl rfl ?_) | ((with_reducible refine ik_buildSlice ?_); refine wo_op rfl (op_buildSl rfl Tryz.underlying219 zs26 zz26 rfl rfl) rfl rfl ?_) | ((with_reducible refine ik_bin ?_); first | refine wo_op rfl (op_neq rfl rfl) rfl rfl ?_ | refine wo_op rfl (op_eql rfl rfl) rfl rfl ?_) | ((with_reducible refine ik_callb ?_); refine wo_op rfl (op_lenSl rfl Tryz.underlying45) rfl rfl ?_) | ((with_reducible refine ik_pick ?_); first | refine wo_op rfl (op_pickt rfl rfl) rfl rfl ?_ | refine wo_op rfl (op_pickf rfl rfl) rfl rfl ?_) | ((with_reducible refine ik_callv ?_); first | refine wo_op rfl (op_call rfl rfl (q106 _ (by repeat (first | with_reducible assumption | with_reducible exact Grow.refl _ | with_reducible refine Grow.push ?_ _ | with_reducible refine Grow.bump ?_ _ | with_reducible refine Grow.set ?_ (by first | omega | (simp only [H.nx_push, H.nx_set]; omega)) (by repeat (first | with_reducible assumption | omega | (simp only [H.nx_push, H.nx_set]; omega) | exact At.lt (by assumption) | with_reducible refine lt_bump ?_ | with_reducible refine lt_set ?_ | exact lt_new | with_reducible refine lt_push ?_ | refine lt_grow ?_ (by assumption))) _ | refine Grow.trans ?_ (by assumption))))) rfl rfl ?_ | refine wo_op rfl (op_call rfl rfl (r106 _ (by repeat (first | with_reducible assumption | with_reducible exact Grow.refl _ | with_reducible refine Grow.push ?_ _ | with_reducible refine Grow.bump ?_ _ | with_reducible refine Grow.set ?_ (by first | omega | (simp only [H.nx_push, H.nx_set]; omega)) (by repeat (first | with_reducible assumption | omega | (simp only [H.nx_push, H.nx_set]; omega) | exact At.lt (by assumption) | with_reducible refine lt_bump ?_ | with_reducible refine lt_set ?_ | exact lt_new | with_reducible refine lt_push ?_ | refine lt_grow ?_ (by assumption))) _ | refine Grow.trans ?_ (by assumption))))) rfl rfl ?_) | ((with_reducible refine ik_callF (f := 90) ?_); refine wo_op rfl (op_call rfl rfl (c90 (es := [0, 0]) (n := 2) (Sl.ofAt ((by repeat (first | with_reducible assumption | exact At.new _ _ | with_reducible refine At.bump ?_ | with_reducible exact At.lay (by repeat (first | with_reducible assumption | omega | (simp only [H.nx_push, H.nx_set]; omega) | exact At.lt (by assumption) | with_reducible refine lt_bump ?_ | with_reducible refine lt_set ?_ | exact lt_new | with_reducible refine lt_push ?_ | refine lt_grow ?_ (by assumption))) | (with_reducible refine At.set_ne ?_ ?hne _; (case hne => first | omega | (simp only [H.nx_push, H.nx_set]; omega))) | with_reducible refine At.push ?_ _ | refine At.grow ?_ (by assumption)))) rfl (Nat.le_refl _)) (by omega))) rfl rfl ?_) | ((with_reducible refine ik_g ?_); first | refine wo_gskip rfl rfl rfl rfl rfl rfl ?_ | ((with_reducible refine ig_move ?_); refine wo_grun rfl rfl rfl (op_move rfl) rfl rfl ?_) | ((with_reducible refine ig_bin ?_); refine wo_grun rfl rfl rfl (op_eql rfl rfl) rfl rfl ?_) | ((with_reducible refine ig_callb ?_); refine wo_grun rfl rfl rfl (op_lenSl rfl Tryz.underlying45) rfl rfl ?_) | (refine wo_gsplit rfl rfl rfl (fun hb => ?_) (fun hb => ?_) <;> (try simp only [decide_eq_true_eq, decide_eq_false_iff_not, Bool.not_eq_true', Bool.not_eq_false', Int.not_lt, Int.not_le, Decidable.not_not, not_true_eq_false, not_false_eq_true, beq_self_eq_true, reduceCtorEq] at hb) <;> (try (exfalso; omega))))) | with_reducible refine sq_norm ?_ | with_reducible refine wc_seq ?_ | with_reducible refine wc_region ?_ | with_reducible refine wc_skip ?_ | with_reducible refine wc_ret ?_ | with_reducible refine sq_ret ?_ | refine wc_ift rfl ?_ | refine wc_iff rfl ?_ | (refine wc_if rfl (fun hb => ?_) (fun hb => ?_) <;> (try simp only [decide_eq_true_eq, decide_eq_false_iff_not, Bool.not_eq_true', Bool.not_eq_false', Int.not_lt, Int.not_le, Decidable.not_not, not_true_eq_false, not_false_eq_true, beq_self_eq_true, reduceCtorEq] at hb) <;> (try (exfalso; omega))))
      all_goals
        refine rq2 rfl rfl ⟨fin ?_, (by repeat (first | with_reducible assumption | with_reducible exact Grow.refl _ | with_reducible refine Grow.push ?_ _ | with_reducible refine Grow.bump ?_ _ | with_reducible refine Grow.set ?_ (by first | omega | (simp only [H.nx_push, H.nx_set]; omega)) (by repeat (first | with_reducible assumption | omega | (simp only [H.nx_push, H.nx_set]; omega) | exact At.lt (by assumption) | with_reducible refine lt_bump ?_ | with_reducible refine lt_set ?_ | exact lt_new | with_reducible refine lt_push ?_ | refine lt_grow ?_ (by assumption))) _ | refine Grow.trans ?_ (by assumption)))⟩
        rw [if_pos hn0]
        try rfl
    obtain ⟨N, hN1, hN2⟩ : ∃ N : Nat, (n : Int) + m - 1 = (N : Int) ∧ N = n + m - 1 := ⟨n + m - 1, by omega, rfl⟩
    have hxL : (l.map smp).length = n := by simpa using hl
    have hyL : (t.map smp).length = m := by simpa using ht
    refine cf_enter0 74 [.tmp 4, .tmp 5] Tryz.func61 rfl rfl rfl rfl ?_
    repeat' (first | with_reducible refine wo_nil ?_ | ((with_reducible refine wo_any ?_); first | ((with_reducible refine ik_move ?_); refine wo_op rfl (op_move rfl) rfl rfl ?_) | ((with_reducible refine ik_assign ?_); refine wo_op rfl (op_assign rfl) rfl rfl ?_) | ((with_reducible refine ik_makeSlice ?_); refine wo_op rfl (op_mkSlI N rfl rfl hN1 Tryz.underlying25 zs3 zb3 zz3 rfl (by omega) (by omega)) rfl rfl ?_) | ((with_reducible refine ik_buildSlice ?_); refine wo_op rfl (op_buildSl rfl Tryz.underlying219 zs26 zz26 rfl rfl) rfl rfl ?_) | ((with_reducible refine ik_bin ?_); first | refine wo_op rfl (op_neq rfl rfl) rfl rfl ?_ | refine wo_op rfl (op_eql rfl rfl) rfl rfl ?_ | refine wo_op rfl (op_add' rfl rfl (w64 (by omega) (by omega))) rfl rfl ?_ | refine wo_op rfl (op_sub' rfl rfl (w64 (by omega) (by omega))) rfl rfl ?_) | ((with_reducible refine ik_callb ?_); first | refine wo_op rfl (op_lenSl rfl Tryz.underlying45) rfl rfl ?_ | refine wo_op rfl (op_lenSl rfl Tryz.underlying25) rfl rfl ?_) | ((with_reducible refine ik_pick ?_); refine wo_op rfl (op_pickf rfl rfl) rfl rfl ?_) | ((with_reducible refine ik_callv ?_); first | refine wo_op rfl (op_call rfl rfl (q106 _ (by repeat (first | with_reducible assumption | with_reducible exact Grow.refl _ | with_reducible refine Grow.push ?_ _ | with_reducible refine Grow.bump ?_ _ | with_reducible refine Grow.set ?_ (by first | omega | (simp only [H.nx_push, H.nx_set]; omega)) (by repeat (first | with_reducible assumption | omega | (simp only [H.nx_push, H.nx_set]; omega) | exact At.lt (by assumption) | with_reducible refine lt_bump ?_ | with_reducible refine lt_set ?_ | exact lt_new | with_reducible refine lt_push ?_ | refine lt_grow ?_ (by assumption))) _ | refine Grow.trans ?_ (by assumption))))) rfl rfl ?_ | refine wo_op rfl (op_call rfl rfl (r106 _ (by repeat (first | with_reducible assumption | with_reducible exact Grow.refl _ | with_reducible refine Grow.push ?_ _ | with_reducible refine Grow.bump ?_ _ | with_reducible refine Grow.set ?_ (by first | omega | (simp only [H.nx_push, H.nx_set]; omega)) (by repeat (first | with_reducible assumption | omega | (simp only [H.nx_push, H.nx_set]; omega) | exact At.lt (by assumption) | with_reducible refine lt_bump ?_ | with_reducible refine lt_set ?_ | exact lt_new | with_reducible refine lt_push ?_ | refine lt_grow ?_ (by assumption))) _ | refine Grow.trans ?_ (by assumption))))) rfl rfl ?_) | ((with_reducible refine ik_callF (f := 90) ?_); refine wo_op rfl (op_call rfl rfl (c90 (es := [0, 0]) (n := 2) (Sl.ofAt ((by repeat (first | with_reducible assumption | exact At.new _ _ | with_reducible refine At.bump ?_ | with_reducible exact At.lay (by repeat (first | with_reducible assumption | omega | (simp only [H.nx_push, H.nx_set]; omega) | exact At.lt (by assumption) | with_reducible refine lt_bump ?_ | with_reducible refine lt_set ?_ | exact lt_new | with_reducible refine lt_push ?_ | refine lt_grow ?_ (by assumption))) | (with_reducible refine At.set_ne ?_ ?hne _; (case hne => first | omega | (simp only [H.nx_push, H.nx_set]; omega))) | with_reducible refine At.push ?_ _ | refine At.grow ?_ (by assumption)))) rfl (Nat.le_refl _)) (by omega))) rfl rfl ?_) | ((with_reducible refine ik_callF (f := 135) ?_); first | (refine wo_call rfl rfl rfl rfl (c135f (s.grow (by repeat (first | with_reducible assumption | with_reducible exact Grow.refl _ | with_reducible refine Grow.push ?_ _ | with_reducible refine Grow.bump ?_ _ | with_reducible refine Grow.set ?_ (by first | omega | (simp only [H.nx_push, H.nx_set]; omega)) (by repeat (first | with_reducible assumption | omega | (simp only [H.nx_push, H.nx_set]; omega) | exact At.lt (by assumption) | with_reducible refine lt_bump ?_ | with_reducible refine lt_set ?_ | exact lt_new | with_reducible refine lt_push ?_ | refine lt_grow ?_ (by assumption))) _ | refine Grow.trans ?_ (by assumption)))) hn k2 (by repeat (first | with_reducible assumption | exact Wf.empty | with_reducible refine Wf.push ?_ _ | with_reducible refine Wf.bump ?_ _ | with_reducible refine Wf.set ?_ (by repeat (first | with_reducible assumption | omega | (simp only [H.nx_push, H.nx_set]; omega) | exact At.lt (by assumption) | with_reducible refine lt_bump ?_ | with_reducible refine lt_set ?_ | exact lt_new | with_reducible refine lt_push ?_ | refine lt_grow ?_ (by assumption))) _ | refine Grow.wf (by assumption) ?_))) rfl rfl ?_; rintro _ _ ⟨⟨a1, c1, rfl, s1⟩, hq⟩; have hqn := hq.nx; (try simp only [H.nx_push, H.nx_set] at hqn)) | (refine wo_call rfl rfl rfl rfl (c135f (u.grow (by repeat (first | with_reducible assumption | with_reducible exact Grow.refl _ | with_reducible refine Grow.push ?_ _ | with_reducible refine Grow.bump ?_ _ | with_reducible refine Grow.set ?_ (by first | omega | (simp only [H.nx_push, H.nx_set]; omega)) (by repeat (first | with_reducible assumption | omega | (simp only [H.nx_push, H.nx_set]; omega) | exact At.lt (by assumption) | with_reducible refine lt_bump ?_ | with_reducible refine lt_set ?_ | exact lt_new | with_reducible refine lt_push ?_ | refine lt_grow ?_ (by assumption))) _ | refine Grow.trans ?_ (by assumption)))) hm k4 (by repeat (first | with_reducible assumption | exact Wf.empty | with_reducible refine Wf.push ?_ _ | with_reducible refine Wf.bump ?_ _ | with_reducible refine Wf.set ?_ (by repeat (first | with_reducible assumption | omega | (simp only [H.nx_push, H.nx_set]; omega) | exact At.lt (by assumption) | with_reducible refine lt_bump ?_ | with_reducible refine lt_set ?_ | exact lt_new | with_reducible refine lt_push ?_ | refine lt_grow ?_ (by assumption))) _ | refine Grow.wf (by assumption) ?_))) rfl rfl ?_; rintro _ _ ⟨⟨b1, d1, rfl, u1⟩, hq⟩; have hqn := hq.nx; (try simp only [H.nx_push, H.nx_set] at hqn))) | ((with_reducible refine ik_g ?_); first | ((with_reducible refine ig_move ?_); refine wo_grun rfl rfl rfl (op_move rfl) rfl rfl ?_) | ((with_reducible refine ig_bin ?_); refine wo_grun rfl rfl rfl (op_eql rfl rfl) rfl rfl ?_) | ((with_reducible refine ig_callb ?_); refine wo_grun rfl rfl rfl (op_lenSl rfl Tryz.underlying45) rfl rfl ?_) | (refine wo_gsplit rfl rfl rfl (fun hb => ?_) (fun hb => ?_) <;> (try simp only [decide_eq_true_eq, decide_eq_false_iff_not, Bool.not_eq_true', Bool.not_eq_false', Int.not_lt, Int.not_le, Decidable.not_not, not_true_eq_false, not_false_eq_true, beq_self_eq_true, reduceCtorEq] at hb) <;> (try (exfalso; omega))))) | with_reducible refine sq_norm ?_ | with_reducible refine wc_seq ?_ | with_reducible refine wc_region ?_ | with_reducible refine wc_skip ?_ | with_reducible refine wc_block ?_ | refine wc_iff rfl ?_ | (refine wc_if rfl (fun hb => ?_) (fun hb => ?_) <;> (try simp only [decide_eq_true_eq, decide_eq_false_iff_not, Bool.not_eq_true', Bool.not_eq_false', Int.not_lt, Int.not_le, Decidable.not_not, not_true_eq_false, not_false_eq_true, beq_self_eq_true, reduceCtorEq] at hb) <;> (try (exfalso; omega))))
    refine wc_cut (fun H0 : H => [(7, .slice a1 n c1), (8, .slice b1 m d1), (9, .slice (some ⟨H0.nx, 0, some 0⟩) N N), (40, .slice a1 n c1), (41, .int .i64 n), (42, .int .i64 0)])
      (fun H0 h' => Wf h' ∧ Grow h H0 ∧ Grow H0 h' ∧ Sl G H0 1 (.slice a1 n c1) n ((l.map smp).map (.int .i64)) ∧ Sl G H0 1 (.slice b1 m d1) m ((t.map smp).map (.int .i64)) ∧ At h' H0.nx (.cells (List.replicate N (.int .i64 0)) 3 1 false)) _ (within_lk ⟨rfl, rfl, rfl, rfl, rfl, rfl, trivial⟩) ⟨(by repeat (first | with_reducible assumption | exact Wf.empty | with_reducible refine Wf.push ?_ _ | with_reducible refine Wf.bump ?_ _ | with_reducible refine Wf.set ?_ (by repeat (first | with_reducible assumption | omega | (simp only [H.nx_push, H.nx_set]; omega) | exact At.lt (by assumption) | with_reducible refine lt_bump ?_ | with_reducible refine lt_set ?_ | exact lt_new | with_reducible refine lt_push ?_ | refine lt_grow ?_ (by assumption))) _ | refine Grow.wf (by assumption) ?_)), (by repeat (first | with_reducible assumption | with_reducible exact Grow.refl _ | with_reducible refine Grow.push ?_ _ | with_reducible refine Grow.bump ?_ _ | with_reducible refine Grow.set ?_ (by first | omega | (simp only [H.nx_push, H.nx_set]; omega)) (by repeat (first | with_reducible assumption | omega | (simp only [H.nx_push, H.nx_set]; omega) | exact At.lt (by assumption) | with_reducible refine lt_bump ?_ | with_reducible refine lt_set ?_ | exact lt_new | with_reducible refine lt_push ?_ | refine lt_grow ?_ (by assumption))) _ | refine Grow.trans ?_ (by assumption))), (Grow.refl _).push _, s1.grow (by repeat (first | with_reducible assumption | with_reducible exact Grow.refl _ | with_reducible refine Grow.push ?_ _ | with_reducible refine Grow.bump ?_ _ | with_reducible refine Grow.set ?_ (by first | omega | (simp only [H.nx_push, H.nx_set]; omega)) (by repeat (first | with_reducible assumption | omega | (simp only [H.nx_push, H.nx_set]; omega) | exact At.lt (by assumption) | with_reducible refine lt_bump ?_ | with_reducible refine lt_set ?_ | exact lt_new | with_reducible refine lt_push ?_ | refine lt_grow ?_ (by assumption))) _ | refine Grow.trans ?_ (by assumption))), u1, At.new _ _⟩ ?_
    clear q106 r106
    rintro H0 h1 ⟨hw1, hg0, hg1, s2, u2, hat0⟩
    have hX := smp_bound k2
    have hY := smp_bound k4
    have hB : ∀ a b, a < n → b < m → (cval (l.map smp) (t.map smp) a b).natAbs ≤ 16384 * 16384 := fun a b _ _ => prod_bound (getD_bound hX _) (getD_bound hY _)
    refine wc_loop (fun i => n - i) (fun i : Nat => [(7, .slice a1 n c1), (8, .slice b1 m d1), (9, .slice (some ⟨H0.nx, 0, some 0⟩) N N), (41, .int .i64 n), (42, .int .i64 i)])
      (fun i h' => Grow H0 h' ∧ At h' H0.nx (.cells (((List.range N).map (spread (rpos m) (cval (l.map smp) (t.map smp)) m i 0)).map (.int .i64)) 3 1 false) ∧ i ≤ n) 0 (within_lk ⟨rfl, rfl, rfl, rfl, rfl, trivial⟩) ⟨hg1, ?_, Nat.zero_le _⟩ ?_
    · have e : ((List.range N).map (spread (rpos m) (cval (l.map smp) (t.map smp)) m 0 0)).map (Value.int .i64) = List.replicate N (.int .i64 0) := by
        rw [List.map_map]
        refine List.ext_getElem (by simp) fun k h1 h2 => ?_
        simp [spread_none]
      rw [e]; exact hat0
    rintro i h' ⟨hgr, hat, hi⟩
    by_cases hlt : i < n
    · obtain ⟨ad, h1, h3⟩ := slI_at (s2.grow hgr) (i := (i : Int)) hlt rfl
      obtain ⟨x, hx⟩ : ∃ x, (l.map smp).getD i 0 = x := ⟨_, rfl⟩
      have hxb := getD_bound hX i
      rw [hx] at h3 hxb
      repeat' (first | with_reducible refine wo_nil ?_ | ((with_reducible refine wo_any ?_); first | ((with_reducible refine ik_move ?_); refine wo_op rfl (op_move rfl) rfl rfl ?_) | ((with_reducible refine ik_assign ?_); refine wo_op rfl (op_assign rfl) rfl rfl ?_) | ((with_reducible refine ik_bin ?_); refine wo_op rfl (op_lss rfl rfl) rfl rfl ?_) | ((with_reducible refine ik_callb ?_); refine wo_op rfl (op_lenSl rfl Tryz.underlying25) rfl rfl ?_)) | with_reducible refine sq_norm ?_ | with_reducible refine wc_seq ?_ | with_reducible refine wc_region ?_ | with_reducible refine wc_skip ?_ | with_reducible refine wc_block ?_ | (refine wc_if rfl (fun hb => ?_) (fun hb => ?_) <;> (try simp only [decide_eq_true_eq, decide_eq_false_iff_not, Bool.not_eq_true', Bool.not_eq_false', Int.not_lt, Int.not_le, Decidable.not_not, not_true_eq_false, not_false_eq_true, beq_self_eq_true, reduceCtorEq] at hb) <;> (try (exfalso; omega))))
      refine wc_loop (fun j => m - j) (fun j : Nat => [(7, .slice a1 n c1), (8, .slice b1 m d1), (9, .slice (some ⟨H0.nx, 0, some 0⟩) N N), (41, .int .i64 n), (42, .int .i64 i), (10, .int .i64 i), (46, .int .i64 m), (47, .int .i64 j)])
        (fun j h' => Grow H0 h' ∧ At h' H0.nx (.cells (((List.range N).map (spread (rpos m) (cval (l.map smp) (t.map smp)) m i j)).map (.int .i64)) 3 1 false) ∧ j ≤ m) 0 (within_lk ⟨rfl, rfl, rfl, rfl, rfl, rfl, rfl, rfl, trivial⟩) ⟨(by repeat (first | with_reducible assumption | with_reducible exact Grow.refl _ | with_reducible refine Grow.push ?_ _ | with_reducible refine Grow.bump ?_ _ | with_reducible refine Grow.set ?_ (by first | omega | (simp only [H.nx_push, H.nx_set]; omega)) (by repeat (first | with_reducible assumption | omega | (simp only [H.nx_push, H.nx_set]; omega) | exact At.lt (by assumption) | with_reducible refine lt_bump ?_ | with_reducible refine lt_set ?_ | exact lt_new | with_reducible refine lt_push ?_ | refine lt_grow ?_ (by assumption))) _ | refine Grow.trans ?_ (by assumption))), hat, Nat.zero_le _⟩ ?_
      rintro j h2' ⟨hgr2, hat2, hj⟩
      by_cases hjt : j < m
      · obtain ⟨xd, h1, h3⟩ := slI_at (s2.grow hgr2) (i := (i : Int)) hlt rfl
        rw [hx] at h3
        obtain ⟨bd, g1, g3⟩ := slI_at (u2.grow hgr2) (i := (j : Int)) hjt rfl
        obtain ⟨y, hy⟩ : ∃ y, (t.map smp).getD j 0 = y := ⟨_, rfl⟩
        have hyb := getD_bound hY j
        rw [hy] at g3 hyb
        have hpb := prod_bound hxb hyb
        have hsb := spread_bound (vl := cval (l.map smp) (t.map smp)) (pos := rpos m) (i + (m - 1 - j)) (m := m) (n := n) (i := i) (j := j) hlt hj hB
        obtain ⟨S, hS⟩ : ∃ S, spread (rpos m) (cval (l.map smp) (t.map smp)) m i j (i + (m - 1 - j)) = S := ⟨_, rfl⟩
        rw [hS] at hsb
        have hsb : S.natAbs ≤ 281474976710656 := Nat.le_trans hsb (Nat.le_trans (Nat.mul_le_mul (by omega : n ≤ 1024) (Nat.mul_le_mul_right _ (by omega : m ≤ 1024))) (by decide))
        have hv := get_spr (f := spread (rpos m) (cval (l.map smp) (t.map smp)) m i j) (N := N) (o := i + (m - 1 - j)) (by omega)
        rw [hS] at hv
        have hset : (((List.range N).map (spread (rpos m) (cval (l.map smp) (t.map smp)) m i j)).map (Value.int .i64)).set (i + (m - 1 - j)) (.int .i64 (S + x * y)) = _ := set_spr (rpos m) (cval (l.map smp) (t.map smp)) m i j N (u := S + x * y) (by show _ = spread (rpos m) (cval (l.map smp) (t.map smp)) m i j (i + (m - 1 - j)) + (l.map smp).getD i 0 * (t.map smp).getD j 0; rw [hS, hx, hy])
        repeat' (first | with_reducible refine wo_nil ?_ | ((with_reducible refine wo_any ?_); first | ((with_reducible refine ik_move ?_); refine wo_op rfl (op_move rfl) rfl rfl ?_) | ((with_reducible refine ik_assign ?_); refine wo_op rfl (op_assign rfl) rfl rfl ?_) | ((with_reducible refine ik_bin ?_); first | refine wo_op rfl (op_add' rfl rfl (w64 (by omega) (by omega))) rfl rfl ?_ | refine wo_op rfl (op_lss rfl rfl) rfl rfl ?_)) | ((with_reducible refine xk_any ?_); ((with_reducible refine xk_as0 ?_); first | ((with_reducible refine xk_move ?_); refine wx_q (wt_none rfl) rfl rfl (op_q rfl (op_move rfl)) rfl rfl rfl ?_) | ((with_reducible refine xk_indexAddr ?_); first | refine wx_q (wt_none rfl) rfl rfl (op_q rfl (op_indexAddr rfl rfl h1)) rfl rfl rfl ?_ | refine wx_q (wt_none rfl) rfl rfl (op_q rfl (op_indexAddr rfl rfl g1)) rfl rfl rfl ?_ | refine wx_q (wt_none rfl) rfl rfl (op_q rfl (op_idxSl (o := i + (m - 1 - j)) rfl rfl Tryz.underlying25 zs3 (by omega) (by omega) (by omega))) rfl rfl rfl ?_) | ((with_reducible refine xk_load ?_); first | refine wx_h0 (wt_none rfl) rfl (op_q rfl (op_ldCell rfl Tryz.underlying3 rfl h3)) rfl rfl rfl ?_ | refine wx_h0 (wt_none rfl) rfl (op_q rfl (op_ldCell rfl Tryz.underlying3 rfl g3)) rfl rfl rfl ?_ | refine wx_h0 (wt_none rfl) rfl (op_q rfl (op_ldIdx rfl (by repeat (first | with_reducible assumption | exact At.new _ _ | with_reducible refine At.bump ?_ | with_reducible exact At.lay (by repeat (first | with_reducible assumption | omega | (simp only [H.nx_push, H.nx_set]; omega) | exact At.lt (by assumption) | with_reducible refine lt_bump ?_ | with_reducible refine lt_set ?_ | exact lt_new | with_reducible refine lt_push ?_ | refine lt_grow ?_ (by assumption))) | (with_reducible refine At.set_ne ?_ ?hne _; (case hne => first | omega | (simp only [H.nx_push, H.nx_set]; omega))) | with_reducible refine At.push ?_ _ | refine At.grow ?_ (by assumption))) Tryz.underlying3 rfl hv)) rfl rfl rfl ?_) | ((with_reducible refine xk_store ?_); refine wx_ee0 (wt_none rfl) rfl rfl (op_stIdx rfl rfl (by repeat (first | with_reducible assumption | exact At.new _ _ | with_reducible refine At.bump ?_ | with_reducible exact At.lay (by repeat (first | with_reducible assumption | omega | (simp only [H.nx_push, H.nx_set]; omega) | exact At.lt (by assumption) | with_reducible refine lt_bump ?_ | with_reducible refine lt_set ?_ | exact lt_new | with_reducible refine lt_push ?_ | refine lt_grow ?_ (by assumption))) | (with_reducible refine At.set_ne ?_ ?hne _; (case hne => first | omega | (simp only [H.nx_push, H.nx_set]; omega))) | with_reducible refine At.push ?_ _ | refine At.grow ?_ (by assumption))) rfl zs3 (by simp; omega) rfl hset) rfl ?_) | ((with_reducible refine xk_bin ?_); first | refine wx_q (wt_none rfl) rfl rfl (op_q rfl (op_add' rfl rfl (w64 (by omega) (by omega)))) rfl rfl rfl ?_ | refine wx_q (wt_none rfl) rfl rfl (op_q rfl (op_sub' rfl rfl (w64 (by omega) (by omega)))) rfl rfl rfl ?_ | refine wx_q (wt_none rfl) rfl rfl (op_q rfl (op_mul' rfl rfl (w64 (by omega) (by omega)))) rfl rfl rfl ?_) | ((with_reducible refine xk_callb ?_); refine wx_q (wt_none rfl) rfl rfl (op_q rfl (op_lenSl rfl Tryz.underlying25)) rfl rfl rfl ?_) | with_reducible refine wx_nil0 ?_ ?_)) | with_reducible exact obl_nil | with_reducible refine obl_cons ?_ ?_ | ((with_reducible refine ik_obs ?_); first | exact obs_nil | refine obs_skip rfl ?_ | refine obs_chkn rfl rfl (op_q rfl (op_ldCell rfl Tryz.underlying3 rfl h3)) ?_ | refine obs_chkn rfl rfl (op_q rfl (op_ldCell rfl Tryz.underlying3 rfl g3)) ?_ | refine obs_chkn rfl rfl (op_q rfl (op_ldIdx rfl (by repeat (first | with_reducible assumption | exact At.new _ _ | with_reducible refine At.bump ?_ | with_reducible exact At.lay (by repeat (first | with_reducible assumption | omega | (simp only [H.nx_push, H.nx_set]; omega) | exact At.lt (by assumption) | with_reducible refine lt_bump ?_ | with_reducible refine lt_set ?_ | exact lt_new | with_reducible refine lt_push ?_ | refine lt_grow ?_ (by assumption))) | (with_reducible refine At.set_ne ?_ ?hne _; (case hne => first | omega | (simp only [H.nx_push, H.nx_set]; omega))) | with_reducible refine At.push ?_ _ | refine At.grow ?_ (by assumption))) Tryz.underlying3 rfl hv)) ?_) | with_reducible refine sq_norm ?_ | with_reducible refine wc_seq ?_ | with_reducible refine wc_region ?_ | with_reducible refine wc_skip ?_ | with_reducible refine wc_block ?_ | with_reducible refine bq_norm ?_ | (refine wc_if rfl (fun hb => ?_) (fun hb => ?_) <;> (try simp only [decide_eq_true_eq, decide_eq_false_iff_not, Bool.not_eq_true', Bool.not_eq_false', Int.not_lt, Int.not_le, Decidable.not_not, not_true_eq_false, not_false_eq_true, beq_self_eq_true, reduceCtorEq] at hb) <;> (try (exfalso; omega))) | refine wc_draw (id := 14) 22 [0, 0, 0, 6, 0, 16, 62, 126, 255, 511, 0, 0, 3072, 7168, 0, 0, 49152, 114688, 261120, 524287, 1048575, 2097151] [0, 1, 2, 3, 4, 5, 6, 7, 8, 9, 10, 11, 12, 13, 14, 15, 16, 17, 18, 19, 20, 21] (by kernel_rfl) (by kernel_rfl) rfl rfl rfl ?_)
        all_goals exact lq_norm (j + 1) (by omega) (within_lk ⟨rfl, rfl, rfl, rfl, rfl, rfl, rfl, rfl, trivial⟩) ⟨(by repeat (first | with_reducible assumption | with_reducible exact Grow.refl _ | with_reducible refine Grow.push ?_ _ | with_reducible refine Grow.bump ?_ _ | with_reducible refine Grow.set ?_ (by first | omega | (simp only [H.nx_push, H.nx_set]; omega)) (by repeat (first | with_reducible assumption | omega | (simp only [H.nx_push, H.nx_set]; omega) | exact At.lt (by assumption) | with_reducible refine lt_bump ?_ | with_reducible refine lt_set ?_ | exact lt_new | with_reducible refine lt_push ?_ | refine lt_grow ?_ (by assumption))) _ | refine Grow.trans ?_ (by assumption))), (by repeat (first | with_reducible assumption | exact At.new _ _ | with_reducible refine At.bump ?_ | with_reducible exact At.lay (by repeat (first | with_reducible assumption | omega | (simp only [H.nx_push, H.nx_set]; omega) | exact At.lt (by assumption) | with_reducible refine lt_bump ?_ | with_reducible refine lt_set ?_ | exact lt_new | with_reducible refine lt_push ?_ | refine lt_grow ?_ (by assumption))) | (with_reducible refine At.set_ne ?_ ?hne _; (case hne => first | omega | (simp only [H.nx_push, H.nx_set]; omega))) | with_reducible refine At.push ?_ _ | refine At.grow ?_ (by assumption))), by omega⟩
      · have hjm : j = m := by omega
        subst hjm
        repeat' (first | with_reducible refine wo_nil ?_ | ((with_reducible refine wo_any ?_); first | ((with_reducible refine ik_move ?_); refine wo_op rfl (op_move rfl) rfl rfl ?_) | ((with_reducible refine ik_bin ?_); first | refine wo_op rfl (op_add' rfl rfl (w64 (by omega) (by omega))) rfl rfl ?_ | refine wo_op rfl (op_lss rfl rfl) rfl rfl ?_)) | with_reducible refine sq_norm ?_ | with_reducible refine wc_seq ?_ | with_reducible refine wc_region ?_ | with_reducible refine wc_exit ?_ | with_reducible refine bq_norm ?_ | with_reducible refine sq_exit ?_ | with_reducible refine lq_exit ?_ | refine bq_eq rfl ?_ | (refine wc_if rfl (fun hb => ?_) (fun hb => ?_) <;> (try simp only [decide_eq_true_eq, decide_eq_false_iff_not, Bool.not_eq_true', Bool.not_eq_false', Int.not_lt, Int.not_le, Decidable.not_not, not_true_eq_false, not_false_eq_true, beq_self_eq_true, reduceCtorEq] at hb) <;> (try (exfalso; omega))))
        have e : spread (rpos j) (cval (l.map smp) (t.map smp)) j i j = spread (rpos j) (cval (l.map smp) (t.map smp)) j (i + 1) 0 := funext fun k => (spread_row _ _ _ _ _).symm
        rw [e] at hat2
        exact lq_norm (i + 1) (by omega) (within_lk ⟨rfl, rfl, rfl, rfl, rfl, trivial⟩) ⟨(by repeat (first | with_reducible assumption | with_reducible exact Grow.refl _ | with_reducible refine Grow.push ?_ _ | with_reducible refine Grow.bump ?_ _ | with_reducible refine Grow.set ?_ (by first | omega | (simp only [H.nx_push, H.nx_set]; omega)) (by repeat (first | with_reducible assumption | omega | (simp only [H.nx_push, H.nx_set]; omega) | exact At.lt (by assumption) | with_reducible refine lt_bump ?_ | with_reducible refine lt_set ?_ | exact lt_new | with_reducible refine lt_push ?_ | refine lt_grow ?_ (by assumption))) _ | refine Grow.trans ?_ (by assumption))), hat2, by omega⟩
    · have hin : i = n := by omega
      subst hin
      repeat' (first | with_reducible refine wo_nil ?_ | ((with_reducible refine wo_any ?_); first | ((with_reducible refine ik_move ?_); refine wo_op rfl (op_move rfl) rfl rfl ?_) | ((with_reducible refine ik_assign ?_); refine wo_op rfl (op_assign rfl) rfl rfl ?_) | ((with_reducible refine ik_bin ?_); refine wo_op rfl (op_lss rfl rfl) rfl rfl ?_)) | with_reducible refine sq_norm ?_ | with_reducible refine wc_seq ?_ | with_reducible refine wc_region ?_ | with_reducible refine wc_ret ?_ | with_reducible refine wc_exit ?_ | with_reducible refine sq_exit ?_ | with_reducible refine lq_exit ?_ | refine bq_eq rfl ?_ | (refine wc_if rfl (fun hb => ?_) (fun hb => ?_) <;> (try simp only [decide_eq_true_eq, decide_eq_false_iff_not, Bool.not_eq_true', Bool.not_eq_false', Int.not_lt, Int.not_le, Decidable.not_not, not_true_eq_false, not_false_eq_true, beq_self_eq_true, reduceCtorEq] at hb) <;> (try (exfalso; omega))))
      have e : (List.range N).map (spread (rpos m) (cval (l.map smp) (t.map smp)) m i 0) = corL (l.map smp) (t.map smp) := by rw [← cor_same]; unfold corS; rw [hxL, hyL, hN2]
      rw [e] at hat
      refine rq2 rfl rfl ⟨fin ?_, (by repeat (first | with_reducible assumption | with_reducible exact Grow.refl _ | with_reducible refine Grow.push ?_ _ | with_reducible refine Grow.bump ?_ _ | with_reducible refine Grow.set ?_ (by first | omega | (simp only [H.nx_push, H.nx_set]; omega)) (by repeat (first | with_reducible assumption | omega | (simp only [H.nx_push, H.nx_set]; omega) | exact At.lt (by assumption) | with_reducible refine lt_bump ?_ | with_reducible refine lt_set ?_ | exact lt_new | with_reducible refine lt_push ?_ | refine lt_grow ?_ (by assumption))) _ | refine Grow.trans ?_ (by assumption)))⟩
      rw [if_neg hn0]
      refine ⟨_, rfl, ?_⟩
      rw [← hN2]
      exact Sl.ofAt hat (by simp [corL, hl, ht, hN2]) (Nat.le_refl _)
  · refine cf_enter0 74 [.tmp 4, .tmp 5] Tryz.func61 rfl rfl rfl rfl ?_
    repeat' (first | with_reducible refine wo_nil ?_ | ((with_reducible refine wo_any ?_); first | ((with_reducible refine ik_move ?_); refine wo_op rfl (op_move rfl) rfl rfl ?_) | ((with_reducible refine ik_assign ?_); refine wo_op rfl (op_assign rfl) rfl rfl ?_) | ((with_reducible refine ik_buildSlice ?_); refine wo_op rfl (op_buildSl rfl Tryz.underlying219 zs26 zz26 rfl rfl) rfl rfl ?_) | ((with_reducible refine ik_bin ?_); refine wo_op rfl (op_neq rfl rfl) rfl rfl ?_) | ((with_reducible refine ik_callF (f := 107) ?_); first | refine wo_op rfl (op_call rfl rfl (c107 (s.grow (by repeat (first | with_reducible assumption | with_reducible exact Grow.refl _ | with_reducible refine Grow.push ?_ _ | with_reducible refine Grow.bump ?_ _ | with_reducible refine Grow.set ?_ (by first | omega | (simp only [H.nx_push, H.nx_set]; omega)) (by repeat (first | with_reducible assumption | omega | (simp only [H.nx_push, H.nx_set]; omega) | exact At.lt (by assumption) | with_reducible refine lt_bump ?_ | with_reducible refine lt_set ?_ | exact lt_new | with_reducible refine lt_push ?_ | refine lt_grow ?_ (by assumption))) _ | refine Grow.trans ?_ (by assumption)))) hn)) rfl rfl ?_ | refine wo_op rfl (op_call rfl rfl (c107 (u.grow (by repeat (first | with_reducible assumption | with_reducible exact Grow.refl _ | with_reducible refine Grow.push ?_ _ | with_reducible refine Grow.bump ?_ _ | with_reducible refine Grow.set ?_ (by first | omega | (simp only [H.nx_push, H.nx_set]; omega)) (by repeat (first | with_reducible assumption | omega | (simp only [H.nx_push, H.nx_set]; omega) | exact At.lt (by assumption) | with_reducible refine lt_bump ?_ | with_reducible refine lt_set ?_ | exact lt_new | with_reducible refine lt_push ?_ | refine lt_grow ?_ (by assumption))) _ | refine Grow.trans ?_ (by assumption)))) hm)) rfl rfl ?_) | ((with_reducible refine ik_callF (f := 90) ?_); refine wo_op rfl (op_call rfl rfl (c90 (es := [_, _]) (n := 2) (Sl.ofAt ((by repeat (first | with_reducible assumption | exact At.new _ _ | with_reducible refine At.bump ?_ | with_reducible exact At.lay (by repeat (first | with_reducible assumption | omega | (simp only [H.nx_push, H.nx_set]; omega) | exact At.lt (by assumption) | with_reducible refine lt_bump ?_ | with_reducible refine lt_set ?_ | exact lt_new | with_reducible refine lt_push ?_ | refine lt_grow ?_ (by assumption))) | (with_reducible refine At.set_ne ?_ ?hne _; (case hne => first | omega | (simp only [H.nx_push, H.nx_set]; omega))) | with_reducible refine At.push ?_ _ | refine At.grow ?_ (by assumption)))) rfl (Nat.le_refl _)) (by omega))) rfl rfl ?_)) | with_reducible refine sq_norm ?_ | with_reducible refine wc_seq ?_ | with_reducible refine wc_region ?_ | with_reducible refine wc_ret ?_ | with_reducible refine sq_ret ?_ | (refine wc_if rfl (fun hb => ?_) (fun hb => ?_) <;> (try simp only [decide_eq_true_eq, decide_eq_false_iff_not, Bool.not_eq_true', Bool.not_eq_false', Int.not_lt, Int.not_le, Decidable.not_not, not_true_eq_false, not_false_eq_true, beq_self_eq_true, reduceCtorEq] at hb) <;> (try (exfalso; omega))))
    refine rq2 rfl rfl ⟨?_, (by repeat (first | with_reducible assumption | with_reducible exact Grow.refl _ | with_reducible refine Grow.push ?_ _ | with_reducible refine Grow.bump ?_ _ | with_reducible refine Grow.set ?_ (by first | omega | (simp only [H.nx_push, H.nx_set]; omega)) (by repeat (first | with_reducible assumption | omega | (simp only [H.nx_push, H.nx_set]; omega) | exact At.lt (by assumption) | with_reducible refine lt_bump ?_ | with_reducible refine lt_set ?_ | exact lt_new | with_reducible refine lt_push ?_ | refine lt_grow ?_ (by assumption))) _ | refine Grow.trans ?_ (by assumption)))⟩
    unfold corR
    rw [if_pos hz]
end Go.Proofs.YthnnndkfpamacaaGreatDoor
