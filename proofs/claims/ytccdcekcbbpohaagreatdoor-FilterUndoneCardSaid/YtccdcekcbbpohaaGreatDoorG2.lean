/- What is heard of a list. -/
import Derived.Test.YtccdcekcbbpohaaGreatDoorG1
set_option linter.all false
/- Ghosts, by the program and by the reference. -/
namespace Go.Proofs.YtccdcekcbbpohaaGreatDoor
open Go Go.Ab Go.Fl
set_option maxRecDepth 10000
variable {G : Base} {h : H}
theorem gtap_len (d : Nat) : (gtap d).length = d + 1 := by simp [gtap]
theorem gtap_at {d k : Nat} : (gtap d).getD k 0 = if k = 0 then 1 else if k = d then -1 else 0 := by
  by_cases q : k < d + 1
  · unfold gtap; rw [getD_row q]
  · rw [getD_out (by rw [gtap_len]; omega), if_neg (by omega), if_neg (by omega)]
theorem app_gtap {d : Nat} (hd : 1 ≤ d) (l : List Int) : appL (gtap d) l = ghoL l d := by
  refine getD_ext (by simp [appL, ghoL]) fun i hi => ?_
  rw [appL_len] at hi
  rw [app_at hi]
  unfold ghoL
  rw [getD_row hi, gtap_len]
  have e : sumN (d + 1) (appv (gtap d) l i) = sumN (d + 1) (fun k => (if k = 0 then l.getD i 0 else 0) + (if k = d then (if d ≤ i then -l.getD (i - d) 0 else 0) else 0)) := by
    refine sumN_congr fun k _ => ?_
    unfold appv
    rw [gtap_at]
    by_cases q : k = 0
    · subst q
      simp only [if_true, Nat.zero_le, Nat.sub_zero]
      rw [if_neg (by omega)]; omega
    · rw [if_neg q, if_neg q]
      by_cases r : k = d
      · subst r
        simp only [if_true]
        split <;> omega
      · rw [if_neg r, if_neg r]
        split <;> omega
  rw [e, sumN_add, sumN_one (a := 0) (fun k _ hk => by rw [if_neg hk]), sumN_one (a := d) (fun k _ hk => by rw [if_neg hk])]
  rw [if_pos (by omega), if_pos rfl, if_pos (by omega), if_pos rfl]
  split <;> omega
theorem gtap_bound (d : Nat) : ∀ x ∈ gtap d, x.natAbs ≤ 16 := fun x hx => by
  unfold gtap at hx
  obtain ⟨k, _, rfl⟩ := List.mem_map.1 hx
  split
  · decide
  · split <;> decide

/-! without the ghost -/
def dghA (l : List Int) (d : Nat) : Nat → List Int
  | 0 => []
  | i + 1 => dghA l d i ++ [l.getD i 0 + (if d ≤ i then (dghA l d i).getD (i - d) 0 else 0)]
def dghL (l : List Int) (d : Nat) : List Int := dghA l d l.length
theorem dghA_len (l : List Int) (d : Nat) : ∀ i, (dghA l d i).length = i
  | 0 => rfl
  | i + 1 => by unfold dghA; rw [List.length_append, dghA_len l d i]; rfl
theorem dghA_boundC {l : List Int} {C : Nat} (hl : ∀ x ∈ l, x.natAbs ≤ C) (d : Nat) : ∀ i, ∀ x ∈ dghA l d i, x.natAbs ≤ i * C
  | 0, x, hx => by cases hx
  | i + 1, x, hx => by
    have ih := dghA_boundC hl d i
    unfold dghA at hx
    have hsm : (i + 1) * C = i * C + C := Nat.succ_mul i C
    rw [hsm]
    rcases List.mem_append.1 hx with hx | hx
    · have := ih x hx
      omega
    · rw [List.mem_singleton] at hx
      subst hx
      have h1 := getD_bound hl i
      have h2 := getD_bound ih (i - d)
      split <;> omega
theorem dghA_bound {l : List Int} (hl : ∀ x ∈ l, x.natAbs ≤ 16384) (d : Nat) : ∀ i, ∀ x ∈ dghA l d i, x.natAbs ≤ i * 16384 := dghA_boundC hl d
theorem undI_gtap {d : Nat} (hd : 1 ≤ d) {o : List Int} {i : Nat} {x : Int} (hx : x.natAbs ≤ 16384) (ho : ∀ z ∈ o, z.natAbs ≤ 100000000) (hi : o.length = i) : ∀ j, j ≤ min d i → undI (gtap d) o i x j = if j = d then x + o.getD (i - d) 0 else x
  | 0, _ => by rw [if_neg (by omega)]; rfl
  | j + 1, hj => by
    have ih := undI_gtap hd hx ho hi j (by omega)
    rw [if_neg (by omega)] at ih
    unfold undI
    rw [ih, gtap_at, if_neg (by omega)]
    have hb := getD_bound ho (i - j - 1)
    by_cases q : j + 1 = d
    · have e1 : wr (-1 * o.getD (i - j - 1) 0) = -1 * o.getD (i - j - 1) 0 := wr_id (by omega)
      rw [if_pos q, if_pos q, e1, wr_id (by omega)]
      rw [show i - d = i - j - 1 by omega]; omega
    · have e1 : wr 0 = 0 := wr_id (by decide)
      rw [if_neg q, if_neg q, Int.zero_mul, e1, Int.sub_zero, wr_id (by omega)]
theorem und_gtap {d : Nat} (hd : 1 ≤ d) {l : List Int} (hl : ∀ x ∈ l, x.natAbs ≤ 16384) : ∀ i, i ≤ 1024 → undA (gtap d) l i = dghA l d i
  | 0, _ => rfl
  | i + 1, hi => by
    have ih := und_gtap hd hl i (by omega)
    have hbd : ∀ z ∈ dghA l d i, z.natAbs ≤ 100000000 := fun z hz => by
      have := dghA_bound hl d i z hz
      have : i * 16384 ≤ 1024 * 16384 := Nat.mul_le_mul_right _ (by omega)
      omega
    have hx := getD_bound hl i
    have e := undI_gtap hd hx hbd (dghA_len l d i) (min d i) (Nat.le_refl _)
    unfold undA dghA
    rw [ih, gtap_len, show min (d + 1 - 1) i = min d i by omega, e, gtap_at, if_pos rfl, Int.mul_one]
    have hb := getD_bound hbd (i - d)
    by_cases q : d ≤ i
    · rw [if_pos (by omega), if_pos q, wr_id (by omega)]
    · rw [if_neg (by omega), if_neg q, Int.add_zero, wr_id (by omega)]
attribute [local irreducible] SeqQ BlkQ LpQ RetQ Wc Wo WD WX Op1 Op1q Op1a Cf Cl From
attribute [local irreducible] Ieee.Format.order Ieee.Format.read Ieee.Format.nearest Ieee.Format.write Ieee.Format.mul Ieee.Format.div Ieee.Datum.order Ieee.Datum.integral smpE smp smpW K J U sumN lchk tchk trE hdrE appL undL undA undI wr ghoL
set_option maxRecDepth 10000

theorem c90 (x : Int) : Cl (mz G) (.func (.func 90) #[] #[]) [.int .i64 x] h (.int .i64 (rngE x 1 64)) h := by
  refine cl_of_cf (cf_enter0 5 [.tmp 2] Tryz.func90 rfl rfl rfl rfl ?_)
  repeat' (first | with_reducible refine wo_nil ?_ | ((with_reducible refine wo_any ?_); first | ((with_reducible refine ik_move ?_); refine wo_op rfl (op_move rfl) rfl rfl ?_) | ((with_reducible refine ik_assign ?_); refine wo_op rfl (op_assign rfl) rfl rfl ?_) | ((with_reducible refine ik_callF (f := 89) ?_); refine wo_op rfl (op_call rfl rfl (c89 x 1 64)) rfl rfl ?_)) | with_reducible refine sq_norm ?_ | with_reducible refine wc_seq ?_ | with_reducible refine wc_region ?_ | with_reducible refine wc_ret ?_)
  exact rq1 rfl ⟨rfl, rfl⟩
theorem rng_in {x : Int} (h : rngE x 1 64 = 0) : ∃ d : Nat, x = (d : Int) ∧ 1 ≤ d ∧ d ≤ 64 := by
  rcases rng_cases x 1 64 with ⟨_, r1, r2⟩ | ⟨e, _⟩
  · exact ⟨x.toNat, by omega, by omega, by omega⟩
  · rw [e] at h; exact absurd h (by decide)
theorem gho_bound {l : List Int} (hl : ∀ x ∈ l, x.natAbs ≤ 16384) (d : Nat) : ∀ x ∈ ghoL l d, x.natAbs ≤ 1000000000000 := fun x hx => by
  unfold ghoL at hx
  obtain ⟨i, _, rfl⟩ := List.mem_map.1 hx
  have h1 := getD_bound hl i
  have h2 := getD_bound hl (i - d)
  split <;> omega
theorem dgh_bound {l : List Int} (hl : ∀ x ∈ l, x.natAbs ≤ 16384) (hn : l.length ≤ 1024) (d : Nat) : ∀ x ∈ dghL l d, x.natAbs ≤ 1000000000000 := fun x hx => by
  have := dghA_bound hl d _ x hx
  have : l.length * 16384 ≤ 1024 * 16384 := Nat.mul_le_mul_right _ hn
  omega
set_option maxHeartbeats 1000000 in
theorem c32 {v : Value} {n : Nat} {l : List Nat} (x : Int) (u : Sl G h 1 v n (l.map (.float .f32))) (hn : n < 1000000) (hw : Wf h) (hG : ∀ a v, laidBase a = some v → G a = some v) :
    Cf (mz G) (.func (.func 32) #[] #[]) [v, .int .i64 x] h fun r h' => MadeF G h' r n (madeE (firstNZ [lchk l, rngE x 1 64]) (ghoL (l.map smp) x.toNat)) (ghoL (l.map smp) x.toNat) ∧ Grow h h' := by
  obtain ⟨b, d0, rfl⟩ := u.form
  have hl := u.length
  simp at hl
  have q73 := fun (h' : H) (g : Grow h h') (w' : Wf h') => c73 (u.grow g) hn w' hG
  have q90 := fun (h : H) => c90 (G := G) (h := h) x
  by_cases hz : firstNZ [lchk l, rngE x 1 64] = 0
  · have hz2 := firstNZ_zero hz
    have z1 : lchk l = 0 := hz2 _ (by simp)
    have z2 : rngE x 1 64 = 0 := hz2 _ (by simp)
    rw [z1] at q73
    rw [z2] at q90
    rw [hz]
    obtain ⟨d, rfl, d1, d2⟩ := rng_in z2
    obtain ⟨k1, k2⟩ := lchk_ok z1
    rw [Int.toNat_natCast]
    have hbd := gho_bound (smp_bound k2) d
    obtain ⟨L, hL⟩ : ∃ L, ghoL (l.map smp) d = L := ⟨_, rfl⟩
    have hLn : L.length = n := by rw [← hL]; simp [ghoL, hl]
    have hap := app_gtap d1 (l.map smp)
    rw [hL] at hap hbd
    rw [hL]
    have q75 := fun (h' : H) (v w : Value) (u1 : Sl G h' 1 v (d + 1) ((gtap d).map (.int .i64))) (u2 : Sl G h' 1 w n ((l.map smp).map (.int .i64))) (w' : Wf h') => c75 (G := G) (h := h') u1 u2 (by omega) (by omega) (gtap_bound d) (smp_bound k2) w'
    rw [hap] at q75
    refine cf_enter0 24 [.tmp 4, .tmp 5] Tryz.func32 rfl rfl rfl rfl ?_
    repeat' (first | with_reducible refine wo_nil ?_ | ((with_reducible refine wo_any ?_); first | ((with_reducible refine ik_move ?_); refine wo_op rfl (op_move rfl) rfl rfl ?_) | ((with_reducible refine ik_assign ?_); refine wo_op rfl (op_assign rfl) rfl rfl ?_) | ((with_reducible refine ik_buildSlice ?_); refine wo_op rfl (op_buildSl rfl Tryz.underlying163 zs29 zz29 rfl rfl) rfl rfl ?_) | ((with_reducible refine ik_bin ?_); refine wo_op rfl (op_neq rfl rfl) rfl rfl ?_) | ((with_reducible refine ik_extract ?_); refine wo_op rfl (op_extract rfl rfl) rfl rfl ?_) | ((with_reducible refine ik_callv ?_); first | refine wo_op rfl (op_call rfl rfl (q90 _)) rfl rfl ?_ | (refine wo_call rfl rfl rfl rfl (q73 _ gr_A wf_A) rfl rfl ?_; rintro _ _ ⟨rfl, hq⟩; all_goals ((try (have hqn := hq.nx)); (try simp only [H.nx_push, H.nx_set, H.nx_bump] at hqn))) | (refine wo_call rfl rfl rfl rfl (q75 _ _ _ (Sl.ofAt (at_A) (by simp [gtap_len]) (Nat.le_refl _)) sl wf_A) rfl rfl ?_; rintro _ _ ⟨⟨rfl, at2⟩, hq, hw2⟩; all_goals ((try (have hqn := hq.nx)); (try simp only [H.nx_push, H.nx_set, H.nx_bump] at hqn)))) | ((with_reducible refine ik_callF (f := 72) ?_); refine wo_op rfl (op_call rfl rfl (c72 (es := [0, 0]) (n := 2) (Sl.ofAt (at_A) rfl (Nat.le_refl _)) (by omega))) rfl rfl ?_) | ((with_reducible refine ik_callF (f := 91) ?_); (refine wo_call rfl rfl rfl rfl (c91 d1 d2 wf_A) rfl rfl ?_; rintro _ _ ⟨⟨rfl, at1⟩, hq⟩; all_goals ((try (have hqn := hq.nx)); (try simp only [H.nx_push, H.nx_set, H.nx_bump] at hqn)))) | ((with_reducible refine ik_callF (f := 76) ?_); (refine wo_call rfl rfl rfl rfl (c76 (u.grow gr_A) hn k2 wf_A) rfl rfl ?_; rintro _ _ ⟨sl, hq⟩; all_goals ((try (have hqn := hq.nx)); (try simp only [H.nx_push, H.nx_set, H.nx_bump] at hqn)))) | ((with_reducible refine ik_callF (f := 74) ?_); (refine wo_call rfl rfl rfl rfl (c74m (Sl.ofAt at2 (by simp [hLn]) (Nat.le_refl _)) (by omega) wf_A hbd) rfl rfl ?_; rintro _ _ ⟨⟨U1, E1, rfl, mf⟩, hq⟩; all_goals ((try (have hqn := hq.nx)); (try simp only [H.nx_push, H.nx_set, H.nx_bump] at hqn))))) | with_reducible refine sq_norm ?_ | with_reducible refine wc_seq ?_ | with_reducible refine wc_region ?_ | with_reducible refine wc_skip ?_ | with_reducible refine wc_ret ?_ | refine wc_iff rfl ?_)
    exact rq2 rfl rfl ⟨mf, gr_A⟩
  · refine cf_enter0 24 [.tmp 4, .tmp 5] Tryz.func32 rfl rfl rfl rfl ?_
    repeat' (first | with_reducible refine wo_nil ?_ | ((with_reducible refine wo_any ?_); first | ((with_reducible refine ik_move ?_); refine wo_op rfl (op_move rfl) rfl rfl ?_) | ((with_reducible refine ik_assign ?_); refine wo_op rfl (op_assign rfl) rfl rfl ?_) | ((with_reducible refine ik_buildSlice ?_); refine wo_op rfl (op_buildSl rfl Tryz.underlying163 zs29 zz29 rfl rfl) rfl rfl ?_) | ((with_reducible refine ik_bin ?_); refine wo_op rfl (op_neq rfl rfl) rfl rfl ?_) | ((with_reducible refine ik_callv ?_); first | refine wo_op rfl (op_call rfl rfl (q90 _)) rfl rfl ?_ | (refine wo_call rfl rfl rfl rfl (q73 _ gr_A wf_A) rfl rfl ?_; rintro _ _ ⟨rfl, hq⟩; all_goals ((try (have hqn := hq.nx)); (try simp only [H.nx_push, H.nx_set, H.nx_bump] at hqn)))) | ((with_reducible refine ik_callF (f := 72) ?_); refine wo_op rfl (op_call rfl rfl (c72 (es := [_, _]) (n := 2) (Sl.ofAt (at_A) rfl (Nat.le_refl _)) (by omega))) rfl rfl ?_)) | with_reducible refine sq_norm ?_ | with_reducible refine wc_seq ?_ | with_reducible refine wc_region ?_ | with_reducible refine wc_ret ?_ | with_reducible refine sq_ret ?_ | (refine wc_if rfl (fun hb => ?_) (fun hb => ?_) <;> (try simp only [decide_eq_true_eq, decide_eq_false_iff_not, Bool.not_eq_true', Bool.not_eq_false', Int.not_lt, Int.not_le, Decidable.not_not, not_true_eq_false, not_false_eq_true, beq_self_eq_true, reduceCtorEq] at hb) <;> (try (exfalso; omega))))
    refine rq2 rfl rfl ⟨.inl ?_, gr_A⟩
    unfold madeE
    rw [if_pos hz]
    exact ⟨hz, rfl⟩
set_option maxHeartbeats 1000000 in
theorem c33 {v : Value} {n : Nat} {l : List Nat} (x : Int) (u : Sl G h 1 v n (l.map (.float .f32))) (hn : n < 1000000) (hw : Wf h) (hG : ∀ a v, laidBase a = some v → G a = some v) :
    Cf (mz G) (.func (.func 33) #[] #[]) [v, .int .i64 x] h fun r h' => MadeF G h' r n (madeE (firstNZ [lchk l, rngE x 1 64]) (dghL (l.map smp) x.toNat)) (dghL (l.map smp) x.toNat) ∧ Grow h h' := by
  obtain ⟨b, d0, rfl⟩ := u.form
  have hl := u.length
  simp at hl
  have q73 := fun (h' : H) (g : Grow h h') (w' : Wf h') => c73 (u.grow g) hn w' hG
  have q90 := fun (h : H) => c90 (G := G) (h := h) x
  by_cases hz : firstNZ [lchk l, rngE x 1 64] = 0
  · have hz2 := firstNZ_zero hz
    have z1 : lchk l = 0 := hz2 _ (by simp)
    have z2 : rngE x 1 64 = 0 := hz2 _ (by simp)
    rw [z1] at q73
    rw [z2] at q90
    rw [hz]
    obtain ⟨d, rfl, d1, d2⟩ := rng_in z2
    obtain ⟨k1, k2⟩ := lchk_ok z1
    rw [Int.toNat_natCast]
    have hbd := dgh_bound (smp_bound k2) (by simp; omega) d
    obtain ⟨L, hL⟩ : ∃ L, dghL (l.map smp) d = L := ⟨_, rfl⟩
    have hLn : L.length = n := by rw [← hL]; unfold dghL; rw [dghA_len]; simp [hl]
    have hap : undL (gtap d) (l.map smp) = L := by rw [← hL]; unfold undL dghL; exact und_gtap d1 (smp_bound k2) _ (by simp; omega)
    rw [hL] at hbd
    rw [hL]
    have q80 := fun (h' : H) (v : Value) (ad : Addr) (u1 : Sl G h' 1 v (d + 1) ((gtap d).map (.int .i64))) (u2 : Sl G h' 1 (.slice (some ad) n n) n ((l.map smp).map (.int .i64))) (w' : Wf h') => c80 (G := G) (h := h') u1 u2 (by omega) (by omega) (by omega) w'
    rw [hap] at q80
    refine cf_enter0 24 [.tmp 4, .tmp 5] Tryz.func33 rfl rfl rfl rfl ?_
    repeat' (first | with_reducible refine wo_nil ?_ | ((with_reducible refine wo_any ?_); first | ((with_reducible refine ik_move ?_); refine wo_op rfl (op_move rfl) rfl rfl ?_) | ((with_reducible refine ik_assign ?_); refine wo_op rfl (op_assign rfl) rfl rfl ?_) | ((with_reducible refine ik_buildSlice ?_); refine wo_op rfl (op_buildSl rfl Tryz.underlying163 zs29 zz29 rfl rfl) rfl rfl ?_) | ((with_reducible refine ik_bin ?_); refine wo_op rfl (op_neq rfl rfl) rfl rfl ?_) | ((with_reducible refine ik_extract ?_); refine wo_op rfl (op_extract rfl rfl) rfl rfl ?_) | ((with_reducible refine ik_callv ?_); first | refine wo_op rfl (op_call rfl rfl (q90 _)) rfl rfl ?_ | (refine wo_call rfl rfl rfl rfl (q73 _ gr_A wf_A) rfl rfl ?_; rintro _ _ ⟨rfl, hq⟩; all_goals ((try (have hqn := hq.nx)); (try simp only [H.nx_push, H.nx_set, H.nx_bump] at hqn))) | (refine wo_call rfl rfl rfl rfl (q80 _ _ _ (Sl.ofAt (at_A) (by simp [gtap_len]) (Nat.le_refl _)) (Sl.ofAt (at_A) (by simp [hl]) (Nat.le_refl _)) wf_A) rfl rfl ?_; rintro _ _ ⟨⟨B2, f2, rfl, hB2, at2⟩, hq⟩; all_goals ((try (have hqn := hq.nx)); (try simp only [H.nx_push, H.nx_set, H.nx_bump] at hqn)))) | ((with_reducible refine ik_callF (f := 72) ?_); refine wo_op rfl (op_call rfl rfl (c72 (es := [0, 0]) (n := 2) (Sl.ofAt (at_A) rfl (Nat.le_refl _)) (by omega))) rfl rfl ?_) | ((with_reducible refine ik_callF (f := 91) ?_); (refine wo_call rfl rfl rfl rfl (c91 d1 d2 wf_A) rfl rfl ?_; rintro _ _ ⟨⟨rfl, at1⟩, hq⟩; all_goals ((try (have hqn := hq.nx)); (try simp only [H.nx_push, H.nx_set, H.nx_bump] at hqn)))) | ((with_reducible refine ik_callF (f := 76) ?_); (refine wo_call rfl rfl rfl rfl (c76o (u.grow gr_A) hn k2 wf_A) rfl rfl ?_; rintro _ _ ⟨⟨rfl, at0⟩, hq⟩; all_goals ((try (have hqn := hq.nx)); (try simp only [H.nx_push, H.nx_set, H.nx_bump] at hqn)))) | ((with_reducible refine ik_callF (f := 74) ?_); (refine wo_call rfl rfl rfl rfl (c74m (Sl.ofAt at2 (by simp [hLn]) (Nat.le_refl _)) (by omega) wf_A hbd) rfl rfl ?_; rintro _ _ ⟨⟨U1, E1, rfl, mf⟩, hq⟩; all_goals ((try (have hqn := hq.nx)); (try simp only [H.nx_push, H.nx_set, H.nx_bump] at hqn))))) | with_reducible refine sq_norm ?_ | with_reducible refine wc_seq ?_ | with_reducible refine wc_region ?_ | with_reducible refine wc_skip ?_ | with_reducible refine wc_ret ?_ | refine wc_iff rfl ?_)
    exact rq2 rfl rfl ⟨mf, gr_A⟩
  · refine cf_enter0 24 [.tmp 4, .tmp 5] Tryz.func33 rfl rfl rfl rfl ?_
    repeat' (first | with_reducible refine wo_nil ?_ | ((with_reducible refine wo_any ?_); first | ((with_reducible refine ik_move ?_); refine wo_op rfl (op_move rfl) rfl rfl ?_) | ((with_reducible refine ik_assign ?_); refine wo_op rfl (op_assign rfl) rfl rfl ?_) | ((with_reducible refine ik_buildSlice ?_); refine wo_op rfl (op_buildSl rfl Tryz.underlying163 zs29 zz29 rfl rfl) rfl rfl ?_) | ((with_reducible refine ik_bin ?_); refine wo_op rfl (op_neq rfl rfl) rfl rfl ?_) | ((with_reducible refine ik_callv ?_); first | refine wo_op rfl (op_call rfl rfl (q90 _)) rfl rfl ?_ | (refine wo_call rfl rfl rfl rfl (q73 _ gr_A wf_A) rfl rfl ?_; rintro _ _ ⟨rfl, hq⟩; all_goals ((try (have hqn := hq.nx)); (try simp only [H.nx_push, H.nx_set, H.nx_bump] at hqn)))) | ((with_reducible refine ik_callF (f := 72) ?_); refine wo_op rfl (op_call rfl rfl (c72 (es := [_, _]) (n := 2) (Sl.ofAt (at_A) rfl (Nat.le_refl _)) (by omega))) rfl rfl ?_)) | with_reducible refine sq_norm ?_ | with_reducible refine wc_seq ?_ | with_reducible refine wc_region ?_ | with_reducible refine wc_ret ?_ | with_reducible refine sq_ret ?_ | (refine wc_if rfl (fun hb => ?_) (fun hb => ?_) <;> (try simp only [decide_eq_true_eq, decide_eq_false_iff_not, Bool.not_eq_true', Bool.not_eq_false', Int.not_lt, Int.not_le, Decidable.not_not, not_true_eq_false, not_false_eq_true, beq_self_eq_true, reduceCtorEq] at hb) <;> (try (exfalso; omega))))
    refine rq2 rfl rfl ⟨.inl ?_, gr_A⟩
    unfold madeE
    rw [if_pos hz]
    exact ⟨hz, rfl⟩
end Go.Proofs.YtccdcekcbbpohaaGreatDoor

/- Multiples; lists without their ghosts by the reference; notches. -/
namespace Go.Proofs.YtccdcekcbbpohaaGreatDoor
open Go Go.Ab Go.Fl
attribute [local irreducible] SeqQ BlkQ LpQ RetQ Wc Wo WD WX Op1 Op1q Op1a Cf Cl From
attribute [local irreducible] Ieee.Format.order Ieee.Format.read Ieee.Format.nearest Ieee.Format.write Ieee.Format.mul Ieee.Format.div Ieee.Datum.order Ieee.Datum.integral smpE smp smpW K J U sumN lchk tchk trE hdrE appL undL undA undI wr ghoL dghL rnd
set_option maxRecDepth 10000
variable {G : Base} {h : H}
def mulF (l : List Int) (d i : Nat) : Int := if i < d then 0 else -rnd (sumN (i - d + 1) (fun j => l.getD j 0 * l.getD (i - d - j) 0)) 1024
def mulL (l : List Int) (d : Nat) : List Int := (List.range l.length).map (mulF l d)
end Go.Proofs.YtccdcekcbbpohaaGreatDoor

/- Lists without their ghosts by the reference; notches; what is heard. -/
namespace Go.Proofs.YtccdcekcbbpohaaGreatDoor
open Go Go.Ab Go.Fl
attribute [local irreducible] SeqQ BlkQ LpQ RetQ Wc Wo WD WX Op1 Op1q Op1a Cf Cl From
attribute [local irreducible] Ieee.Format.order Ieee.Format.read Ieee.Format.nearest Ieee.Format.write Ieee.Format.mul Ieee.Format.div Ieee.Datum.order Ieee.Datum.integral smpE smp smpW K J U sumN lchk tchk trE hdrE appL undL undA undI wr ghoL rnd mulL
set_option maxRecDepth 10000
variable {G : Base} {h : H}

/-- What is heard is what was wanted. -/
def HeardA (G : Base) (h : H) (a : Option Addr) (n c : Nat) (E bad : Int) (w : Value) (L : List Int) : Prop :=
  (bad ≠ 0 ∧ E = bad ∧ n = 0) ∨ (bad = 0 ∧ (∃ m, m < 1000000 ∧ Sl G h 1 w m (L.map (.int .i64))) ∧ ((E = 4 ∧ anyLarge L = true ∧ n = 0) ∨ (E = 0 ∧ anyLarge L = false ∧ Sl G h 1 (.slice a n c) n ((L.map smpW).map (.float .f32)))))
theorem smpW_selfL {L : List Int} (h : anyLarge L = false) : fEqL (L.map smpW) (L.map smpW) := ⟨rfl, fun i q _ => by
  obtain ⟨z, hz, e⟩ := List.mem_map.1 (List.getElem_mem q)
  rw [← e]
  exact smpW_self (not_large h z hz)⟩
def ListA (G : Base) (h : H) (a : Option Addr) (n c : Nat) (E bad : Int) (w : Value) (L : List Int) : Prop :=
  E = bad ∧ ((bad ≠ 0 ∧ n = 0) ∨ (bad = 0 ∧ n < 1000000 ∧ Sl G h 1 w n (L.map (.int .i64)) ∧ Sl G h 1 (.slice a n c) n (L.map (.int .i64))))
end Go.Proofs.YtccdcekcbbpohaaGreatDoor

/- Notches; the law FilterGhosts. -/
namespace Go.Proofs.YtccdcekcbbpohaaGreatDoor
open Go Go.Ab Go.Fl
attribute [local irreducible] SeqQ BlkQ LpQ RetQ Wc Wo WD WX Op1 Op1q Op1a Cf Cl From
attribute [local irreducible] Ieee.Format.order Ieee.Format.read Ieee.Format.nearest Ieee.Format.write Ieee.Format.mul Ieee.Format.div Ieee.Datum.order Ieee.Datum.integral smpE smp smpW K J U sumN lchk tchk trE hdrE appL undL undA undI wr ghoL rnd mulL dghL dghA madeE anyLarge rngE
set_option maxRecDepth 10000
variable {G : Base} {h : H}

def notN (d : Nat) : Nat → List Int
  | 0 => []
  | k + 1 => if k * d % 4 = 0 then notN d k ++ [(k : Int)] else notN d k
theorem notN_step (d k : Nat) : (k * d % 4 = 0 → notN d (k + 1) = notN d k ++ [(k : Int)]) ∧ (¬ k * d % 4 = 0 → notN d (k + 1) = notN d k) := ⟨fun q => by show (if _ then _ else _) = _; rw [if_pos q], fun q => by show (if _ then _ else _) = _; rw [if_neg q]⟩
theorem notN_len (d : Nat) : ∀ k, (notN d k).length ≤ k
  | 0 => Nat.le_refl 0
  | k + 1 => by
    have := notN_len d k
    by_cases q : k * d % 4 = 0
    · rw [(notN_step d k).1 q, List.length_append]; simp only [List.length_cons, List.length_nil]; omega
    · rw [(notN_step d k).2 q]; omega
/-- What Notches answers. -/
def NotM (G : Base) (h : H) (r : Value) (x : Int) : Prop :=
  ∃ a m c, r = .tuple #[.slice a m c, .int .i64 (rngE x 1 64)] ∧ ((rngE x 1 64 ≠ 0 ∧ m = 0) ∨ (rngE x 1 64 = 0 ∧ m = (notN x.toNat 4).length ∧ Sl G h 1 (.slice a m c) m ((notN x.toNat 4).map (.int .i64))))
set_option maxHeartbeats 2000000 in
theorem c34 (x : Int) (hw : Wf h) : Cf (mz G) (.func (.func 34) #[] #[]) [.int .i64 x] h fun r h' => NotM G h' r x ∧ Grow h h' := by
  have q90 := fun (h : H) => c90 (G := G) (h := h) x
  unfold NotM
  by_cases hz : rngE x 1 64 = 0
  · obtain ⟨d, rfl, hd, hd2⟩ := rng_in hz
    rw [hz] at q90 ⊢
    rw [Int.toNat_natCast]
    refine cf_enter0 26 [.tmp 2, .tmp 3] Tryz.func34 rfl rfl rfl rfl ?_
    repeat' (first | with_reducible refine wo_nil ?_ | ((with_reducible refine wo_any ?_); first | ((with_reducible refine ik_move ?_); refine wo_op rfl (op_move rfl) rfl rfl ?_) | ((with_reducible refine ik_assign ?_); refine wo_op rfl (op_assign rfl) rfl rfl ?_) | ((with_reducible refine ik_bin ?_); refine wo_op rfl (op_neq rfl rfl) rfl rfl ?_) | ((with_reducible refine ik_callv ?_); refine wo_op rfl (op_call rfl rfl (q90 _)) rfl rfl ?_)) | with_reducible refine sq_norm ?_ | with_reducible refine wc_seq ?_ | with_reducible refine wc_region ?_ | with_reducible refine wc_skip ?_ | with_reducible refine wc_block ?_ | refine wc_iff rfl ?_)
    refine wc_loop (fun p : Nat × Value => 4 - p.1) (fun p => [(0, .int .i64 d), (5, p.2), (12, .int .i64 (p.1 : Nat))]) (fun p h' => (Wf h' ∧ Ow h h' 3 1 p.2 (notN d p.1).length ((notN d p.1).map (.int .i64))) ∧ p.1 ≤ 4) (0, .slice none 0 0) (within_lk ⟨rfl, rfl, rfl, trivial⟩) ⟨⟨wf_A, .nil (.refl _)⟩, Nat.zero_le _⟩ ?_
    rintro ⟨k, r⟩ h' ⟨⟨hw', ow⟩, hk⟩
    simp only at ow hk ⊢
    by_cases hlt : k < 4
    · have hkd : k * d ≤ 3 * 64 := Nat.mul_le_mul (by omega) hd2
      have hP : IntKind.wrap .i64 ((k : Int) * (d : Int)) = ((k * d : Nat) : Int) := by rw [Int.natCast_mul]; rw [← Int.natCast_mul]; exact w64 (by omega) (by omega)
      by_cases hp : k * d % 4 = 0
      · have hR : ((k * d : Nat) : Int).tmod 4 = 0 := by
          have : ((k * d : Nat) : Int).tmod 4 = ((k * d % 4 : Nat) : Int) := rfl
          rw [this, hp]; rfl
        have hst := (notN_step d k).1 hp
        obtain ⟨r2, h3, hap, ow3, _, hwf, _⟩ := append_ow (M := mz G) (st := 22) (xt := 22) (h := h'.push (.cells [.int .i64 (k : Int)] 3 1 false)) (new := [.int .i64 (k : Int)]) (m := 1) Tryz.underlying22 Tryz.underlying22 rfl zs3 zb3 zz3 rfl (ow.next ((Grow.refl _).push _)) (Sl.ofAt (At.new _ _) rfl (Nat.le_refl _)) rfl (by have := notN_len d k; omega)
        have e3 : (notN d k).map (Value.int .i64) ++ [.int .i64 (k : Int)] = (notN d (k + 1)).map (.int .i64) := by rw [hst, List.map_append]; rfl
        have e4 : (notN d k).length + 1 = (notN d (k + 1)).length := by rw [hst]; simp
        rw [e3, e4] at ow3
        repeat' (first | with_reducible refine wo_nil ?_ | ((with_reducible refine wo_any ?_); first | ((with_reducible refine ik_move ?_); refine wo_op rfl (op_move rfl) rfl rfl ?_) | ((with_reducible refine ik_assign ?_); refine wo_op rfl (op_assign rfl) rfl rfl ?_) | ((with_reducible refine ik_bin ?_); first | refine wo_op rfl (op_mul' rfl rfl hP) rfl rfl ?_ | refine wo_op rfl (op_remV rfl rfl (by decide) hR) rfl rfl ?_ | refine wo_op rfl (op_lss rfl rfl) rfl rfl ?_ | refine wo_op rfl (op_eql rfl rfl) rfl rfl ?_ | refine wo_op rfl (op_add' rfl rfl (w64 (by omega) (by omega))) rfl rfl ?_) | ((with_reducible refine ik_callb ?_); refine wo_op rfl (op_append rfl rfl hap) rfl rfl ?_) | ((with_reducible refine ik_buildSlice ?_); refine wo_op rfl (op_buildSl rfl Tryz.underlying22 zs3 zz3 rfl rfl) rfl rfl ?_)) | with_reducible refine sq_norm ?_ | with_reducible refine wc_seq ?_ | with_reducible refine wc_region ?_ | with_reducible refine wc_skip ?_ | with_reducible refine wc_block ?_ | with_reducible refine bq_norm ?_ | refine wc_ift rfl ?_ | (refine wc_if rfl (fun hb => ?_) (fun hb => dead_A hb); (try simp only [decide_eq_true_eq, decide_eq_false_iff_not, Bool.not_eq_true', Bool.not_eq_false', Int.not_lt, Int.not_le, Decidable.not_not, not_true_eq_false, not_false_eq_true, beq_self_eq_true, reduceCtorEq] at hb)))
        exact lq_norm (k + 1, r2) (by simp only; omega) (within_lk ⟨rfl, rfl, rfl, trivial⟩) ⟨⟨hwf wf_A, ow3⟩, by simp only; omega⟩
      · obtain ⟨R, hR⟩ : ∃ R, ((k * d : Nat) : Int).tmod 4 = R := ⟨_, rfl⟩
        have hR0 : R ≠ 0 := by
          have : ((k * d : Nat) : Int).tmod 4 = ((k * d % 4 : Nat) : Int) := rfl
          rw [← hR, this]; omega
        have hst := (notN_step d k).2 hp
        rw [← hst] at ow
        repeat' (first | with_reducible refine wo_nil ?_ | ((with_reducible refine wo_any ?_); first | ((with_reducible refine ik_move ?_); refine wo_op rfl (op_move rfl) rfl rfl ?_) | ((with_reducible refine ik_assign ?_); refine wo_op rfl (op_assign rfl) rfl rfl ?_) | ((with_reducible refine ik_bin ?_); first | refine wo_op rfl (op_mul' rfl rfl hP) rfl rfl ?_ | refine wo_op rfl (op_remV rfl rfl (by decide) hR) rfl rfl ?_ | refine wo_op rfl (op_lss rfl rfl) rfl rfl ?_ | refine wo_op rfl (op_eql rfl rfl) rfl rfl ?_ | refine wo_op rfl (op_add' rfl rfl (w64 (by omega) (by omega))) rfl rfl ?_)) | with_reducible refine sq_norm ?_ | with_reducible refine wc_seq ?_ | with_reducible refine wc_region ?_ | with_reducible refine wc_skip ?_ | with_reducible refine wc_block ?_ | with_reducible refine bq_norm ?_ | (refine wc_if rfl (fun hb => dead_A hb) (fun hb => ?_); (try simp only [decide_eq_true_eq, decide_eq_false_iff_not, Bool.not_eq_true', Bool.not_eq_false', Int.not_lt, Int.not_le, Decidable.not_not, not_true_eq_false, not_false_eq_true, beq_self_eq_true, reduceCtorEq] at hb)) | (refine wc_if rfl (fun hb => ?_) (fun hb => dead_A hb); (try simp only [decide_eq_true_eq, decide_eq_false_iff_not, Bool.not_eq_true', Bool.not_eq_false', Int.not_lt, Int.not_le, Decidable.not_not, not_true_eq_false, not_false_eq_true, beq_self_eq_true, reduceCtorEq] at hb)))
        exact lq_norm (k + 1, r) (by simp only; omega) (within_lk ⟨rfl, rfl, rfl, trivial⟩) ⟨⟨wf_A, ow⟩, by simp only; omega⟩
    · have hk4 : k = 4 := by omega
      subst hk4
      repeat' (first | with_reducible refine wo_nil ?_ | ((with_reducible refine wo_any ?_); first | ((with_reducible refine ik_move ?_); refine wo_op rfl (op_move rfl) rfl rfl ?_) | ((with_reducible refine ik_assign ?_); refine wo_op rfl (op_assign rfl) rfl rfl ?_) | ((with_reducible refine ik_bin ?_); refine wo_op rfl (op_lss rfl rfl) rfl rfl ?_)) | with_reducible refine sq_norm ?_ | with_reducible refine wc_seq ?_ | with_reducible refine wc_region ?_ | with_reducible refine wc_ret ?_ | with_reducible refine wc_exit ?_ | with_reducible refine sq_exit ?_ | with_reducible refine lq_exit ?_ | refine bq_eq rfl ?_ | refine wc_iff rfl ?_)
      have hs := ow.sl (G := G)
      have hgr := ow.grow
      obtain ⟨a2, c2, rfl⟩ := hs.form
      exact rq2 rfl rfl ⟨⟨_, _, _, rfl, .inr ⟨by first | trivial | rfl, rfl, hs⟩⟩, hgr⟩
  · refine cf_enter0 26 [.tmp 2, .tmp 3] Tryz.func34 rfl rfl rfl rfl ?_
    repeat' (first | with_reducible refine wo_nil ?_ | ((with_reducible refine wo_any ?_); first | ((with_reducible refine ik_move ?_); refine wo_op rfl (op_move rfl) rfl rfl ?_) | ((with_reducible refine ik_assign ?_); refine wo_op rfl (op_assign rfl) rfl rfl ?_) | ((with_reducible refine ik_bin ?_); refine wo_op rfl (op_neq rfl rfl) rfl rfl ?_) | ((with_reducible refine ik_callv ?_); refine wo_op rfl (op_call rfl rfl (q90 _)) rfl rfl ?_)) | with_reducible refine sq_norm ?_ | with_reducible refine wc_seq ?_ | with_reducible refine wc_region ?_ | with_reducible refine wc_ret ?_ | with_reducible refine sq_ret ?_ | (refine wc_if rfl (fun hb => ?_) (fun hb => ?_) <;> (try simp only [decide_eq_true_eq, decide_eq_false_iff_not, Bool.not_eq_true', Bool.not_eq_false', Int.not_lt, Int.not_le, Decidable.not_not, not_true_eq_false, not_false_eq_true, beq_self_eq_true, reduceCtorEq] at hb) <;> (try (exfalso; omega))))
    exact rq2 rfl rfl ⟨⟨_, _, _, rfl, .inl ⟨hz, rfl⟩⟩, gr_A⟩
end Go.Proofs.YtccdcekcbbpohaaGreatDoor
