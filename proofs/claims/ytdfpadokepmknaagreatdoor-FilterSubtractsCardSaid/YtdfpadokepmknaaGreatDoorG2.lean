/- Ghosts, multiples, notches, by the program and by the reference. -/
import Derived.Test.YtdfpadokepmknaaGreatDoorG1
set_option linter.all false
/- Ghosts, by the program and by the reference. -/
namespace Go.Proofs.YtdfpadokepmknaaGreatDoor
open Go Go.Ab Go.Fl
set_option maxRecDepth 10000
variable {G : Base} {h : H}
theorem gtap_len (d : Nat) : (gtap d).length = d + 1 := by simp [gtap]
theorem gtap_at {d k : Nat} : (gtap d).getD k 0 = if k = 0 then 1 else if k = d then -1 else 0 := by
  by_cases q : k < d + 1
  · unfold gtap; rw [getD_row q]
  · rw [getD_out (by rw [gtap_len]; omega), if_neg (by omega), if_neg (by omega)]
theorem app_gtap {d : Nat} (hd : 1 ≤ d) (l : List Int) : appL (gtap d) l = ghoL l d := by
  refine getD_ext (by simp [appL, ghoL]) fun i hi => ?_
  rw [appL_len] at hi
  rw [app_at hi]
  unfold ghoL
  rw [getD_row hi, gtap_len]
  have e : sumN (d + 1) (appv (gtap d) l i) = sumN (d + 1) (fun k => (if k = 0 then l.getD i 0 else 0) + (if k = d then (if d ≤ i then -l.getD (i - d) 0 else 0) else 0)) := by
    refine sumN_congr fun k _ => ?_
    unfold appv
    rw [gtap_at]
    by_cases q : k = 0
    · subst q
      simp only [if_true, Nat.zero_le, Nat.sub_zero]
      rw [if_neg (by omega)]; omega
    · rw [if_neg q, if_neg q]
      by_cases r : k = d
      · subst r
        simp only [if_true]
        split <;> omega
      · rw [if_neg r, if_neg r]
        split <;> omega
  rw [e, sumN_add, sumN_one (a := 0) (fun k _ hk => by rw [if_neg hk]), sumN_one (a := d) (fun k _ hk => by rw [if_neg hk])]
  rw [if_pos (by omega), if_pos rfl, if_pos (by omega), if_pos rfl]
  split <;> omega
theorem gtap_bound (d : Nat) : ∀ x ∈ gtap d, x.natAbs ≤ 16 := fun x hx => by
  unfold gtap at hx
  obtain ⟨k, _, rfl⟩ := List.mem_map.1 hx
  split
  · decide
  · split <;> decide

/-! without the ghost -/
def dghA (l : List Int) (d : Nat) : Nat → List Int
  | 0 => []
  | i + 1 => dghA l d i ++ [l.getD i 0 + (if d ≤ i then (dghA l d i).getD (i - d) 0 else 0)]
def dghL (l : List Int) (d : Nat) : List Int := dghA l d l.length
theorem dghA_len (l : List Int) (d : Nat) : ∀ i, (dghA l d i).length = i
  | 0 => rfl
  | i + 1 => by unfold dghA; rw [List.length_append, dghA_len l d i]; rfl
theorem dghA_boundC {l : List Int} {C : Nat} (hl : ∀ x ∈ l, x.natAbs ≤ C) (d : Nat) : ∀ i, ∀ x ∈ dghA l d i, x.natAbs ≤ i * C
  | 0, x, hx => by cases hx
  | i + 1, x, hx => by
    have ih := dghA_boundC hl d i
    unfold dghA at hx
    have hsm : (i + 1) * C = i * C + C := Nat.succ_mul i C
    rw [hsm]
    rcases List.mem_append.1 hx with hx | hx
    · have := ih x hx
      omega
    · rw [List.mem_singleton] at hx
      subst hx
      have h1 := getD_bound hl i
      have h2 := getD_bound ih (i - d)
      split <;> omega
theorem dghA_bound {l : List Int} (hl : ∀ x ∈ l, x.natAbs ≤ 16384) (d : Nat) : ∀ i, ∀ x ∈ dghA l d i, x.natAbs ≤ i * 16384 := dghA_boundC hl d
theorem undI_gtap {d : Nat} (hd : 1 ≤ d) {o : List Int} {i : Nat} {x : Int} (hx : x.natAbs ≤ 16384) (ho : ∀ z ∈ o, z.natAbs ≤ 100000000) (hi : o.length = i) : ∀ j, j ≤ min d i → undI (gtap d) o i x j = if j = d then x + o.getD (i - d) 0 else x
  | 0, _ => by rw [if_neg (by omega)]; rfl
  | j + 1, hj => by
    have ih := undI_gtap hd hx ho hi j (by omega)
    rw [if_neg (by omega)] at ih
    unfold undI
    rw [ih, gtap_at, if_neg (by omega)]
    have hb := getD_bound ho (i - j - 1)
    by_cases q : j + 1 = d
    · have e1 : wr (-1 * o.getD (i - j - 1) 0) = -1 * o.getD (i - j - 1) 0 := wr_id (by omega)
      rw [if_pos q, if_pos q, e1, wr_id (by omega)]
      rw [show i - d = i - j - 1 by omega]; omega
    · have e1 : wr 0 = 0 := wr_id (by decide)
      rw [if_neg q, if_neg q, Int.zero_mul, e1, Int.sub_zero, wr_id (by omega)]
theorem und_gtap {d : Nat} (hd : 1 ≤ d) {l : List Int} (hl : ∀ x ∈ l, x.natAbs ≤ 16384) : ∀ i, i ≤ 1024 → undA (gtap d) l i = dghA l d i
  | 0, _ => rfl
  | i + 1, hi => by
    have ih := und_gtap hd hl i (by omega)
    have hbd : ∀ z ∈ dghA l d i, z.natAbs ≤ 100000000 := fun z hz => by
      have := dghA_bound hl d i z hz
      have : i * 16384 ≤ 1024 * 16384 := Nat.mul_le_mul_right _ (by omega)
      omega
    have hx := getD_bound hl i
    have e := undI_gtap hd hx hbd (dghA_len l d i) (min d i) (Nat.le_refl _)
    unfold undA dghA
    rw [ih, gtap_len, show min (d + 1 - 1) i = min d i by omega, e, gtap_at, if_pos rfl, Int.mul_one]
    have hb := getD_bound hbd (i - d)
    by_cases q : d ≤ i
    · rw [if_pos (by omega), if_pos q, wr_id (by omega)]
    · rw [if_neg (by omega), if_neg q, Int.add_zero, wr_id (by omega)]
attribute [local irreducible] SeqQ BlkQ LpQ RetQ Wc Wo WD WX Op1 Op1q Op1a Cf Cl From
attribute [local irreducible] Ieee.Format.order Ieee.Format.read Ieee.Format.nearest Ieee.Format.write Ieee.Format.mul Ieee.Format.div Ieee.Datum.order Ieee.Datum.integral smpE smp smpW K J U sumN lchk tchk trE hdrE appL undL undA undI wr ghoL
set_option maxRecDepth 10000

theorem c90 (x : Int) : Cl (mz G) (.func (.func 90) #[] #[]) [.int .i64 x] h (.int .i64 (rngE x 1 64)) h := by
  refine cl_of_cf (cf_enter0 5 [.tmp 2] Tryz.func90 rfl rfl rfl rfl ?_)
  repeat' (first | with_reducible refine wo_nil ?_ | ((with_reducible refine wo_any ?_); first | ((with_reducible refine ik_move ?_); refine wo_op rfl (op_move rfl) rfl rfl ?_) | ((with_reducible refine ik_assign ?_); refine wo_op rfl (op_assign rfl) rfl rfl ?_) | ((with_reducible refine ik_callF (f := 89) ?_); refine wo_op rfl (op_call rfl rfl (c89 x 1 64)) rfl rfl ?_)) | with_reducible refine sq_norm ?_ | with_reducible refine wc_seq ?_ | with_reducible refine wc_region ?_ | with_reducible refine wc_ret ?_)
  exact rq1 rfl ⟨rfl, rfl⟩
theorem rng_in {x : Int} (h : rngE x 1 64 = 0) : ∃ d : Nat, x = (d : Int) ∧ 1 ≤ d ∧ d ≤ 64 := by
  rcases rng_cases x 1 64 with ⟨_, r1, r2⟩ | ⟨e, _⟩
  · exact ⟨x.toNat, by omega, by omega, by omega⟩
  · rw [e] at h; exact absurd h (by decide)
theorem gho_bound {l : List Int} (hl : ∀ x ∈ l, x.natAbs ≤ 16384) (d : Nat) : ∀ x ∈ ghoL l d, x.natAbs ≤ 1000000000000 := fun x hx => by
  unfold ghoL at hx
  obtain ⟨i, _, rfl⟩ := List.mem_map.1 hx
  have h1 := getD_bound hl i
  have h2 := getD_bound hl (i - d)
  split <;> omega
theorem dgh_bound {l : List Int} (hl : ∀ x ∈ l, x.natAbs ≤ 16384) (hn : l.length ≤ 1024) (d : Nat) : ∀ x ∈ dghL l d, x.natAbs ≤ 1000000000000 := fun x hx => by
  have := dghA_bound hl d _ x hx
  have : l.length * 16384 ≤ 1024 * 16384 := Nat.mul_le_mul_right _ hn
  omega
set_option maxHeartbeats 1000000 in
theorem c32 {v : Value} {n : Nat} {l : List Nat} (x : Int) (u : Sl G h 1 v n (l.map (.float .f32))) (hn : n < 1000000) (hw : Wf h) (hG : ∀ a v, laidBase a = some v → G a = some v) :
    Cf (mz G) (.func (.func 32) #[] #[]) [v, .int .i64 x] h fun r h' => MadeF G h' r n (madeE (firstNZ [lchk l, rngE x 1 64]) (ghoL (l.map smp) x.toNat)) (ghoL (l.map smp) x.toNat) ∧ Grow h h' := by
  obtain ⟨b, d0, rfl⟩ := u.form
  have hl := u.length
  simp at hl
  have q73 := fun (h' : H) (g : Grow h h') (w' : Wf h') => c73 (u.grow g) hn w' hG
  have q90 := fun (h : H) => c90 (G := G) (h := h) x
  by_cases hz : firstNZ [lchk l, rngE x 1 64] = 0
  · have hz2 := firstNZ_zero hz
    have z1 : lchk l = 0 := hz2 _ (by simp)
    have z2 : rngE x 1 64 = 0 := hz2 _ (by simp)
    rw [z1] at q73
    rw [z2] at q90
    rw [hz]
    obtain ⟨d, rfl, d1, d2⟩ := rng_in z2
    obtain ⟨k1, k2⟩ := lchk_ok z1
    rw [Int.toNat_natCast]
    have hbd := gho_bound (smp_bound k2) d
    obtain ⟨L, hL⟩ : ∃ L, ghoL (l.map smp) d = L := ⟨_, rfl⟩
    have hLn : L.length = n := by rw [← hL]; simp [ghoL, hl]
    have hap := app_gtap d1 (l.map smp)
    rw [hL] at hap hbd
    rw [hL]
    have q75 := fun (h' : H) (v w : Value) (u1 : Sl G h' 1 v (d + 1) ((gtap d).map (.int .i64))) (u2 : Sl G h' 1 w n ((l.map smp).map (.int .i64))) (w' : Wf h') => c75 (G := G) (h := h') u1 u2 (by omega) (by omega) (gtap_bound d) (smp_bound k2) w'
    rw [hap] at q75
    refine cf_enter0 24 [.tmp 4, .tmp 5] Tryz.func32 rfl rfl rfl rfl ?_
    repeat' (first | with_reducible refine wo_nil ?_ | ((with_reducible refine wo_any ?_); first | ((with_reducible refine ik_move ?_); refine wo_op rfl (op_move rfl) rfl rfl ?_) | ((with_reducible refine ik_assign ?_); refine wo_op rfl (op_assign rfl) rfl rfl ?_) | ((with_reducible refine ik_buildSlice ?_); refine wo_op rfl (op_buildSl rfl Tryz.underlying163 zs29 zz29 rfl rfl) rfl rfl ?_) | ((with_reducible refine ik_bin ?_); refine wo_op rfl (op_neq rfl rfl) rfl rfl ?_) | ((with_reducible refine ik_extract ?_); refine wo_op rfl (op_extract rfl rfl) rfl rfl ?_) | ((with_reducible refine ik_callv ?_); first | refine wo_op rfl (op_call rfl rfl (q90 _)) rfl rfl ?_ | (refine wo_call rfl rfl rfl rfl (q73 _ gr_A wf_A) rfl rfl ?_; rintro _ _ ⟨rfl, hq⟩; all_goals ((try (have hqn := hq.nx)); (try simp only [H.nx_push, H.nx_set, H.nx_bump] at hqn))) | (refine wo_call rfl rfl rfl rfl (q75 _ _ _ (Sl.ofAt (at_A) (by simp [gtap_len]) (Nat.le_refl _)) sl wf_A) rfl rfl ?_; rintro _ _ ⟨⟨rfl, at2⟩, hq, hw2⟩; all_goals ((try (have hqn := hq.nx)); (try simp only [H.nx_push, H.nx_set, H.nx_bump] at hqn)))) | ((with_reducible refine ik_callF (f := 72) ?_); refine wo_op rfl (op_call rfl rfl (c72 (es := [0, 0]) (n := 2) (Sl.ofAt (at_A) rfl (Nat.le_refl _)) (by omega))) rfl rfl ?_) | ((with_reducible refine ik_callF (f := 91) ?_); (refine wo_call rfl rfl rfl rfl (c91 d1 d2 wf_A) rfl rfl ?_; rintro _ _ ⟨⟨rfl, at1⟩, hq⟩; all_goals ((try (have hqn := hq.nx)); (try simp only [H.nx_push, H.nx_set, H.nx_bump] at hqn)))) | ((with_reducible refine ik_callF (f := 76) ?_); (refine wo_call rfl rfl rfl rfl (c76 (u.grow gr_A) hn k2 wf_A) rfl rfl ?_; rintro _ _ ⟨sl, hq⟩; all_goals ((try (have hqn := hq.nx)); (try simp only [H.nx_push, H.nx_set, H.nx_bump] at hqn)))) | ((with_reducible refine ik_callF (f := 74) ?_); (refine wo_call rfl rfl rfl rfl (c74m (Sl.ofAt at2 (by simp [hLn]) (Nat.le_refl _)) (by omega) wf_A hbd) rfl rfl ?_; rintro _ _ ⟨⟨U1, E1, rfl, mf⟩, hq⟩; all_goals ((try (have hqn := hq.nx)); (try simp only [H.nx_push, H.nx_set, H.nx_bump] at hqn))))) | with_reducible refine sq_norm ?_ | with_reducible refine wc_seq ?_ | with_reducible refine wc_region ?_ | with_reducible refine wc_skip ?_ | with_reducible refine wc_ret ?_ | refine wc_iff rfl ?_)
    exact rq2 rfl rfl ⟨mf, gr_A⟩
  · refine cf_enter0 24 [.tmp 4, .tmp 5] Tryz.func32 rfl rfl rfl rfl ?_
    repeat' (first | with_reducible refine wo_nil ?_ | ((with_reducible refine wo_any ?_); first | ((with_reducible refine ik_move ?_); refine wo_op rfl (op_move rfl) rfl rfl ?_) | ((with_reducible refine ik_assign ?_); refine wo_op rfl (op_assign rfl) rfl rfl ?_) | ((with_reducible refine ik_buildSlice ?_); refine wo_op rfl (op_buildSl rfl Tryz.underlying163 zs29 zz29 rfl rfl) rfl rfl ?_) | ((with_reducible refine ik_bin ?_); refine wo_op rfl (op_neq rfl rfl) rfl rfl ?_) | ((with_reducible refine ik_callv ?_); first | refine wo_op rfl (op_call rfl rfl (q90 _)) rfl rfl ?_ | (refine wo_call rfl rfl rfl rfl (q73 _ gr_A wf_A) rfl rfl ?_; rintro _ _ ⟨rfl, hq⟩; all_goals ((try (have hqn := hq.nx)); (try simp only [H.nx_push, H.nx_set, H.nx_bump] at hqn)))) | ((with_reducible refine ik_callF (f := 72) ?_); refine wo_op rfl (op_call rfl rfl (c72 (es := [_, _]) (n := 2) (Sl.ofAt (at_A) rfl (Nat.le_refl _)) (by omega))) rfl rfl ?_)) | with_reducible refine sq_norm ?_ | with_reducible refine wc_seq ?_ | with_reducible refine wc_region ?_ | with_reducible refine wc_ret ?_ | with_reducible refine sq_ret ?_ | (refine wc_if rfl (fun hb => ?_) (fun hb => ?_) <;> (try simp only [decide_eq_true_eq, decide_eq_false_iff_not, Bool.not_eq_true', Bool.not_eq_false', Int.not_lt, Int.not_le, Decidable.not_not, not_true_eq_false, not_false_eq_true, beq_self_eq_true, reduceCtorEq] at hb) <;> (try (exfalso; omega))))
    refine rq2 rfl rfl ⟨.inl ?_, gr_A⟩
    unfold madeE
    rw [if_pos hz]
    exact ⟨hz, rfl⟩
set_option maxHeartbeats 1000000 in
theorem c33 {v : Value} {n : Nat} {l : List Nat} (x : Int) (u : Sl G h 1 v n (l.map (.float .f32))) (hn : n < 1000000) (hw : Wf h) (hG : ∀ a v, laidBase a = some v → G a = some v) :
    Cf (mz G) (.func (.func 33) #[] #[]) [v, .int .i64 x] h fun r h' => MadeF G h' r n (madeE (firstNZ [lchk l, rngE x 1 64]) (dghL (l.map smp) x.toNat)) (dghL (l.map smp) x.toNat) ∧ Grow h h' := by
  obtain ⟨b, d0, rfl⟩ := u.form
  have hl := u.length
  simp at hl
  have q73 := fun (h' : H) (g : Grow h h') (w' : Wf h') => c73 (u.grow g) hn w' hG
  have q90 := fun (h : H) => c90 (G := G) (h := h) x
  by_cases hz : firstNZ [lchk l, rngE x 1 64] = 0
  · have hz2 := firstNZ_zero hz
    have z1 : lchk l = 0 := hz2 _ (by simp)
    have z2 : rngE x 1 64 = 0 := hz2 _ (by simp)
    rw [z1] at q73
    rw [z2] at q90
    rw [hz]
    obtain ⟨d, rfl, d1, d2⟩ := rng_in z2
    obtain ⟨k1, k2⟩ := lchk_ok z1
    rw [Int.toNat_natCast]
    have hbd := dgh_bound (smp_bound k2) (by simp; omega) d
    obtain ⟨L, hL⟩ : ∃ L, dghL (l.map smp) d = L := ⟨_, rfl⟩
    have hLn : L.length = n := by rw [← hL]; unfold dghL; rw [dghA_len]; simp [hl]
    have hap : undL (gtap d) (l.map smp) = L := by rw [← hL]; unfold undL dghL; exact und_gtap d1 (smp_bound k2) _ (by simp; omega)
    rw [hL] at hbd
    rw [hL]
    have q80 := fun (h' : H) (v : Value) (ad : Addr) (u1 : Sl G h' 1 v (d + 1) ((gtap d).map (.int .i64))) (u2 : Sl G h' 1 (.slice (some ad) n n) n ((l.map smp).map (.int .i64))) (w' : Wf h') => c80 (G := G) (h := h') u1 u2 (by omega) (by omega) (by omega) w'
    rw [hap] at q80
    refine cf_enter0 24 [.tmp 4, .tmp 5] Tryz.func33 rfl rfl rfl rfl ?_
    repeat' (first | with_reducible refine wo_nil ?_ | ((with_reducible refine wo_any ?_); first | ((with_reducible refine ik_move ?_); refine wo_op rfl (op_move rfl) rfl rfl ?_) | ((with_reducible refine ik_assign ?_); refine wo_op rfl (op_assign rfl) rfl rfl ?_) | ((with_reducible refine ik_buildSlice ?_); refine wo_op rfl (op_buildSl rfl Tryz.underlying163 zs29 zz29 rfl rfl) rfl rfl ?_) | ((with_reducible refine ik_bin ?_); refine wo_op rfl (op_neq rfl rfl) rfl rfl ?_) | ((with_reducible refine ik_extract ?_); refine wo_op rfl (op_extract rfl rfl) rfl rfl ?_) | ((with_reducible refine ik_callv ?_); first | refine wo_op rfl (op_call rfl rfl (q90 _)) rfl rfl ?_ | (refine wo_call rfl rfl rfl rfl (q73 _ gr_A wf_A) rfl rfl ?_; rintro _ _ ⟨rfl, hq⟩; all_goals ((try (have hqn := hq.nx)); (try simp only [H.nx_push, H.nx_set, H.nx_bump] at hqn))) | (refine wo_call rfl rfl rfl rfl (q80 _ _ _ (Sl.ofAt (at_A) (by simp [gtap_len]) (Nat.le_refl _)) (Sl.ofAt (at_A) (by simp [hl]) (Nat.le_refl _)) wf_A) rfl rfl ?_; rintro _ _ ⟨⟨B2, f2, rfl, hB2, at2⟩, hq⟩; all_goals ((try (have hqn := hq.nx)); (try simp only [H.nx_push, H.nx_set, H.nx_bump] at hqn)))) | ((with_reducible refine ik_callF (f := 72) ?_); refine wo_op rfl (op_call rfl rfl (c72 (es := [0, 0]) (n := 2) (Sl.ofAt (at_A) rfl (Nat.le_refl _)) (by omega))) rfl rfl ?_) | ((with_reducible refine ik_callF (f := 91) ?_); (refine wo_call rfl rfl rfl rfl (c91 d1 d2 wf_A) rfl rfl ?_; rintro _ _ ⟨⟨rfl, at1⟩, hq⟩; all_goals ((try (have hqn := hq.nx)); (try simp only [H.nx_push, H.nx_set, H.nx_bump] at hqn)))) | ((with_reducible refine ik_callF (f := 76) ?_); (refine wo_call rfl rfl rfl rfl (c76o (u.grow gr_A) hn k2 wf_A) rfl rfl ?_; rintro _ _ ⟨⟨rfl, at0⟩, hq⟩; all_goals ((try (have hqn := hq.nx)); (try simp only [H.nx_push, H.nx_set, H.nx_bump] at hqn)))) | ((with_reducible refine ik_callF (f := 74) ?_); (refine wo_call rfl rfl rfl rfl (c74m (Sl.ofAt at2 (by simp [hLn]) (Nat.le_refl _)) (by omega) wf_A hbd) rfl rfl ?_; rintro _ _ ⟨⟨U1, E1, rfl, mf⟩, hq⟩; all_goals ((try (have hqn := hq.nx)); (try simp only [H.nx_push, H.nx_set, H.nx_bump] at hqn))))) | with_reducible refine sq_norm ?_ | with_reducible refine wc_seq ?_ | with_reducible refine wc_region ?_ | with_reducible refine wc_skip ?_ | with_reducible refine wc_ret ?_ | refine wc_iff rfl ?_)
    exact rq2 rfl rfl ⟨mf, gr_A⟩
  · refine cf_enter0 24 [.tmp 4, .tmp 5] Tryz.func33 rfl rfl rfl rfl ?_
    repeat' (first | with_reducible refine wo_nil ?_ | ((with_reducible refine wo_any ?_); first | ((with_reducible refine ik_move ?_); refine wo_op rfl (op_move rfl) rfl rfl ?_) | ((with_reducible refine ik_assign ?_); refine wo_op rfl (op_assign rfl) rfl rfl ?_) | ((with_reducible refine ik_buildSlice ?_); refine wo_op rfl (op_buildSl rfl Tryz.underlying163 zs29 zz29 rfl rfl) rfl rfl ?_) | ((with_reducible refine ik_bin ?_); refine wo_op rfl (op_neq rfl rfl) rfl rfl ?_) | ((with_reducible refine ik_callv ?_); first | refine wo_op rfl (op_call rfl rfl (q90 _)) rfl rfl ?_ | (refine wo_call rfl rfl rfl rfl (q73 _ gr_A wf_A) rfl rfl ?_; rintro _ _ ⟨rfl, hq⟩; all_goals ((try (have hqn := hq.nx)); (try simp only [H.nx_push, H.nx_set, H.nx_bump] at hqn)))) | ((with_reducible refine ik_callF (f := 72) ?_); refine wo_op rfl (op_call rfl rfl (c72 (es := [_, _]) (n := 2) (Sl.ofAt (at_A) rfl (Nat.le_refl _)) (by omega))) rfl rfl ?_)) | with_reducible refine sq_norm ?_ | with_reducible refine wc_seq ?_ | with_reducible refine wc_region ?_ | with_reducible refine wc_ret ?_ | with_reducible refine sq_ret ?_ | (refine wc_if rfl (fun hb => ?_) (fun hb => ?_) <;> (try simp only [decide_eq_true_eq, decide_eq_false_iff_not, Bool.not_eq_true', Bool.not_eq_false', Int.not_lt, Int.not_le, Decidable.not_not, not_true_eq_false, not_false_eq_true, beq_self_eq_true, reduceCtorEq] at hb) <;> (try (exfalso; omega))))
    refine rq2 rfl rfl ⟨.inl ?_, gr_A⟩
    unfold madeE
    rw [if_pos hz]
    exact ⟨hz, rfl⟩
end Go.Proofs.YtdfpadokepmknaaGreatDoor

/- Multiples; lists without their ghosts by the reference; notches. -/
namespace Go.Proofs.YtdfpadokepmknaaGreatDoor
open Go Go.Ab Go.Fl
attribute [local irreducible] SeqQ BlkQ LpQ RetQ Wc Wo WD WX Op1 Op1q Op1a Cf Cl From
attribute [local irreducible] Ieee.Format.order Ieee.Format.read Ieee.Format.nearest Ieee.Format.write Ieee.Format.mul Ieee.Format.div Ieee.Datum.order Ieee.Datum.integral smpE smp smpW K J U sumN lchk tchk trE hdrE appL undL undA undI wr ghoL dghL rnd
set_option maxRecDepth 10000
variable {G : Base} {h : H}
theorem c62 {v w : Value} {n m : Nat} {a b : List Int} (s : Sl G h 1 v n (a.map (.int .i64))) (t : Sl G h 1 w m (b.map (.int .i64))) (hn : n < 1000000) (hm : m < 1000000) : Cf (mz G) (.func (.func 62) #[] #[]) [v, w] h fun v h' => v = .bool (decide (a = b)) ∧ Grow h h' := by
  obtain ⟨aa, ac, rfl⟩ := s.form
  obtain ⟨ba, bc, rfl⟩ := t.form
  have hl := s.length
  have hl' := t.length
  simp at hl hl'
  by_cases hnm : n = m
  · subst hnm
    refine cf_enter0 26 [.tmp 4] Tryz.func62 rfl rfl rfl rfl ?_
    repeat' (first | with_reducible refine wo_nil ?_ | ((with_reducible refine wo_any ?_); first | ((with_reducible refine ik_move ?_); refine wo_op rfl (op_move rfl) rfl rfl ?_) | ((with_reducible refine ik_assign ?_); refine wo_op rfl (op_assign rfl) rfl rfl ?_) | ((with_reducible refine ik_callb ?_); refine wo_op rfl (op_lenSl rfl Tryz.underlying22) rfl rfl ?_) | ((with_reducible refine ik_bin ?_); refine wo_op rfl (op_neq rfl rfl) rfl rfl ?_)) | with_reducible refine sq_norm ?_ | with_reducible refine wc_seq ?_ | with_reducible refine wc_region ?_ | with_reducible refine wc_skip ?_ | with_reducible refine wc_block ?_ | (refine wc_if rfl (fun hb => ?_) (fun hb => ?_) <;> (try simp only [decide_eq_true_eq, decide_eq_false_iff_not, Bool.not_eq_true', Bool.not_eq_false', Int.not_lt, Int.not_le, Decidable.not_not, not_true_eq_false, not_false_eq_true, beq_self_eq_true, reduceCtorEq] at hb) <;> (try (exfalso; omega))))
    refine wc_loop (fun k => n - k) (fun k : Nat => [(0, .slice aa n ac), (1, .slice ba n bc), (5, .int .i64 k)]) (fun k h' => Grow h h' ∧ k ≤ n ∧ a.take k = b.take k) 0 (within_lk ⟨rfl, rfl, rfl, trivial⟩) ⟨.refl _, Nat.zero_le _, rfl⟩ ?_
    rintro k h' ⟨hgr, hk, he⟩
    by_cases hlt : k < n
    · obtain ⟨ad, h1, h2⟩ := (s.grow hgr).addr (M := mz G) Tryz.underlying22 (es := 1) zs3 (i := k) (k := .i64) (by omega) (by omega)
      have h3 : acell G h' ad = some (.int .i64 (a[k]'(by omega))) := h2.get 0 _ (by simp)
      obtain ⟨bd, g1, g2⟩ := (t.grow hgr).addr (M := mz G) Tryz.underlying22 (es := 1) zs3 (i := k) (k := .i64) (by omega) (by omega)
      have g3 : acell G h' bd = some (.int .i64 (b[k]'(by omega))) := g2.get 0 _ (by simp)
      repeat' (first | with_reducible refine wo_nil ?_ | ((with_reducible refine wo_any ?_); first | ((with_reducible refine ik_move ?_); refine wo_op rfl (op_move rfl) rfl rfl ?_) | ((with_reducible refine ik_assign ?_); refine wo_op rfl (op_assign rfl) rfl rfl ?_) | ((with_reducible refine ik_callb ?_); refine wo_op rfl (op_lenSl rfl Tryz.underlying22) rfl rfl ?_) | ((with_reducible refine ik_bin ?_); first | refine wo_op rfl (op_lss rfl rfl) rfl rfl ?_ | refine wo_op rfl (op_add' rfl rfl (w64 (by omega) (by omega))) rfl rfl ?_)) | ((with_reducible refine xk_any ?_); ((with_reducible refine xk_as0 ?_); first | ((with_reducible refine xk_move ?_); refine wx_q (wt_none rfl) rfl rfl (op_q rfl (op_move rfl)) rfl rfl rfl ?_) | ((with_reducible refine xk_indexAddr ?_); first | refine wx_q (wt_none rfl) rfl rfl (op_q rfl (op_indexAddr rfl rfl h1)) rfl rfl rfl ?_ | refine wx_q (wt_none rfl) rfl rfl (op_q rfl (op_indexAddr rfl rfl g1)) rfl rfl rfl ?_) | ((with_reducible refine xk_load ?_); first | refine wx_h0 (wt_none rfl) rfl (op_q rfl (op_ldCell rfl Tryz.underlying3 rfl h3)) rfl rfl rfl ?_ | refine wx_h0 (wt_none rfl) rfl (op_q rfl (op_ldCell rfl Tryz.underlying3 rfl g3)) rfl rfl rfl ?_) | ((with_reducible refine xk_bin ?_); refine wx_q (wt_none rfl) rfl rfl (op_q rfl (op_neq rfl rfl)) rfl rfl rfl ?_) | with_reducible refine wx_nil0 ?_ ?_)) | with_reducible exact obl_nil | with_reducible refine obl_cons ?_ ?_ | ((with_reducible refine ik_obs ?_); first | exact obs_nil | refine obs_chkn rfl rfl (op_q rfl (op_ldCell rfl Tryz.underlying3 rfl h3)) ?_ | refine obs_chkn rfl rfl (op_q rfl (op_ldCell rfl Tryz.underlying3 rfl g3)) ?_) | with_reducible refine sq_norm ?_ | with_reducible refine wc_seq ?_ | with_reducible refine wc_region ?_ | with_reducible refine wc_skip ?_ | with_reducible refine wc_ret ?_ | with_reducible refine wc_block ?_ | with_reducible refine bq_norm ?_ | with_reducible refine bq_ret ?_ | with_reducible refine sq_ret ?_ | with_reducible refine lq_ret ?_ | (refine wc_if rfl (fun hb => ?_) (fun hb => ?_) <;> (try simp only [decide_eq_true_eq, decide_eq_false_iff_not, Bool.not_eq_true', Bool.not_eq_false', Int.not_lt, Int.not_le, Decidable.not_not, not_true_eq_false, not_false_eq_true, beq_self_eq_true, reduceCtorEq] at hb) <;> (try (exfalso; omega))) | refine wc_drawB (id := 6) 9 [0, 0, 3, 7, 0, 0, 48, 112, 255] [0, 1, 2, 3, 4, 5, 6, 7, 8] (by kernel_rfl) (by kernel_rfl) rfl rfl ?_)
      · refine rq1 rfl ⟨?_, gr_A⟩
        rw [decide_eq_false fun q => hb ?_]
        subst q; rfl
      · refine lq_norm (k + 1) (by omega) (within_lk ⟨rfl, rfl, rfl, trivial⟩) ⟨gr_A, by omega, ?_⟩
        rw [List.take_succ_eq_append_getElem (by omega), List.take_succ_eq_append_getElem (by omega), he]
        congr 2
    · repeat' (first | with_reducible refine wo_nil ?_ | ((with_reducible refine wo_any ?_); first | ((with_reducible refine ik_move ?_); refine wo_op rfl (op_move rfl) rfl rfl ?_) | ((with_reducible refine ik_assign ?_); refine wo_op rfl (op_assign rfl) rfl rfl ?_) | ((with_reducible refine ik_callb ?_); refine wo_op rfl (op_lenSl rfl Tryz.underlying22) rfl rfl ?_) | ((with_reducible refine ik_bin ?_); refine wo_op rfl (op_lss rfl rfl) rfl rfl ?_)) | with_reducible refine sq_norm ?_ | with_reducible refine wc_seq ?_ | with_reducible refine wc_region ?_ | with_reducible refine wc_ret ?_ | with_reducible refine wc_exit ?_ | with_reducible refine sq_exit ?_ | with_reducible refine lq_exit ?_ | refine bq_eq rfl ?_ | (refine wc_if rfl (fun hb => ?_) (fun hb => ?_) <;> (try simp only [decide_eq_true_eq, decide_eq_false_iff_not, Bool.not_eq_true', Bool.not_eq_false', Int.not_lt, Int.not_le, Decidable.not_not, not_true_eq_false, not_false_eq_true, beq_self_eq_true, reduceCtorEq] at hb) <;> (try (exfalso; omega))))
      refine rq1 rfl ⟨?_, hgr⟩
      rw [List.take_of_length_le (by omega), List.take_of_length_le (by omega)] at he
      rw [decide_eq_true he]
  · refine cf_enter0 26 [.tmp 4] Tryz.func62 rfl rfl rfl rfl ?_
    repeat' (first | with_reducible refine wo_nil ?_ | ((with_reducible refine wo_any ?_); first | ((with_reducible refine ik_move ?_); refine wo_op rfl (op_move rfl) rfl rfl ?_) | ((with_reducible refine ik_assign ?_); refine wo_op rfl (op_assign rfl) rfl rfl ?_) | ((with_reducible refine ik_callb ?_); refine wo_op rfl (op_lenSl rfl Tryz.underlying22) rfl rfl ?_) | ((with_reducible refine ik_bin ?_); refine wo_op rfl (op_neq rfl rfl) rfl rfl ?_)) | with_reducible refine sq_norm ?_ | with_reducible refine wc_seq ?_ | with_reducible refine wc_region ?_ | with_reducible refine wc_ret ?_ | with_reducible refine sq_ret ?_ | (refine wc_if rfl (fun hb => ?_) (fun hb => ?_) <;> (try simp only [decide_eq_true_eq, decide_eq_false_iff_not, Bool.not_eq_true', Bool.not_eq_false', Int.not_lt, Int.not_le, Decidable.not_not, not_true_eq_false, not_false_eq_true, beq_self_eq_true, reduceCtorEq] at hb) <;> (try (exfalso; omega))))
    refine rq1 rfl ⟨?_, .refl _⟩
    rw [decide_eq_false fun q => hnm (by rw [← hl, ← hl', q])]

def mulF (l : List Int) (d i : Nat) : Int := if i < d then 0 else -rnd (sumN (i - d + 1) (fun j => l.getD j 0 * l.getD (i - d - j) 0)) 1024
def mulL (l : List Int) (d : Nat) : List Int := (List.range l.length).map (mulF l d)
theorem mul_sum {l : List Int} (hl : ∀ x ∈ l, x.natAbs ≤ 16384) (k : Nat) {j : Nat} (hj : j ≤ 1024) : (sumN j (fun j => l.getD j 0 * l.getD (k - j) 0)).natAbs ≤ 1024 * (16384 * 16384) := by
  have h1 : (sumN j (fun j => l.getD j 0 * l.getD (k - j) 0)).natAbs ≤ j * (16384 * 16384) := sumN_bound fun i _ => prod_bound (getD_bound hl i) (getD_bound hl (k - i))
  exact Nat.le_trans h1 (Nat.mul_le_mul_right _ hj)
theorem mulF_bound {l : List Int} (hl : ∀ x ∈ l, x.natAbs ≤ 16384) {d i : Nat} (hi : i < 1024) : (mulF l d i).natAbs ≤ 1000000000000 := by
  unfold mulF
  split
  · decide
  · have h1 := mul_sum hl (i - d) (j := i - d + 1) (by omega)
    have h2 := rnd_le (a := sumN (i - d + 1) (fun j => l.getD j 0 * l.getD (i - d - j) 0)) (b := 1024) (by decide)
    rw [Int.natAbs_neg]
    omega
theorem mulL_bound {l : List Int} (hl : ∀ x ∈ l, x.natAbs ≤ 16384) (hn : l.length ≤ 1024) (d : Nat) : ∀ x ∈ mulL l d, x.natAbs ≤ 1000000000000 := fun x hx => by
  unfold mulL at hx
  obtain ⟨i, hi, rfl⟩ := List.mem_map.1 hx
  have := List.mem_range.1 hi
  exact mulF_bound hl (by omega)
set_option maxHeartbeats 2000000 in
theorem c92 {v : Value} {n d : Nat} {l : List Int} (u : Sl G h 1 v n (l.map (.int .i64))) (hn : n ≤ 1024) (hd : 1 ≤ d) (hd2 : d ≤ 64) (hl0 : ∀ x ∈ l, x.natAbs ≤ 16384) (hw : Wf h) :
    Cf (mz G) (.func (.func 92) #[] #[]) [v, .int .i64 d] h fun r h' => (r = .slice (some ⟨h.nx, 0, some 0⟩) n n ∧ At h' h.nx (.cells ((mulL l d).map (.int .i64)) 3 1 false)) ∧ Grow h h' := by
  obtain ⟨b, c, rfl⟩ := u.form
  have hl := u.length
  simp at hl
  refine cf_enter0 49 [.tmp 4] Tryz.func92 rfl rfl rfl rfl ?_
  repeat' (first | with_reducible refine wo_nil ?_ | ((with_reducible refine wo_any ?_); first | ((with_reducible refine ik_move ?_); refine wo_op rfl (op_move rfl) rfl rfl ?_) | ((with_reducible refine ik_assign ?_); refine wo_op rfl (op_assign rfl) rfl rfl ?_) | ((with_reducible refine ik_makeSlice ?_); refine wo_op rfl (op_mkSl rfl rfl Tryz.underlying22 zs3 zb3 zz3 rfl (by omega) (by omega)) rfl rfl ?_) | ((with_reducible refine ik_callb ?_); refine wo_op rfl (op_lenSl rfl Tryz.underlying22) rfl rfl ?_)) | with_reducible refine sq_norm ?_ | with_reducible refine wc_seq ?_ | with_reducible refine wc_region ?_ | with_reducible refine wc_block ?_)
  refine wc_loop (fun i => n - i) (fun i : Nat => [(0, .slice b n c), (1, .int .i64 d), (5, .slice (some ⟨h.nx, 0, some 0⟩) n n), (6, .int .i64 i)])
    (fun i h' => (Wf h' ∧ Grow h h' ∧ At h' h.nx (.cells (((List.range n).map (fun k => if k < i then mulF l d k else 0)).map (.int .i64)) 3 1 false)) ∧ d ≤ i) d (within_lk ⟨rfl, rfl, rfl, rfl, trivial⟩) ⟨⟨wf_A, gr_A, ?_⟩, Nat.le_refl _⟩ ?_
  · have e : ((List.range n).map (fun k => if k < d then mulF l d k else 0)).map (Value.int .i64) = List.replicate n (.int .i64 0) := row_zero fun i => by
      split
      · rename_i q; unfold mulF; rw [if_pos q]
      · rfl
    rw [e]; exact At.new h _
  rintro i h1 ⟨⟨w1, g1, a1⟩, hi⟩
  by_cases hlt : i < n
  · obtain ⟨K, hK⟩ : ∃ K : Nat, (i : Int) - (d : Int) = (K : Int) := ⟨i - d, by omega⟩
    have hK2 : K = i - d := by omega
    repeat' (first | with_reducible refine wo_nil ?_ | ((with_reducible refine wo_any ?_); first | ((with_reducible refine ik_move ?_); refine wo_op rfl (op_move rfl) rfl rfl ?_) | ((with_reducible refine ik_assign ?_); refine wo_op rfl (op_assign rfl) rfl rfl ?_) | ((with_reducible refine ik_callb ?_); refine wo_op rfl (op_lenSl rfl Tryz.underlying22) rfl rfl ?_) | ((with_reducible refine ik_bin ?_); first | refine wo_op rfl (op_lss rfl rfl) rfl rfl ?_ | refine wo_op rfl (op_sub' rfl rfl (w64 (by omega) (by omega))) rfl rfl ?_ | refine wo_op rfl (op_add' rfl rfl (w64 (by omega) (by omega))) rfl rfl ?_)) | with_reducible refine sq_norm ?_ | with_reducible refine wc_seq ?_ | with_reducible refine wc_region ?_ | with_reducible refine wc_skip ?_ | with_reducible refine wc_block ?_ | (refine wc_if rfl (fun hb => ?_) (fun hb => ?_) <;> (try simp only [decide_eq_true_eq, decide_eq_false_iff_not, Bool.not_eq_true', Bool.not_eq_false', Int.not_lt, Int.not_le, Decidable.not_not, not_true_eq_false, not_false_eq_true, beq_self_eq_true, reduceCtorEq] at hb) <;> (try (exfalso; omega))))
    rw [hK]
    refine wc_loop (fun p : Nat × Int => K + 1 - p.1) (fun p => [(0, .slice b n c), (1, .int .i64 d), (5, .slice (some ⟨h.nx, 0, some 0⟩) n n), (6, .int .i64 i), (7, .int .i64 K), (24, .int .i64 ((K : Int) + 1)), (8, .int .i64 p.2), (25, .int .i64 (p.1 : Nat))])
      (fun p h' => (Wf h' ∧ Grow h h' ∧ At h' h.nx (.cells (((List.range n).map (fun k => if k < i then mulF l d k else 0)).map (.int .i64)) 3 1 false)) ∧ p.1 ≤ K + 1 ∧ sumN p.1 (fun j => l.getD j 0 * l.getD (K - j) 0) = p.2) (0, 0) (within_lk ⟨rfl, rfl, rfl, rfl, rfl, rfl, rfl, rfl, trivial⟩) ⟨⟨wf_A, gr_A, at_A⟩, Nat.zero_le _, by unfold sumN; rfl⟩ ?_
    clear w1 g1 a1
    rintro ⟨j, S⟩ h2 ⟨⟨w2, g2, a2⟩, hj, hS⟩
    simp only at hj hS ⊢
    have l2 := a2.lt
    have hsb := mul_sum hl0 K (j := j) (by omega)
    rw [hS] at hsb
    by_cases hjt : j < K + 1
    · obtain ⟨d1, i1, i3⟩ := slI_at (u.grow g2) (i := (j : Int)) (q := j) (by omega) rfl
      obtain ⟨d2, j1, j3⟩ := slI_at (u.grow g2) (i := (K : Int) - (j : Int)) (q := K - j) (by omega) (by omega)
      have hst : sumN (j + 1) (fun j => l.getD j 0 * l.getD (K - j) 0) = S + l.getD j 0 * l.getD (K - j) 0 := by rw [sumN, hS]
      have hpb := prod_bound (getD_bound hl0 j) (getD_bound hl0 (K - j))
      obtain ⟨x, hx⟩ : ∃ x, l.getD j 0 = x := ⟨_, rfl⟩
      obtain ⟨y, hy⟩ : ∃ y, l.getD (K - j) 0 = y := ⟨_, rfl⟩
      rw [hx] at i3 hst hpb
      rw [hy] at j3 hst hpb
      repeat' (first | with_reducible refine wo_nil ?_ | ((with_reducible refine wo_any ?_); first | ((with_reducible refine ik_move ?_); refine wo_op rfl (op_move rfl) rfl rfl ?_) | ((with_reducible refine ik_assign ?_); refine wo_op rfl (op_assign rfl) rfl rfl ?_) | ((with_reducible refine ik_bin ?_); first | refine wo_op rfl (op_lss rfl rfl) rfl rfl ?_ | refine wo_op rfl (op_add' rfl rfl (w64 (by omega) (by omega))) rfl rfl ?_)) | ((with_reducible refine xk_any ?_); ((with_reducible refine xk_as0 ?_); first | ((with_reducible refine xk_move ?_); refine wx_q (wt_none rfl) rfl rfl (op_q rfl (op_move rfl)) rfl rfl rfl ?_) | ((with_reducible refine xk_assign ?_); refine wx_q (wt_none rfl) rfl rfl (op_q rfl (op_assign rfl)) rfl rfl rfl ?_) | ((with_reducible refine xk_indexAddr ?_); first | refine wx_q (wt_none rfl) rfl rfl (op_q rfl (op_indexAddr rfl rfl i1)) rfl rfl rfl ?_ | refine wx_q (wt_none rfl) rfl rfl (op_q rfl (op_indexAddr rfl rfl j1)) rfl rfl rfl ?_) | ((with_reducible refine xk_load ?_); first | refine wx_h0 (wt_none rfl) rfl (op_q rfl (op_ldCell rfl Tryz.underlying3 rfl i3)) rfl rfl rfl ?_ | refine wx_h0 (wt_none rfl) rfl (op_q rfl (op_ldCell rfl Tryz.underlying3 rfl j3)) rfl rfl rfl ?_) | ((with_reducible refine xk_bin ?_); first | refine wx_q (wt_none rfl) rfl rfl (op_q rfl (op_sub' rfl rfl (w64 (by omega) (by omega)))) rfl rfl rfl ?_ | refine wx_q (wt_none rfl) rfl rfl (op_q rfl (op_add' rfl rfl (w64 (by omega) (by omega)))) rfl rfl rfl ?_ | refine wx_q (wt_none rfl) rfl rfl (op_q rfl (op_mul' rfl rfl (w64 (by omega) (by omega)))) rfl rfl rfl ?_) | with_reducible refine wx_nil0 ?_ ?_)) | with_reducible exact obl_nil | with_reducible refine obl_cons ?_ ?_ | ((with_reducible refine ik_obs ?_); first | exact obs_nil | refine obs_chkn rfl rfl (op_q rfl (op_ldCell rfl Tryz.underlying3 rfl i3)) ?_ | refine obs_chkn rfl rfl (op_q rfl (op_ldCell rfl Tryz.underlying3 rfl j3)) ?_) | with_reducible refine sq_norm ?_ | with_reducible refine wc_seq ?_ | with_reducible refine wc_region ?_ | with_reducible refine wc_skip ?_ | with_reducible refine wc_block ?_ | with_reducible refine bq_norm ?_ | (refine wc_if rfl (fun hb => ?_) (fun hb => ?_) <;> (try simp only [decide_eq_true_eq, decide_eq_false_iff_not, Bool.not_eq_true', Bool.not_eq_false', Int.not_lt, Int.not_le, Decidable.not_not, not_true_eq_false, not_false_eq_true, beq_self_eq_true, reduceCtorEq] at hb) <;> (try (exfalso; omega))) | refine wc_drawB (id := 10) 14 [0, 0, 0, 6, 14, 0, 0, 0, 192, 480, 992, 2046, 4095, 8191] [0, 1, 2, 3, 4, 5, 6, 7, 8, 9, 10, 11, 12, 13] (by kernel_rfl) (by kernel_rfl) rfl rfl ?_)
      exact lq_norm (j + 1, S + x * y) (by simp only; omega) (within_lk ⟨rfl, rfl, rfl, rfl, rfl, rfl, rfl, rfl, trivial⟩) ⟨⟨wf_A, gr_A, at_A⟩, by simp only; omega, hst⟩
    · have hjK : j = i - d + 1 := by omega
      have hF : mulF l d i = -rnd S 1024 := by
        unfold mulF
        rw [if_neg (by omega), ← hjK, ← hS, hK2]
      have hrb := rnd_le (a := S) (b := 1024) (by decide)
      have q95 := fun h' : H => c95 (G := G) (h := h') (a := S) (b := 1024) (by decide) (by decide) (by omega)
      obtain ⟨R, hR⟩ : ∃ R, rnd S 1024 = R := ⟨_, rfl⟩
      rw [hR] at hF hrb q95
      have hset := row_set (n := n) (o := i) (u := 0 - R) (f := fun k => if k < i then mulF l d k else 0) (g := fun k => if k < i + 1 then mulF l d k else 0) (by rw [if_pos (by omega), hF]; omega) (fun k hk => by
        by_cases q : k < i
        · rw [if_pos q, if_pos (by omega)]
        · rw [if_neg q, if_neg (by omega)])
      repeat' (first | with_reducible refine wo_nil ?_ | ((with_reducible refine wo_any ?_); first | ((with_reducible refine ik_move ?_); refine wo_op rfl (op_move rfl) rfl rfl ?_) | ((with_reducible refine ik_assign ?_); refine wo_op rfl (op_assign rfl) rfl rfl ?_) | ((with_reducible refine ik_indexAddr ?_); refine wo_op rfl (op_idxSl (o := i) rfl rfl Tryz.underlying22 zs3 (by omega) (by omega) (by omega)) rfl rfl ?_) | ((with_reducible refine ik_store ?_); refine wo_op0 rfl (op_stIdx rfl rfl at_A rfl zs3 (by simp; omega) rfl hset) rfl ?_) | ((with_reducible refine ik_bin ?_); first | refine wo_op rfl (op_lss rfl rfl) rfl rfl ?_ | refine wo_op rfl (op_add' rfl rfl (w64 (by omega) (by omega))) rfl rfl ?_) | ((with_reducible refine ik_un ?_); refine wo_op rfl (op_neg' rfl (w64 (by omega) (by omega))) rfl rfl ?_) | ((with_reducible refine ik_callv ?_); refine wo_op rfl (op_call rfl rfl (q95 _)) rfl rfl ?_)) | with_reducible refine sq_norm ?_ | with_reducible refine wc_seq ?_ | with_reducible refine wc_region ?_ | with_reducible refine wc_exit ?_ | with_reducible refine bq_norm ?_ | with_reducible refine sq_exit ?_ | with_reducible refine lq_exit ?_ | refine bq_eq rfl ?_ | (refine wc_if rfl (fun hb => ?_) (fun hb => ?_) <;> (try simp only [decide_eq_true_eq, decide_eq_false_iff_not, Bool.not_eq_true', Bool.not_eq_false', Int.not_lt, Int.not_le, Decidable.not_not, not_true_eq_false, not_false_eq_true, beq_self_eq_true, reduceCtorEq] at hb) <;> (try (exfalso; omega))))
      exact lq_norm (i + 1) (by omega) (within_lk ⟨rfl, rfl, rfl, rfl, trivial⟩) ⟨⟨wf_A, gr_A, at_A⟩, by omega⟩
  · repeat' (first | with_reducible refine wo_nil ?_ | ((with_reducible refine wo_any ?_); first | ((with_reducible refine ik_move ?_); refine wo_op rfl (op_move rfl) rfl rfl ?_) | ((with_reducible refine ik_assign ?_); refine wo_op rfl (op_assign rfl) rfl rfl ?_) | ((with_reducible refine ik_callb ?_); refine wo_op rfl (op_lenSl rfl Tryz.underlying22) rfl rfl ?_) | ((with_reducible refine ik_bin ?_); refine wo_op rfl (op_lss rfl rfl) rfl rfl ?_)) | with_reducible refine sq_norm ?_ | with_reducible refine wc_seq ?_ | with_reducible refine wc_region ?_ | with_reducible refine wc_ret ?_ | with_reducible refine wc_exit ?_ | with_reducible refine sq_exit ?_ | with_reducible refine lq_exit ?_ | refine bq_eq rfl ?_ | (refine wc_if rfl (fun hb => ?_) (fun hb => ?_) <;> (try simp only [decide_eq_true_eq, decide_eq_false_iff_not, Bool.not_eq_true', Bool.not_eq_false', Int.not_lt, Int.not_le, Decidable.not_not, not_true_eq_false, not_false_eq_true, beq_self_eq_true, reduceCtorEq] at hb) <;> (try (exfalso; omega))))
    have e : (List.range n).map (fun k => if k < i then mulF l d k else 0) = mulL l d := by
      unfold mulL; rw [hl]
      exact List.map_congr_left fun k hk => by rw [if_pos (by have := List.mem_range.1 hk; omega)]
    rw [e] at a1
    exact rq1 rfl ⟨⟨rfl, a1⟩, g1⟩
set_option maxHeartbeats 1000000 in
theorem c35 {v : Value} {n : Nat} {l : List Nat} (x : Int) (u : Sl G h 1 v n (l.map (.float .f32))) (hn : n < 1000000) (hw : Wf h) (hG : ∀ a v, laidBase a = some v → G a = some v) :
    Cf (mz G) (.func (.func 35) #[] #[]) [v, .int .i64 x] h fun r h' => MadeF G h' r n (madeE (firstNZ [lchk l, rngE x 1 64]) (mulL (l.map smp) x.toNat)) (mulL (l.map smp) x.toNat) ∧ Grow h h' := by
  obtain ⟨b, d0, rfl⟩ := u.form
  have hl := u.length
  simp at hl
  have q73 := fun (h' : H) (g : Grow h h') (w' : Wf h') => c73 (u.grow g) hn w' hG
  have q90 := fun (h : H) => c90 (G := G) (h := h) x
  by_cases hz : firstNZ [lchk l, rngE x 1 64] = 0
  · have hz2 := firstNZ_zero hz
    have z1 : lchk l = 0 := hz2 _ (by simp)
    have z2 : rngE x 1 64 = 0 := hz2 _ (by simp)
    rw [z1] at q73
    rw [z2] at q90
    rw [hz]
    obtain ⟨d, rfl, d1, d2⟩ := rng_in z2
    obtain ⟨k1, k2⟩ := lchk_ok z1
    rw [Int.toNat_natCast]
    have hbd := mulL_bound (smp_bound k2) (by simp; omega) d
    have q92 := fun (h' : H) (v : Value) (u1 : Sl G h' 1 v n ((l.map smp).map (.int .i64))) (w' : Wf h') => c92 (G := G) (h := h') u1 (by omega) d1 d2 (smp_bound k2) w'
    obtain ⟨L, hL⟩ : ∃ L, mulL (l.map smp) d = L := ⟨_, rfl⟩
    have hLn : L.length = n := by rw [← hL]; simp [mulL, hl]
    rw [hL] at hbd q92
    rw [hL]
    refine cf_enter0 23 [.tmp 4, .tmp 5] Tryz.func35 rfl rfl rfl rfl ?_
    repeat' (first | with_reducible refine wo_nil ?_ | ((with_reducible refine wo_any ?_); first | ((with_reducible refine ik_move ?_); refine wo_op rfl (op_move rfl) rfl rfl ?_) | ((with_reducible refine ik_assign ?_); refine wo_op rfl (op_assign rfl) rfl rfl ?_) | ((with_reducible refine ik_buildSlice ?_); refine wo_op rfl (op_buildSl rfl Tryz.underlying163 zs29 zz29 rfl rfl) rfl rfl ?_) | ((with_reducible refine ik_bin ?_); refine wo_op rfl (op_neq rfl rfl) rfl rfl ?_) | ((with_reducible refine ik_extract ?_); refine wo_op rfl (op_extract rfl rfl) rfl rfl ?_) | ((with_reducible refine ik_callv ?_); first | refine wo_op rfl (op_call rfl rfl (q90 _)) rfl rfl ?_ | (refine wo_call rfl rfl rfl rfl (q73 _ gr_A wf_A) rfl rfl ?_; rintro _ _ ⟨rfl, hq⟩; all_goals ((try (have hqn := hq.nx)); (try simp only [H.nx_push, H.nx_set, H.nx_bump] at hqn))) | (refine wo_call rfl rfl rfl rfl (q92 _ _ sl wf_A) rfl rfl ?_; rintro _ _ ⟨⟨rfl, at2⟩, hq⟩; all_goals ((try (have hqn := hq.nx)); (try simp only [H.nx_push, H.nx_set, H.nx_bump] at hqn)))) | ((with_reducible refine ik_callF (f := 72) ?_); refine wo_op rfl (op_call rfl rfl (c72 (es := [0, 0]) (n := 2) (Sl.ofAt (at_A) rfl (Nat.le_refl _)) (by omega))) rfl rfl ?_) | ((with_reducible refine ik_callF (f := 76) ?_); (refine wo_call rfl rfl rfl rfl (c76 (u.grow gr_A) hn k2 wf_A) rfl rfl ?_; rintro _ _ ⟨sl, hq⟩; all_goals ((try (have hqn := hq.nx)); (try simp only [H.nx_push, H.nx_set, H.nx_bump] at hqn)))) | ((with_reducible refine ik_callF (f := 74) ?_); (refine wo_call rfl rfl rfl rfl (c74m (Sl.ofAt at2 (by simp [hLn]) (Nat.le_refl _)) (by omega) wf_A hbd) rfl rfl ?_; rintro _ _ ⟨⟨U1, E1, rfl, mf⟩, hq⟩; all_goals ((try (have hqn := hq.nx)); (try simp only [H.nx_push, H.nx_set, H.nx_bump] at hqn))))) | with_reducible refine sq_norm ?_ | with_reducible refine wc_seq ?_ | with_reducible refine wc_region ?_ | with_reducible refine wc_skip ?_ | with_reducible refine wc_ret ?_ | refine wc_iff rfl ?_)
    exact rq2 rfl rfl ⟨mf, gr_A⟩
  · refine cf_enter0 23 [.tmp 4, .tmp 5] Tryz.func35 rfl rfl rfl rfl ?_
    repeat' (first | with_reducible refine wo_nil ?_ | ((with_reducible refine wo_any ?_); first | ((with_reducible refine ik_move ?_); refine wo_op rfl (op_move rfl) rfl rfl ?_) | ((with_reducible refine ik_assign ?_); refine wo_op rfl (op_assign rfl) rfl rfl ?_) | ((with_reducible refine ik_buildSlice ?_); refine wo_op rfl (op_buildSl rfl Tryz.underlying163 zs29 zz29 rfl rfl) rfl rfl ?_) | ((with_reducible refine ik_bin ?_); refine wo_op rfl (op_neq rfl rfl) rfl rfl ?_) | ((with_reducible refine ik_callv ?_); first | refine wo_op rfl (op_call rfl rfl (q90 _)) rfl rfl ?_ | (refine wo_call rfl rfl rfl rfl (q73 _ gr_A wf_A) rfl rfl ?_; rintro _ _ ⟨rfl, hq⟩; all_goals ((try (have hqn := hq.nx)); (try simp only [H.nx_push, H.nx_set, H.nx_bump] at hqn)))) | ((with_reducible refine ik_callF (f := 72) ?_); refine wo_op rfl (op_call rfl rfl (c72 (es := [_, _]) (n := 2) (Sl.ofAt (at_A) rfl (Nat.le_refl _)) (by omega))) rfl rfl ?_)) | with_reducible refine sq_norm ?_ | with_reducible refine wc_seq ?_ | with_reducible refine wc_region ?_ | with_reducible refine wc_ret ?_ | with_reducible refine sq_ret ?_ | (refine wc_if rfl (fun hb => ?_) (fun hb => ?_) <;> (try simp only [decide_eq_true_eq, decide_eq_false_iff_not, Bool.not_eq_true', Bool.not_eq_false', Int.not_lt, Int.not_le, Decidable.not_not, not_true_eq_false, not_false_eq_true, beq_self_eq_true, reduceCtorEq] at hb) <;> (try (exfalso; omega))))
    refine rq2 rfl rfl ⟨.inl ?_, gr_A⟩
    unfold madeE
    rw [if_pos hz]
    exact ⟨hz, rfl⟩
set_option maxHeartbeats 2000000 in
theorem c38 {v : Value} {n d : Nat} {l : List Int} (u : Sl G h 1 v n (l.map (.int .i64))) (hn : n ≤ 1024) (hd : 1 ≤ d) (hd2 : d ≤ 64) (hl0 : ∀ x ∈ l, x.natAbs ≤ 16384) (hw : Wf h) :
    Cf (mz G) (.func (.func 38) #[] #[]) [v, .int .i64 d] h fun r h' => (∃ a c, r = .slice a n c ∧ Sl G h' 1 (.slice a n c) n ((mulL l d).map (.int .i64))) ∧ Grow h h' := by
  obtain ⟨b, c, rfl⟩ := u.form
  have hl := u.length
  simp at hl
  have hg : mulL l d = (List.range n).map (mulF l d) := by unfold mulL; rw [hl]
  rw [hg]
  refine cf_enter0 44 [.tmp 4] Tryz.func38 rfl rfl rfl rfl ?_
  repeat' (first | with_reducible refine wo_nil ?_ | ((with_reducible refine wo_any ?_); ((with_reducible refine ik_assign ?_); refine wo_op rfl (op_assign rfl) rfl rfl ?_)) | with_reducible refine sq_norm ?_ | with_reducible refine wc_seq ?_ | with_reducible refine wc_region ?_ | with_reducible refine wc_block ?_)
  refine wc_loop (fun p : Nat × Value => n - p.1) (fun p => [(0, .slice b n c), (1, .int .i64 d), (5, p.2), (6, .int .i64 (p.1 : Nat))]) (fun p h' => (Wf h' ∧ Ow h h' 3 1 p.2 p.1 (((List.range p.1).map (mulF l d)).map (.int .i64))) ∧ p.1 ≤ n) (0, .slice none 0 0) (within_lk ⟨rfl, rfl, rfl, rfl, trivial⟩) ⟨⟨hw, .nil (.refl _)⟩, Nat.zero_le _⟩ ?_
  rintro ⟨i, r⟩ h1 ⟨⟨w1, ow⟩, hi⟩
  simp only at ow hi ⊢
  by_cases hlt : i < n
  · repeat' (first | with_reducible refine wo_nil ?_ | ((with_reducible refine wo_any ?_); first | ((with_reducible refine ik_move ?_); refine wo_op rfl (op_move rfl) rfl rfl ?_) | ((with_reducible refine ik_assign ?_); refine wo_op rfl (op_assign rfl) rfl rfl ?_) | ((with_reducible refine ik_callb ?_); refine wo_op rfl (op_lenSl rfl Tryz.underlying22) rfl rfl ?_) | ((with_reducible refine ik_bin ?_); refine wo_op rfl (op_lss rfl rfl) rfl rfl ?_)) | with_reducible refine sq_norm ?_ | with_reducible refine wc_seq ?_ | with_reducible refine wc_region ?_ | with_reducible refine wc_skip ?_ | with_reducible refine wc_block ?_ | (refine wc_if rfl (fun hb => ?_) (fun hb => ?_) <;> (try simp only [decide_eq_true_eq, decide_eq_false_iff_not, Bool.not_eq_true', Bool.not_eq_false', Int.not_lt, Int.not_le, Decidable.not_not, not_true_eq_false, not_false_eq_true, beq_self_eq_true, reduceCtorEq] at hb) <;> (try (exfalso; omega))))
    refine wc_loop (fun p : Nat × Int => i + 1 - p.1) (fun p => [(0, .slice b n c), (1, .int .i64 d), (5, r), (6, .int .i64 i), (7, .int .i64 p.2), (8, .int .i64 (p.1 : Nat))])
      (fun p h' => (Wf h' ∧ Ow h h' 3 1 r i (((List.range i).map (mulF l d)).map (.int .i64))) ∧ (p.1 ≤ i - d + 1 ∧ (i < d → p.1 = 0)) ∧ sumN p.1 (fun j => l.getD j 0 * l.getD (i - d - j) 0) = p.2) (0, 0) (within_lk ⟨rfl, rfl, rfl, rfl, rfl, rfl, trivial⟩) ⟨⟨w1, ow⟩, ⟨Nat.zero_le _, fun _ => rfl⟩, by unfold sumN; rfl⟩ ?_
    clear w1 ow
    rintro ⟨j, S⟩ h2 ⟨⟨w2, ow⟩, ⟨hj, hj0⟩, hS⟩
    simp only at hj hj0 hS ⊢
    have g2 := ow.grow
    have hsb := mul_sum hl0 (i - d) (j := j) (by omega)
    rw [hS] at hsb
    by_cases hjt : d ≤ i ∧ j ≤ i - d
    · obtain ⟨d1, i1, i3⟩ := slI_at (u.grow g2) (i := (j : Int)) (q := j) (by omega) rfl
      obtain ⟨d2, j1, j3⟩ := slI_at (u.grow g2) (i := (i : Int) - (d : Int) - (j : Int)) (q := i - d - j) (by omega) (by omega)
      have hst : sumN (j + 1) (fun j => l.getD j 0 * l.getD (i - d - j) 0) = S + l.getD j 0 * l.getD (i - d - j) 0 := by rw [sumN, hS]
      have hpb := prod_bound (getD_bound hl0 j) (getD_bound hl0 (i - d - j))
      obtain ⟨x, hx⟩ : ∃ x, l.getD j 0 = x := ⟨_, rfl⟩
      obtain ⟨y, hy⟩ : ∃ y, l.getD (i - d - j) 0 = y := ⟨_, rfl⟩
      rw [hx] at i3 hst hpb
      rw [hy] at j3 hst hpb
      repeat' (first | with_reducible refine wo_nil ?_ | ((with_reducible refine wo_any ?_); first | ((with_reducible refine ik_move ?_); refine wo_op rfl (op_move rfl) rfl rfl ?_) | ((with_reducible refine ik_assign ?_); refine wo_op rfl (op_assign rfl) rfl rfl ?_) | ((with_reducible refine ik_bin ?_); first | refine wo_op rfl (op_sub' rfl rfl (w64 (by omega) (by omega))) rfl rfl ?_ | refine wo_op rfl (op_leq rfl rfl) rfl rfl ?_ | refine wo_op rfl (op_add' rfl rfl (w64 (by omega) (by omega))) rfl rfl ?_)) | ((with_reducible refine xk_any ?_); ((with_reducible refine xk_as0 ?_); first | ((with_reducible refine xk_move ?_); refine wx_q (wt_none rfl) rfl rfl (op_q rfl (op_move rfl)) rfl rfl rfl ?_) | ((with_reducible refine xk_assign ?_); refine wx_q (wt_none rfl) rfl rfl (op_q rfl (op_assign rfl)) rfl rfl rfl ?_) | ((with_reducible refine xk_indexAddr ?_); first | refine wx_q (wt_none rfl) rfl rfl (op_q rfl (op_indexAddr rfl rfl i1)) rfl rfl rfl ?_ | refine wx_q (wt_none rfl) rfl rfl (op_q rfl (op_indexAddr rfl rfl j1)) rfl rfl rfl ?_) | ((with_reducible refine xk_load ?_); first | refine wx_h0 (wt_none rfl) rfl (op_q rfl (op_ldCell rfl Tryz.underlying3 rfl i3)) rfl rfl rfl ?_ | refine wx_h0 (wt_none rfl) rfl (op_q rfl (op_ldCell rfl Tryz.underlying3 rfl j3)) rfl rfl rfl ?_) | ((with_reducible refine xk_bin ?_); first | refine wx_q (wt_none rfl) rfl rfl (op_q rfl (op_sub' rfl rfl (w64 (by omega) (by omega)))) rfl rfl rfl ?_ | refine wx_q (wt_none rfl) rfl rfl (op_q rfl (op_mul' rfl rfl (w64 (by omega) (by omega)))) rfl rfl rfl ?_ | refine wx_q (wt_none rfl) rfl rfl (op_q rfl (op_add' rfl rfl (w64 (by omega) (by omega)))) rfl rfl rfl ?_) | with_reducible refine wx_nil0 ?_ ?_)) | with_reducible exact obl_nil | with_reducible refine obl_cons ?_ ?_ | ((with_reducible refine ik_obs ?_); first | exact obs_nil | refine obs_chkn rfl rfl (op_q rfl (op_ldCell rfl Tryz.underlying3 rfl i3)) ?_ | refine obs_chkn rfl rfl (op_q rfl (op_ldCell rfl Tryz.underlying3 rfl j3)) ?_) | with_reducible refine sq_norm ?_ | with_reducible refine wc_seq ?_ | with_reducible refine wc_region ?_ | with_reducible refine wc_skip ?_ | with_reducible refine wc_block ?_ | with_reducible refine bq_norm ?_ | (refine wc_if rfl (fun hb => ?_) (fun hb => dead_A hb); (try simp only [decide_eq_true_eq, decide_eq_false_iff_not, Bool.not_eq_true', Bool.not_eq_false', Int.not_lt, Int.not_le, Decidable.not_not, not_true_eq_false, not_false_eq_true, beq_self_eq_true, reduceCtorEq] at hb)) | refine wc_drawB (id := 9) 16 [0, 0, 0, 6, 14, 0, 0, 0, 192, 0, 960, 2016, 4064, 8190, 16383, 32767] [0, 1, 2, 3, 4, 5, 6, 7, 8, 9, 10, 11, 12, 13, 14, 15] (by kernel_rfl) (by kernel_rfl) rfl rfl ?_)
      exact lq_norm (j + 1, S + x * y) (by simp only; omega) (within_lk ⟨rfl, rfl, rfl, rfl, rfl, rfl, trivial⟩) ⟨⟨wf_A, ow.next gr_A⟩, ⟨by simp only; omega, fun q => by omega⟩, hst⟩
    · have hF : mulF l d i = 0 - rnd S 1024 := by
        unfold mulF
        by_cases q : i < d
        · have : j = 0 := hj0 q
          subst this
          have h0 : S = 0 := by rw [← hS]; unfold sumN; rfl
          have hr0 : rnd 0 1024 = 0 := by unfold rnd; decide
          rw [if_pos q, h0, hr0]; rfl
        · have : j = i - d + 1 := by omega
          rw [if_neg q, ← this, hS]; omega
      have hrb := rnd_le (a := S) (b := 1024) (by decide)
      have q93 := fun h' : H => c93 (G := G) (h := h') (a := S) (b := 1024) (by decide) (by decide) (by omega)
      obtain ⟨R, hR⟩ : ∃ R, rnd S 1024 = R := ⟨_, rfl⟩
      rw [hR] at hF hrb q93
      obtain ⟨r2, h3, hap, ow3, _, hwf, _⟩ := append_ow (M := mz G) (st := 22) (xt := 22) (h := h2.push (.cells [.int .i64 (0 - R)] 3 1 false)) (new := [.int .i64 (0 - R)]) (m := 1) Tryz.underlying22 Tryz.underlying22 rfl zs3 zb3 zz3 rfl (ow.next ((Grow.refl _).push _)) (Sl.ofAt (At.new _ _) rfl (Nat.le_refl _)) rfl (by omega)
      rw [← hF, rowI_step (mulF l d) i] at ow3
      repeat' (first | with_reducible refine wo_nil ?_ | ((with_reducible refine wo_any ?_); first | ((with_reducible refine ik_move ?_); refine wo_op rfl (op_move rfl) rfl rfl ?_) | ((with_reducible refine ik_assign ?_); refine wo_op rfl (op_assign rfl) rfl rfl ?_) | ((with_reducible refine ik_callb ?_); refine wo_op rfl (op_append rfl rfl hap) rfl rfl ?_) | ((with_reducible refine ik_bin ?_); first | refine wo_op rfl (op_sub' rfl rfl (w64 (by omega) (by omega))) rfl rfl ?_ | refine wo_op rfl (op_leq rfl rfl) rfl rfl ?_ | refine wo_op rfl (op_add' rfl rfl (w64 (by omega) (by omega))) rfl rfl ?_) | ((with_reducible refine ik_buildSlice ?_); refine wo_op rfl (op_buildSl rfl Tryz.underlying22 zs3 zz3 rfl rfl) rfl rfl ?_) | ((with_reducible refine ik_callv ?_); refine wo_op rfl (op_call rfl rfl (q93 _)) rfl rfl ?_)) | with_reducible refine sq_norm ?_ | with_reducible refine wc_seq ?_ | with_reducible refine wc_region ?_ | with_reducible refine wc_exit ?_ | with_reducible refine bq_norm ?_ | with_reducible refine sq_exit ?_ | with_reducible refine lq_exit ?_ | refine bq_eq rfl ?_ | (refine wc_if rfl (fun hb => dead_A hb) (fun hb => ?_); (try simp only [decide_eq_true_eq, decide_eq_false_iff_not, Bool.not_eq_true', Bool.not_eq_false', Int.not_lt, Int.not_le, Decidable.not_not, not_true_eq_false, not_false_eq_true, beq_self_eq_true, reduceCtorEq] at hb)))
      exact lq_norm (i + 1, r2) (by simp only; omega) (within_lk ⟨rfl, rfl, rfl, rfl, trivial⟩) ⟨⟨hwf wf_A, ow3⟩, by simp only; omega⟩
  · have hin : i = n := by omega
    subst hin
    repeat' (first | with_reducible refine wo_nil ?_ | ((with_reducible refine wo_any ?_); first | ((with_reducible refine ik_move ?_); refine wo_op rfl (op_move rfl) rfl rfl ?_) | ((with_reducible refine ik_assign ?_); refine wo_op rfl (op_assign rfl) rfl rfl ?_) | ((with_reducible refine ik_callb ?_); refine wo_op rfl (op_lenSl rfl Tryz.underlying22) rfl rfl ?_) | ((with_reducible refine ik_bin ?_); refine wo_op rfl (op_lss rfl rfl) rfl rfl ?_)) | with_reducible refine sq_norm ?_ | with_reducible refine wc_seq ?_ | with_reducible refine wc_region ?_ | with_reducible refine wc_ret ?_ | with_reducible refine wc_exit ?_ | with_reducible refine sq_exit ?_ | with_reducible refine lq_exit ?_ | refine bq_eq rfl ?_ | (refine wc_if rfl (fun hb => ?_) (fun hb => ?_) <;> (try simp only [decide_eq_true_eq, decide_eq_false_iff_not, Bool.not_eq_true', Bool.not_eq_false', Int.not_lt, Int.not_le, Decidable.not_not, not_true_eq_false, not_false_eq_true, beq_self_eq_true, reduceCtorEq] at hb) <;> (try (exfalso; omega))))
    have hs := ow.sl (G := G)
    obtain ⟨a2, c2, rfl⟩ := hs.form
    exact rq1 rfl ⟨⟨_, _, rfl, hs⟩, ow.grow⟩
end Go.Proofs.YtdfpadokepmknaaGreatDoor

/- Lists without their ghosts by the reference; notches; what is heard. -/
namespace Go.Proofs.YtdfpadokepmknaaGreatDoor
open Go Go.Ab Go.Fl
attribute [local irreducible] SeqQ BlkQ LpQ RetQ Wc Wo WD WX Op1 Op1q Op1a Cf Cl From
attribute [local irreducible] Ieee.Format.order Ieee.Format.read Ieee.Format.nearest Ieee.Format.write Ieee.Format.mul Ieee.Format.div Ieee.Datum.order Ieee.Datum.integral smpE smp smpW K J U sumN lchk tchk trE hdrE appL undL undA undI wr ghoL rnd mulL
set_option maxRecDepth 10000
variable {G : Base} {h : H}

theorem dgh_take (l : List Int) (d : Nat) {i j : Nat} (h : i ≤ j) : ∀ x ∈ dghA l d i, x ∈ dghA l d j := by
  induction j with
  | zero => have : i = 0 := by omega
            subst this; exact fun x hx => hx
  | succ j ih =>
    intro x hx
    by_cases q : i = j + 1
    · subst q; exact hx
    · unfold dghA; exact List.mem_append_left _ (ih (by omega) x hx)
/-- What a function of the reference that makes a list answers. -/
def RefM (G : Base) (h : H) (r : Value) (n : Nat) (L : List Int) : Prop :=
  (anyLarge L = true ∧ r = .tuple #[.slice none 0 0, .int .i64 4]) ∨ (anyLarge L = false ∧ ∃ a c, r = .tuple #[.slice a n c, .int .i64 0] ∧ Sl G h 1 (.slice a n c) n (L.map (.int .i64)))
set_option maxHeartbeats 2000000 in
theorem c39 {v : Value} {n d : Nat} {l : List Int} (s : Sl G h 1 v n (l.map (.int .i64))) (hn : n < 1000000) (hl0 : ∀ x ∈ l, x.natAbs ≤ 16384) (hw : Wf h) (hd : 1 ≤ d) : Cf (mz G) (.func (.func 39) #[] #[]) [v, .int .i64 d] h fun r h' => RefM G h' r n (dghL l d) ∧ Grow h h' := by
  obtain ⟨a, c, rfl⟩ := s.form
  have hl := s.length
  simp at hl
  refine cf_enter0 37 [.tmp 4, .tmp 5] Tryz.func39 rfl rfl rfl rfl ?_
  repeat' (first | with_reducible refine wo_nil ?_ | ((with_reducible refine wo_any ?_); ((with_reducible refine ik_assign ?_); refine wo_op rfl (op_assign rfl) rfl rfl ?_)) | with_reducible refine sq_norm ?_ | with_reducible refine wc_seq ?_ | with_reducible refine wc_region ?_ | with_reducible refine wc_block ?_)
  refine wc_loop (fun p : Nat × Value => n - p.1) (fun p => [(0, .slice a n c), (1, .int .i64 d), (6, p.2), (7, .int .i64 (p.1 : Nat))]) (fun p h' => (Wf h' ∧ Ow h h' 3 1 p.2 p.1 ((dghA l d p.1).map (.int .i64))) ∧ p.1 ≤ n ∧ ∀ x ∈ dghA l d p.1, x.natAbs ≤ 16384) (0, .slice none 0 0) (within_lk ⟨rfl, rfl, rfl, rfl, trivial⟩) ⟨⟨hw, .nil (.refl _)⟩, Nat.zero_le _, fun x hx => by cases hx⟩ ?_
  rintro ⟨k, r⟩ h' ⟨⟨hw', ow⟩, hk, hno⟩
  simp only at ow hk hno ⊢
  by_cases hlt : k < n
  · obtain ⟨ad, i1, i3⟩ := slI_at (s.grow ow.grow) (i := (k : Int)) (q := k) hlt rfl
    have hb1 := getD_bound hl0 k
    have hb2 := getD_bound hno (k - d)
    obtain ⟨x, hx⟩ : ∃ x, l.getD k 0 = x := ⟨_, rfl⟩
    rw [hx] at i3 hb1
    obtain ⟨X, hX⟩ : ∃ X, x + (if d ≤ k then (dghA l d k).getD (k - d) 0 else 0) = X := ⟨_, rfl⟩
    have hnx : dghA l d (k + 1) = dghA l d k ++ [X] := by rw [← hX, ← hx]; rfl
    have q82 := fun (h : H) => c82 (G := G) (h := h) X
    have fin : isLargeB X = true → anyLarge (dghL l d) = true := fun q => by
      unfold anyLarge dghL
      rw [List.any_eq_true]
      exact ⟨X, dgh_take l d (i := k + 1) (by omega) X (by rw [hnx]; simp), q⟩
    have stp : isLargeB X = false → ∀ z ∈ dghA l d (k + 1), z.natAbs ≤ 16384 := fun q z hz => by
      rw [hnx] at hz
      rcases List.mem_append.1 hz with hz | hz
      · exact hno z hz
      · rw [List.mem_singleton] at hz; subst hz
        have := of_decide_eq_false q; omega
    obtain ⟨r2, h3, hap, ow3, _, hwf, _⟩ := append_ow (M := mz G) (st := 22) (xt := 22) (h := h'.push (.cells [.int .i64 X] 3 1 false)) (new := [.int .i64 X]) (m := 1) Tryz.underlying22 Tryz.underlying22 rfl zs3 zb3 zz3 rfl (ow.next ((Grow.refl _).push _)) (Sl.ofAt (At.new _ _) rfl (Nat.le_refl _)) rfl (by omega)
    have e3 : (dghA l d k).map (Value.int .i64) ++ [.int .i64 X] = (dghA l d (k + 1)).map (.int .i64) := by rw [hnx, List.map_append]; rfl
    rw [e3] at ow3
    by_cases hd : d ≤ k
    · obtain ⟨bd, g1, g3⟩ := slI_at (ow.sl (G := G)) (i := (k : Int) - (d : Int)) (q := k - d) (by omega) (by omega)
      obtain ⟨y, hy⟩ : ∃ y, (dghA l d k).getD (k - d) 0 = y := ⟨_, rfl⟩
      rw [hy] at g3 hb2
      rw [if_pos hd, hy] at hX
      have hXw : IntKind.wrap .i64 (x + y) = X := by rw [hX]; exact w64 (by omega) (by omega)
      by_cases hlg : isLargeB X = true
      · rw [hlg] at q82
        repeat' (first | with_reducible refine wo_nil ?_ | ((with_reducible refine wo_any ?_); first | ((with_reducible refine ik_move ?_); refine wo_op rfl (op_move rfl) rfl rfl ?_) | ((with_reducible refine ik_assign ?_); refine wo_op rfl (op_assign rfl) rfl rfl ?_) | ((with_reducible refine ik_indexAddr ?_); first | refine wo_op rfl (op_indexAddr rfl rfl i1) rfl rfl ?_ | refine wo_op rfl (op_indexAddr rfl rfl g1) rfl rfl ?_) | ((with_reducible refine ik_load ?_); first | refine wo_op rfl (op_ldCell rfl Tryz.underlying3 rfl i3) rfl rfl ?_ | refine wo_op rfl (op_ldCell rfl Tryz.underlying3 rfl g3) rfl rfl ?_) | ((with_reducible refine ik_bin ?_); first | refine wo_op rfl (op_add' rfl rfl hXw) rfl rfl ?_ | refine wo_op rfl (op_lss rfl rfl) rfl rfl ?_ | refine wo_op rfl (op_geq rfl rfl) rfl rfl ?_ | refine wo_op rfl (op_sub' rfl rfl (w64 (by omega) (by omega))) rfl rfl ?_) | ((with_reducible refine ik_callb ?_); refine wo_op rfl (op_lenSl rfl Tryz.underlying22) rfl rfl ?_) | ((with_reducible refine ik_callv ?_); refine wo_op rfl (op_call rfl rfl (q82 _)) rfl rfl ?_)) | with_reducible refine sq_norm ?_ | with_reducible refine wc_seq ?_ | with_reducible refine wc_region ?_ | with_reducible refine wc_skip ?_ | with_reducible refine wc_ret ?_ | with_reducible refine wc_block ?_ | with_reducible refine bq_ret ?_ | with_reducible refine sq_ret ?_ | with_reducible refine lq_ret ?_ | refine wc_ift rfl ?_ | (refine wc_if rfl (fun hb => ?_) (fun hb => dead_A hb); (try simp only [decide_eq_true_eq, decide_eq_false_iff_not, Bool.not_eq_true', Bool.not_eq_false', Int.not_lt, Int.not_le, Decidable.not_not, not_true_eq_false, not_false_eq_true, beq_self_eq_true, reduceCtorEq] at hb)))
        exact rq2 rfl rfl ⟨.inl ⟨fin hlg, rfl⟩, ow.grow⟩
      · have hlf := Bool.eq_false_iff.2 hlg
        rw [hlf] at q82
        repeat' (first | with_reducible refine wo_nil ?_ | ((with_reducible refine wo_any ?_); first | ((with_reducible refine ik_move ?_); refine wo_op rfl (op_move rfl) rfl rfl ?_) | ((with_reducible refine ik_assign ?_); refine wo_op rfl (op_assign rfl) rfl rfl ?_) | ((with_reducible refine ik_indexAddr ?_); first | refine wo_op rfl (op_indexAddr rfl rfl i1) rfl rfl ?_ | refine wo_op rfl (op_indexAddr rfl rfl g1) rfl rfl ?_) | ((with_reducible refine ik_load ?_); first | refine wo_op rfl (op_ldCell rfl Tryz.underlying3 rfl i3) rfl rfl ?_ | refine wo_op rfl (op_ldCell rfl Tryz.underlying3 rfl g3) rfl rfl ?_) | ((with_reducible refine ik_bin ?_); first | refine wo_op rfl (op_add' rfl rfl hXw) rfl rfl ?_ | refine wo_op rfl (op_lss rfl rfl) rfl rfl ?_ | refine wo_op rfl (op_geq rfl rfl) rfl rfl ?_ | refine wo_op rfl (op_sub' rfl rfl (w64 (by omega) (by omega))) rfl rfl ?_ | refine wo_op rfl (op_add' rfl rfl (w64 (by omega) (by omega))) rfl rfl ?_) | ((with_reducible refine ik_callb ?_); first | refine wo_op rfl (op_append rfl rfl hap) rfl rfl ?_ | refine wo_op rfl (op_lenSl rfl Tryz.underlying22) rfl rfl ?_) | ((with_reducible refine ik_buildSlice ?_); refine wo_op rfl (op_buildSl rfl Tryz.underlying22 zs3 zz3 rfl rfl) rfl rfl ?_) | ((with_reducible refine ik_callv ?_); refine wo_op rfl (op_call rfl rfl (q82 _)) rfl rfl ?_)) | with_reducible refine sq_norm ?_ | with_reducible refine wc_seq ?_ | with_reducible refine wc_region ?_ | with_reducible refine wc_skip ?_ | with_reducible refine wc_block ?_ | with_reducible refine bq_norm ?_ | refine wc_iff rfl ?_ | (refine wc_if rfl (fun hb => ?_) (fun hb => dead_A hb); (try simp only [decide_eq_true_eq, decide_eq_false_iff_not, Bool.not_eq_true', Bool.not_eq_false', Int.not_lt, Int.not_le, Decidable.not_not, not_true_eq_false, not_false_eq_true, beq_self_eq_true, reduceCtorEq] at hb)))
        exact lq_norm (k + 1, r2) (by simp only; omega) (within_lk ⟨rfl, rfl, rfl, rfl, trivial⟩) ⟨⟨hwf wf_A, ow3⟩, by simp only; omega, stp hlf⟩
    · rw [if_neg hd, Int.add_zero] at hX
      subst hX
      by_cases hlg : isLargeB x = true
      · rw [hlg] at q82
        repeat' (first | with_reducible refine wo_nil ?_ | ((with_reducible refine wo_any ?_); first | ((with_reducible refine ik_move ?_); refine wo_op rfl (op_move rfl) rfl rfl ?_) | ((with_reducible refine ik_assign ?_); refine wo_op rfl (op_assign rfl) rfl rfl ?_) | ((with_reducible refine ik_indexAddr ?_); refine wo_op rfl (op_indexAddr rfl rfl i1) rfl rfl ?_) | ((with_reducible refine ik_load ?_); refine wo_op rfl (op_ldCell rfl Tryz.underlying3 rfl i3) rfl rfl ?_) | ((with_reducible refine ik_callb ?_); refine wo_op rfl (op_lenSl rfl Tryz.underlying22) rfl rfl ?_) | ((with_reducible refine ik_bin ?_); first | refine wo_op rfl (op_lss rfl rfl) rfl rfl ?_ | refine wo_op rfl (op_geq rfl rfl) rfl rfl ?_) | ((with_reducible refine ik_callv ?_); refine wo_op rfl (op_call rfl rfl (q82 _)) rfl rfl ?_)) | with_reducible refine sq_norm ?_ | with_reducible refine wc_seq ?_ | with_reducible refine wc_region ?_ | with_reducible refine wc_skip ?_ | with_reducible refine wc_ret ?_ | with_reducible refine wc_block ?_ | with_reducible refine bq_ret ?_ | with_reducible refine sq_ret ?_ | with_reducible refine lq_ret ?_ | refine wc_ift rfl ?_ | (refine wc_if rfl (fun hb => dead_A hb) (fun hb => ?_); (try simp only [decide_eq_true_eq, decide_eq_false_iff_not, Bool.not_eq_true', Bool.not_eq_false', Int.not_lt, Int.not_le, Decidable.not_not, not_true_eq_false, not_false_eq_true, beq_self_eq_true, reduceCtorEq] at hb)) | (refine wc_if rfl (fun hb => ?_) (fun hb => dead_A hb); (try simp only [decide_eq_true_eq, decide_eq_false_iff_not, Bool.not_eq_true', Bool.not_eq_false', Int.not_lt, Int.not_le, Decidable.not_not, not_true_eq_false, not_false_eq_true, beq_self_eq_true, reduceCtorEq] at hb)))
        exact rq2 rfl rfl ⟨.inl ⟨fin hlg, rfl⟩, ow.grow⟩
      · have hlf := Bool.eq_false_iff.2 hlg
        rw [hlf] at q82
        repeat' (first | with_reducible refine wo_nil ?_ | ((with_reducible refine wo_any ?_); first | ((with_reducible refine ik_move ?_); refine wo_op rfl (op_move rfl) rfl rfl ?_) | ((with_reducible refine ik_assign ?_); refine wo_op rfl (op_assign rfl) rfl rfl ?_) | ((with_reducible refine ik_indexAddr ?_); refine wo_op rfl (op_indexAddr rfl rfl i1) rfl rfl ?_) | ((with_reducible refine ik_load ?_); refine wo_op rfl (op_ldCell rfl Tryz.underlying3 rfl i3) rfl rfl ?_) | ((with_reducible refine ik_callb ?_); first | refine wo_op rfl (op_append rfl rfl hap) rfl rfl ?_ | refine wo_op rfl (op_lenSl rfl Tryz.underlying22) rfl rfl ?_) | ((with_reducible refine ik_bin ?_); first | refine wo_op rfl (op_lss rfl rfl) rfl rfl ?_ | refine wo_op rfl (op_geq rfl rfl) rfl rfl ?_ | refine wo_op rfl (op_add' rfl rfl (w64 (by omega) (by omega))) rfl rfl ?_) | ((with_reducible refine ik_buildSlice ?_); refine wo_op rfl (op_buildSl rfl Tryz.underlying22 zs3 zz3 rfl rfl) rfl rfl ?_) | ((with_reducible refine ik_callv ?_); refine wo_op rfl (op_call rfl rfl (q82 _)) rfl rfl ?_)) | with_reducible refine sq_norm ?_ | with_reducible refine wc_seq ?_ | with_reducible refine wc_region ?_ | with_reducible refine wc_skip ?_ | with_reducible refine wc_block ?_ | with_reducible refine bq_norm ?_ | refine wc_iff rfl ?_ | (refine wc_if rfl (fun hb => dead_A hb) (fun hb => ?_); (try simp only [decide_eq_true_eq, decide_eq_false_iff_not, Bool.not_eq_true', Bool.not_eq_false', Int.not_lt, Int.not_le, Decidable.not_not, not_true_eq_false, not_false_eq_true, beq_self_eq_true, reduceCtorEq] at hb)) | (refine wc_if rfl (fun hb => ?_) (fun hb => dead_A hb); (try simp only [decide_eq_true_eq, decide_eq_false_iff_not, Bool.not_eq_true', Bool.not_eq_false', Int.not_lt, Int.not_le, Decidable.not_not, not_true_eq_false, not_false_eq_true, beq_self_eq_true, reduceCtorEq] at hb)))
        exact lq_norm (k + 1, r2) (by simp only; omega) (within_lk ⟨rfl, rfl, rfl, rfl, trivial⟩) ⟨⟨hwf wf_A, ow3⟩, by simp only; omega, stp hlf⟩
  · have hkn2 : k = n := by omega
    subst hkn2
    repeat' (first | with_reducible refine wo_nil ?_ | ((with_reducible refine wo_any ?_); first | ((with_reducible refine ik_move ?_); refine wo_op rfl (op_move rfl) rfl rfl ?_) | ((with_reducible refine ik_assign ?_); refine wo_op rfl (op_assign rfl) rfl rfl ?_) | ((with_reducible refine ik_callb ?_); refine wo_op rfl (op_lenSl rfl Tryz.underlying22) rfl rfl ?_) | ((with_reducible refine ik_bin ?_); refine wo_op rfl (op_lss rfl rfl) rfl rfl ?_)) | with_reducible refine sq_norm ?_ | with_reducible refine wc_seq ?_ | with_reducible refine wc_region ?_ | with_reducible refine wc_ret ?_ | with_reducible refine wc_exit ?_ | with_reducible refine sq_exit ?_ | with_reducible refine lq_exit ?_ | refine bq_eq rfl ?_ | (refine wc_if rfl (fun hb => ?_) (fun hb => ?_) <;> (try simp only [decide_eq_true_eq, decide_eq_false_iff_not, Bool.not_eq_true', Bool.not_eq_false', Int.not_lt, Int.not_le, Decidable.not_not, not_true_eq_false, not_false_eq_true, beq_self_eq_true, reduceCtorEq] at hb) <;> (try (exfalso; omega))))
    have hs := ow.sl (G := G)
    obtain ⟨a2, c2, rfl⟩ := hs.form
    refine rq2 rfl rfl ⟨.inr ⟨?_, a2, c2, rfl, ?_⟩, ow.grow⟩
    · unfold dghL; rw [hl]; exact large_no hno
    · unfold dghL; rw [hl]; exact hs
def FitM (G : Base) (h : H) (r : Value) (n : Nat) (L : List Int) : Prop :=
  (anyLarge L = true ∧ r = .tuple #[.slice none 0 0, .int .i64 4]) ∨ (anyLarge L = false ∧ ∃ a c, r = .tuple #[.slice a n c, .int .i64 0] ∧ Sl G h 1 (.slice a n c) n ((L.map smpW).map (.float .f32)))
theorem take_map_step (l : List Int) {k : Nat} (hk : k < l.length) : ((l.take k).map smpW).map (Value.float .f32) ++ [Value.float .f32 (smpW (l.getD k 0))] = ((l.take (k + 1)).map smpW).map (Value.float .f32) := by
  rw [List.take_succ_eq_append_getElem hk, List.map_append, List.map_append, ← getElem_getD hk]; rfl
set_option maxHeartbeats 2000000 in
theorem c48 {v : Value} {n : Nat} {l : List Int} (s : Sl G h 1 v n (l.map (.int .i64))) (hn : n < 1000000) (hw : Wf h) : Cf (mz G) (.func (.func 48) #[] #[]) [v] h fun r h' => FitM G h' r n l ∧ Grow h h' := by
  obtain ⟨a, c, rfl⟩ := s.form
  have hl := s.length
  simp at hl
  refine cf_enter0 26 [.tmp 2, .tmp 3] Tryz.func48 rfl rfl rfl rfl ?_
  repeat' (first | with_reducible refine wo_nil ?_ | ((with_reducible refine wo_any ?_); ((with_reducible refine ik_assign ?_); refine wo_op rfl (op_assign rfl) rfl rfl ?_)) | with_reducible refine sq_norm ?_ | with_reducible refine wc_seq ?_ | with_reducible refine wc_region ?_ | with_reducible refine wc_block ?_)
  refine wc_loop (fun p : Nat × Value => n - p.1) (fun p => [(0, .slice a n c), (4, p.2), (5, .int .i64 (p.1 : Nat))]) (fun p h' => (Wf h' ∧ Ow h h' 36 1 p.2 p.1 (((l.take p.1).map smpW).map (.float .f32))) ∧ p.1 ≤ n ∧ anyLarge (l.take p.1) = false) (0, .slice none 0 0) (within_lk ⟨rfl, rfl, rfl, trivial⟩) ⟨⟨hw, .nil (.refl _)⟩, Nat.zero_le _, by simp [anyLarge]⟩ ?_
  rintro ⟨k, r⟩ h' ⟨⟨hw', ow⟩, hk, hno⟩
  simp only at ow hk hno ⊢
  by_cases hlt : k < n
  · obtain ⟨ad, i1, i3⟩ := slI_at (s.grow ow.grow) (i := (k : Int)) (q := k) hlt rfl
    have hm : l.getD k 0 ∈ l := by rw [← getElem_getD (by omega)]; exact List.getElem_mem _
    have hst := take_map_step l (k := k) (by omega)
    have htk : l.take (k + 1) = l.take k ++ [l.getD k 0] := by rw [List.take_succ_eq_append_getElem (by omega), getElem_getD]
    obtain ⟨x, hx⟩ : ∃ x, l.getD k 0 = x := ⟨_, rfl⟩
    rw [hx] at i3 hm hst htk
    have q82 := fun (h : H) => c82 (G := G) (h := h) x
    by_cases hlg : isLargeB x = true
    · rw [hlg] at q82
      repeat' (first | with_reducible refine wo_nil ?_ | ((with_reducible refine wo_any ?_); first | ((with_reducible refine ik_move ?_); refine wo_op rfl (op_move rfl) rfl rfl ?_) | ((with_reducible refine ik_assign ?_); refine wo_op rfl (op_assign rfl) rfl rfl ?_) | ((with_reducible refine ik_indexAddr ?_); refine wo_op rfl (op_indexAddr rfl rfl i1) rfl rfl ?_) | ((with_reducible refine ik_load ?_); refine wo_op rfl (op_ldCell rfl Tryz.underlying3 rfl i3) rfl rfl ?_) | ((with_reducible refine ik_callb ?_); refine wo_op rfl (op_lenSl rfl Tryz.underlying22) rfl rfl ?_) | ((with_reducible refine ik_bin ?_); refine wo_op rfl (op_lss rfl rfl) rfl rfl ?_) | ((with_reducible refine ik_callv ?_); refine wo_op rfl (op_call rfl rfl (q82 _)) rfl rfl ?_)) | with_reducible refine sq_norm ?_ | with_reducible refine wc_seq ?_ | with_reducible refine wc_region ?_ | with_reducible refine wc_skip ?_ | with_reducible refine wc_ret ?_ | with_reducible refine wc_block ?_ | with_reducible refine bq_ret ?_ | with_reducible refine sq_ret ?_ | with_reducible refine lq_ret ?_ | refine wc_ift rfl ?_ | (refine wc_if rfl (fun hb => ?_) (fun hb => dead_A hb); (try simp only [decide_eq_true_eq, decide_eq_false_iff_not, Bool.not_eq_true', Bool.not_eq_false', Int.not_lt, Int.not_le, Decidable.not_not, not_true_eq_false, not_false_eq_true, beq_self_eq_true, reduceCtorEq] at hb)))
      exact rq2 rfl rfl ⟨.inl ⟨by unfold anyLarge; rw [List.any_eq_true]; exact ⟨x, hm, hlg⟩, rfl⟩, ow.grow⟩
    · have hlf := Bool.eq_false_iff.2 hlg
      rw [hlf] at q82
      have hb := of_decide_eq_false hlf
      have q97 := fun (h : H) => c97 (G := G) (h := h) (n := x) (by omega)
      obtain ⟨r2, h3, hap, ow3, _, hwf, _⟩ := append_ow (M := mz G) (st := 23) (xt := 23) (h := h'.push (.cells [.float .f32 (smpW x)] 36 1 false)) (new := [.float .f32 (smpW x)]) (m := 1) Tryz.underlying23 Tryz.underlying23 rfl zs36 zb36 zz36 rfl (ow.next ((Grow.refl _).push _)) (Sl.ofAt (At.new _ _) rfl (Nat.le_refl _)) rfl (by omega)
      rw [hst] at ow3
      have hno2 : anyLarge (l.take (k + 1)) = false := by
        rw [htk]
        unfold anyLarge at hno ⊢
        rw [List.any_append, hno]
        simpa using hlf
      repeat' (first | with_reducible refine wo_nil ?_ | ((with_reducible refine wo_any ?_); first | ((with_reducible refine ik_move ?_); refine wo_op rfl (op_move rfl) rfl rfl ?_) | ((with_reducible refine ik_assign ?_); refine wo_op rfl (op_assign rfl) rfl rfl ?_) | ((with_reducible refine ik_indexAddr ?_); refine wo_op rfl (op_indexAddr rfl rfl i1) rfl rfl ?_) | ((with_reducible refine ik_load ?_); refine wo_op rfl (op_ldCell rfl Tryz.underlying3 rfl i3) rfl rfl ?_) | ((with_reducible refine ik_callb ?_); first | refine wo_op rfl (op_append rfl rfl hap) rfl rfl ?_ | refine wo_op rfl (op_lenSl rfl Tryz.underlying22) rfl rfl ?_) | ((with_reducible refine ik_bin ?_); first | refine wo_op rfl (op_lss rfl rfl) rfl rfl ?_ | refine wo_op rfl (op_add' rfl rfl (w64 (by omega) (by omega))) rfl rfl ?_) | ((with_reducible refine ik_buildSlice ?_); refine wo_op rfl (op_buildSl rfl Tryz.underlying23 zs36 zz36 rfl rfl) rfl rfl ?_) | ((with_reducible refine ik_callv ?_); first | refine wo_op rfl (op_call rfl rfl (q82 _)) rfl rfl ?_ | refine wo_op rfl (op_call rfl rfl (q97 _)) rfl rfl ?_)) | with_reducible refine sq_norm ?_ | with_reducible refine wc_seq ?_ | with_reducible refine wc_region ?_ | with_reducible refine wc_skip ?_ | with_reducible refine wc_block ?_ | with_reducible refine bq_norm ?_ | refine wc_iff rfl ?_ | (refine wc_if rfl (fun hb => ?_) (fun hb => dead_A hb); (try simp only [decide_eq_true_eq, decide_eq_false_iff_not, Bool.not_eq_true', Bool.not_eq_false', Int.not_lt, Int.not_le, Decidable.not_not, not_true_eq_false, not_false_eq_true, beq_self_eq_true, reduceCtorEq] at hb)))
      exact lq_norm (k + 1, r2) (by simp only; omega) (within_lk ⟨rfl, rfl, rfl, trivial⟩) ⟨⟨hwf wf_A, ow3⟩, by simp only; omega, hno2⟩
  · have hkn2 : k = n := by omega
    subst hkn2
    repeat' (first | with_reducible refine wo_nil ?_ | ((with_reducible refine wo_any ?_); first | ((with_reducible refine ik_move ?_); refine wo_op rfl (op_move rfl) rfl rfl ?_) | ((with_reducible refine ik_assign ?_); refine wo_op rfl (op_assign rfl) rfl rfl ?_) | ((with_reducible refine ik_callb ?_); refine wo_op rfl (op_lenSl rfl Tryz.underlying22) rfl rfl ?_) | ((with_reducible refine ik_bin ?_); refine wo_op rfl (op_lss rfl rfl) rfl rfl ?_)) | with_reducible refine sq_norm ?_ | with_reducible refine wc_seq ?_ | with_reducible refine wc_region ?_ | with_reducible refine wc_ret ?_ | with_reducible refine wc_exit ?_ | with_reducible refine sq_exit ?_ | with_reducible refine lq_exit ?_ | refine bq_eq rfl ?_ | (refine wc_if rfl (fun hb => ?_) (fun hb => ?_) <;> (try simp only [decide_eq_true_eq, decide_eq_false_iff_not, Bool.not_eq_true', Bool.not_eq_false', Int.not_lt, Int.not_le, Decidable.not_not, not_true_eq_false, not_false_eq_true, beq_self_eq_true, reduceCtorEq] at hb) <;> (try (exfalso; omega))))
    have hs := ow.sl (G := G)
    rw [List.take_of_length_le (by omega)] at hs hno
    obtain ⟨a2, c2, rfl⟩ := hs.form
    exact rq2 rfl rfl ⟨.inr ⟨hno, a2, c2, rfl, hs⟩, ow.grow⟩
/-- What is heard is what was wanted. -/
def HeardA (G : Base) (h : H) (a : Option Addr) (n c : Nat) (E bad : Int) (w : Value) (L : List Int) : Prop :=
  (bad ≠ 0 ∧ E = bad ∧ n = 0) ∨ (bad = 0 ∧ (∃ m, m < 1000000 ∧ Sl G h 1 w m (L.map (.int .i64))) ∧ ((E = 4 ∧ anyLarge L = true ∧ n = 0) ∨ (E = 0 ∧ anyLarge L = false ∧ Sl G h 1 (.slice a n c) n ((L.map smpW).map (.float .f32)))))
theorem smpW_selfL {L : List Int} (h : anyLarge L = false) : fEqL (L.map smpW) (L.map smpW) := ⟨rfl, fun i q _ => by
  obtain ⟨z, hz, e⟩ := List.mem_map.1 (List.getElem_mem q)
  rw [← e]
  exact smpW_self (not_large h z hz)⟩
set_option maxHeartbeats 1000000 in
theorem c31 {a : Option Addr} {n c : Nat} {E bad : Int} {w : Value} {L : List Int} (q : HeardA G h a n c E bad w L) (hw : Wf h) : Cf (mz G) (.func (.func 31) #[] #[]) [.slice a n c, .int .i64 E, .int .i64 bad, w] h fun r h' => r = .bool true ∧ Grow h h' := by
  rcases q with ⟨q1, q2, q3⟩ | ⟨q1, ⟨m, hm, sw⟩, q⟩
  · subst q2 q3
    refine cf_enter0 43 [.tmp 8] Tryz.func31 rfl rfl rfl rfl ?_
    repeat' (first | with_reducible refine wo_nil ?_ | ((with_reducible refine wo_any ?_); first | ((with_reducible refine ik_move ?_); refine wo_op rfl (op_move rfl) rfl rfl ?_) | ((with_reducible refine ik_assign ?_); refine wo_op rfl (op_assign rfl) rfl rfl ?_) | ((with_reducible refine ik_bin ?_); first | refine wo_op rfl (op_neq rfl rfl) rfl rfl ?_ | refine wo_op rfl (op_eql rfl rfl) rfl rfl ?_) | ((with_reducible refine ik_pick ?_); refine wo_op rfl (op_pickt rfl rfl) rfl rfl ?_) | ((with_reducible refine ik_g ?_); first | ((with_reducible refine ig_move ?_); refine wo_grun rfl rfl rfl (op_move rfl) rfl rfl ?_) | ((with_reducible refine ig_bin ?_); refine wo_grun rfl rfl rfl (op_eql rfl rfl) rfl rfl ?_) | ((with_reducible refine ig_callb ?_); refine wo_grun rfl rfl rfl (op_lenSl rfl Tryz.underlying23) rfl rfl ?_) | (refine wo_gsplit rfl rfl rfl (fun hb => ?_) (fun hb => ?_) <;> (try simp only [decide_eq_true_eq, decide_eq_false_iff_not, Bool.not_eq_true', Bool.not_eq_false', Int.not_lt, Int.not_le, Decidable.not_not, not_true_eq_false, not_false_eq_true, beq_self_eq_true, reduceCtorEq] at hb) <;> (try (exfalso; omega))))) | with_reducible refine sq_norm ?_ | with_reducible refine wc_seq ?_ | with_reducible refine wc_region ?_ | with_reducible refine wc_ret ?_ | with_reducible refine sq_ret ?_ | (refine wc_if rfl (fun hb => ?_) (fun hb => ?_) <;> (try simp only [decide_eq_true_eq, decide_eq_false_iff_not, Bool.not_eq_true', Bool.not_eq_false', Int.not_lt, Int.not_le, Decidable.not_not, not_true_eq_false, not_false_eq_true, beq_self_eq_true, reduceCtorEq] at hb) <;> (try (exfalso; omega))))
    all_goals exact rq1 rfl ⟨by first | rfl | simp, gr_A⟩
  · subst q1
    have q48 := c48 sw hm hw
    rcases q with ⟨q1, q2, q3⟩ | ⟨q1, q2, q3⟩
    · subst q1 q3
      have r48 : Cf (mz G) (.func (.func 48) #[] #[]) [w] h fun r h' => r = .tuple #[.slice none 0 0, .int .i64 4] ∧ Grow h h' := q48.mono fun r h' ⟨p, g⟩ => ⟨(by
        rcases p with ⟨_, p⟩ | ⟨p, _⟩
        · exact p
        · rw [q2] at p; cases p), g⟩
      refine cf_enter0 43 [.tmp 8] Tryz.func31 rfl rfl rfl rfl ?_
      repeat' (first | with_reducible refine wo_nil ?_ | ((with_reducible refine wo_any ?_); first | ((with_reducible refine ik_move ?_); refine wo_op rfl (op_move rfl) rfl rfl ?_) | ((with_reducible refine ik_assign ?_); refine wo_op rfl (op_assign rfl) rfl rfl ?_) | ((with_reducible refine ik_bin ?_); first | refine wo_op rfl (op_neq rfl rfl) rfl rfl ?_ | refine wo_op rfl (op_eql rfl rfl) rfl rfl ?_) | ((with_reducible refine ik_pick ?_); refine wo_op rfl (op_pickt rfl rfl) rfl rfl ?_) | ((with_reducible refine ik_extract ?_); refine wo_op rfl (op_extract rfl rfl) rfl rfl ?_) | ((with_reducible refine ik_callv ?_); (refine wo_call rfl rfl rfl rfl (r48) rfl rfl ?_; rintro _ _ ⟨rfl, hq⟩; all_goals ((try (have hqn := hq.nx)); (try simp only [H.nx_push, H.nx_set, H.nx_bump] at hqn)))) | ((with_reducible refine ik_g ?_); first | ((with_reducible refine ig_move ?_); refine wo_grun rfl rfl rfl (op_move rfl) rfl rfl ?_) | ((with_reducible refine ig_bin ?_); refine wo_grun rfl rfl rfl (op_eql rfl rfl) rfl rfl ?_) | ((with_reducible refine ig_callb ?_); refine wo_grun rfl rfl rfl (op_lenSl rfl Tryz.underlying23) rfl rfl ?_))) | with_reducible refine sq_norm ?_ | with_reducible refine wc_seq ?_ | with_reducible refine wc_region ?_ | with_reducible refine wc_skip ?_ | with_reducible refine wc_ret ?_ | with_reducible refine sq_ret ?_ | refine wc_ift rfl ?_ | refine wc_iff rfl ?_)
      all_goals exact rq1 rfl ⟨by first | rfl | simp, gr_A⟩
    · subst q1
      have hL := sw.length
      have hL2 := q3.length
      simp at hL hL2
      have hmn : m = n := by omega
      subst hmn
      have r48 : Cf (mz G) (.func (.func 48) #[] #[]) [w] h fun r h' => (∃ a c, r = .tuple #[.slice a m c, .int .i64 0] ∧ Sl G h' 1 (.slice a m c) m ((L.map smpW).map (.float .f32))) ∧ Grow h h' := q48.mono fun r h' ⟨p, g⟩ => ⟨(by
        rcases p with ⟨p, _⟩ | ⟨_, p⟩
        · rw [q2] at p; cases p
        · exact p), g⟩
      refine cf_enter0 43 [.tmp 8] Tryz.func31 rfl rfl rfl rfl ?_
      repeat' (first | with_reducible refine wo_nil ?_ | ((with_reducible refine wo_any ?_); first | ((with_reducible refine ik_move ?_); refine wo_op rfl (op_move rfl) rfl rfl ?_) | ((with_reducible refine ik_assign ?_); refine wo_op rfl (op_assign rfl) rfl rfl ?_) | ((with_reducible refine ik_bin ?_); first | refine wo_op rfl (op_neq rfl rfl) rfl rfl ?_ | refine wo_op rfl (op_eql rfl rfl) rfl rfl ?_) | ((with_reducible refine ik_pick ?_); refine wo_op rfl (op_pickt rfl rfl) rfl rfl ?_) | ((with_reducible refine ik_extract ?_); refine wo_op rfl (op_extract rfl rfl) rfl rfl ?_) | ((with_reducible refine ik_callv ?_); (refine wo_call rfl rfl rfl rfl (r48) rfl rfl ?_; rintro _ _ ⟨⟨a2, c2, rfl, s2⟩, hq⟩; all_goals ((try (have hqn := hq.nx)); (try simp only [H.nx_push, H.nx_set, H.nx_bump] at hqn)))) | ((with_reducible refine ik_g ?_); first | ((with_reducible refine ig_move ?_); refine wo_grun rfl rfl rfl (op_move rfl) rfl rfl ?_) | ((with_reducible refine ig_callF (f := 19) ?_); (refine wo_gcall rfl rfl rfl rfl rfl rfl (c19g (q3.grow gr_A) s2 hm (smpW_selfL q2)) rfl rfl ?_; rintro _ _ ⟨rfl, hq⟩; all_goals ((try (have hqn := hq.nx)); (try simp only [H.nx_push, H.nx_set, H.nx_bump] at hqn)))))) | with_reducible refine sq_norm ?_ | with_reducible refine wc_seq ?_ | with_reducible refine wc_region ?_ | with_reducible refine wc_skip ?_ | with_reducible refine wc_ret ?_ | refine wc_iff rfl ?_)
      all_goals exact rq1 rfl ⟨by first | rfl | simp, gr_A⟩
def ListA (G : Base) (h : H) (a : Option Addr) (n c : Nat) (E bad : Int) (w : Value) (L : List Int) : Prop :=
  E = bad ∧ ((bad ≠ 0 ∧ n = 0) ∨ (bad = 0 ∧ n < 1000000 ∧ Sl G h 1 w n (L.map (.int .i64)) ∧ Sl G h 1 (.slice a n c) n (L.map (.int .i64))))
set_option maxHeartbeats 1000000 in
theorem c41 {a : Option Addr} {n c : Nat} {E bad : Int} {w : Value} {L : List Int} (q : ListA G h a n c E bad w L) (hw : Wf h) : Cf (mz G) (.func (.func 41) #[] #[]) [.slice a n c, .int .i64 E, .int .i64 bad, w] h fun r h' => r = .bool true ∧ Grow h h' := by
  obtain ⟨rfl, q⟩ := q
  rcases q with ⟨q1, q2⟩ | ⟨q1, hn, sw, sv⟩
  · subst q2
    refine cf_enter0 30 [.tmp 8] Tryz.func41 rfl rfl rfl rfl ?_
    repeat' (first | with_reducible refine wo_nil ?_ | ((with_reducible refine wo_any ?_); first | ((with_reducible refine ik_move ?_); refine wo_op rfl (op_move rfl) rfl rfl ?_) | ((with_reducible refine ik_assign ?_); refine wo_op rfl (op_assign rfl) rfl rfl ?_) | ((with_reducible refine ik_bin ?_); refine wo_op rfl (op_eql rfl rfl) rfl rfl ?_) | ((with_reducible refine ik_pick ?_); refine wo_op rfl (op_pickt rfl rfl) rfl rfl ?_) | ((with_reducible refine ik_g ?_); first | refine wo_gskip rfl rfl rfl rfl rfl rfl ?_ | refine wo_gskip' rfl rfl rfl rfl rfl ?_ | ((with_reducible refine ig_move ?_); refine wo_grun rfl rfl rfl (op_move rfl) rfl rfl ?_) | ((with_reducible refine ig_bin ?_); first | refine wo_grun rfl rfl rfl (op_eql rfl rfl) rfl rfl ?_ | refine wo_grun rfl rfl rfl (op_neq rfl rfl) rfl rfl ?_) | ((with_reducible refine ig_callb ?_); refine wo_grun rfl rfl rfl (op_lenSl rfl Tryz.underlying22) rfl rfl ?_) | ((with_reducible refine ig_pick ?_); refine wo_grun rfl rfl rfl (op_pickt rfl rfl) rfl rfl ?_) | (refine wo_gsplit rfl rfl rfl (fun hb => ?_) (fun hb => ?_) <;> (try simp only [decide_eq_true_eq, decide_eq_false_iff_not, Bool.not_eq_true', Bool.not_eq_false', Int.not_lt, Int.not_le, Decidable.not_not, not_true_eq_false, not_false_eq_true, beq_self_eq_true, reduceCtorEq] at hb) <;> (try (exfalso; omega))))) | with_reducible refine sq_norm ?_ | with_reducible refine wc_seq ?_ | with_reducible refine wc_region ?_ | with_reducible refine wc_ret ?_)
    all_goals exact rq1 rfl ⟨by first | rfl | simp | (simp; omega), gr_A⟩
  · subst q1
    have q62 := fun (h' : H) (g : Grow h h') => c62 (sv.grow g) (sw.grow g) hn hn
    simp only [decide_true] at q62
    refine cf_enter0 30 [.tmp 8] Tryz.func41 rfl rfl rfl rfl ?_
    repeat' (first | with_reducible refine wo_nil ?_ | ((with_reducible refine wo_any ?_); first | ((with_reducible refine ik_move ?_); refine wo_op rfl (op_move rfl) rfl rfl ?_) | ((with_reducible refine ik_assign ?_); refine wo_op rfl (op_assign rfl) rfl rfl ?_) | ((with_reducible refine ik_bin ?_); refine wo_op rfl (op_eql rfl rfl) rfl rfl ?_) | ((with_reducible refine ik_pick ?_); refine wo_op rfl (op_pickt rfl rfl) rfl rfl ?_) | ((with_reducible refine ik_g ?_); first | refine wo_gskip rfl rfl rfl rfl rfl rfl ?_ | ((with_reducible refine ig_move ?_); refine wo_grun rfl rfl rfl (op_move rfl) rfl rfl ?_) | ((with_reducible refine ig_bin ?_); first | refine wo_grun rfl rfl rfl (op_eql rfl rfl) rfl rfl ?_ | refine wo_grun rfl rfl rfl (op_neq rfl rfl) rfl rfl ?_) | ((with_reducible refine ig_pick ?_); first | refine wo_grun rfl rfl rfl (op_pickt rfl rfl) rfl rfl ?_ | refine wo_grun rfl rfl rfl (op_pickf rfl rfl) rfl rfl ?_) | ((with_reducible refine ig_callv ?_); (refine wo_gcall rfl rfl rfl rfl rfl rfl (q62 _ gr_A) rfl rfl ?_; rintro _ _ ⟨rfl, hq⟩; all_goals ((try (have hqn := hq.nx)); (try simp only [H.nx_push, H.nx_set, H.nx_bump] at hqn)))))) | with_reducible refine sq_norm ?_ | with_reducible refine wc_seq ?_ | with_reducible refine wc_region ?_ | with_reducible refine wc_ret ?_)
    all_goals exact rq1 rfl ⟨by first | rfl | simp, gr_A⟩
end Go.Proofs.YtdfpadokepmknaaGreatDoor

/- Notches; the law FilterGhosts. -/
namespace Go.Proofs.YtdfpadokepmknaaGreatDoor
open Go Go.Ab Go.Fl
attribute [local irreducible] SeqQ BlkQ LpQ RetQ Wc Wo WD WX Op1 Op1q Op1a Cf Cl From
attribute [local irreducible] Ieee.Format.order Ieee.Format.read Ieee.Format.nearest Ieee.Format.write Ieee.Format.mul Ieee.Format.div Ieee.Datum.order Ieee.Datum.integral smpE smp smpW K J U sumN lchk tchk trE hdrE appL undL undA undI wr ghoL rnd mulL dghL dghA madeE anyLarge rngE
set_option maxRecDepth 10000
variable {G : Base} {h : H}

def notN (d : Nat) : Nat → List Int
  | 0 => []
  | k + 1 => if k * d % 4 = 0 then notN d k ++ [(k : Int)] else notN d k
theorem notN_step (d k : Nat) : (k * d % 4 = 0 → notN d (k + 1) = notN d k ++ [(k : Int)]) ∧ (¬ k * d % 4 = 0 → notN d (k + 1) = notN d k) := ⟨fun q => by show (if _ then _ else _) = _; rw [if_pos q], fun q => by show (if _ then _ else _) = _; rw [if_neg q]⟩
theorem notN_len (d : Nat) : ∀ k, (notN d k).length ≤ k
  | 0 => Nat.le_refl 0
  | k + 1 => by
    have := notN_len d k
    by_cases q : k * d % 4 = 0
    · rw [(notN_step d k).1 q, List.length_append]; simp only [List.length_cons, List.length_nil]; omega
    · rw [(notN_step d k).2 q]; omega
set_option maxHeartbeats 2000000 in
theorem c40 {d : Nat} (hd : 1 ≤ d) (hd2 : d ≤ 64) (hw : Wf h) : Cf (mz G) (.func (.func 40) #[] #[]) [.int .i64 d] h fun r h' => (∃ a c, r = .slice a (notN d 4).length c ∧ Sl G h' 1 (.slice a (notN d 4).length c) (notN d 4).length ((notN d 4).map (.int .i64))) ∧ Grow h h' := by
  obtain ⟨h0, hh0⟩ : ∃ h0, h = h0 := ⟨_, rfl⟩
  subst hh0
  refine cf_enter0 19 [.tmp 2] Tryz.func40 rfl rfl rfl rfl ?_
  repeat' (first | with_reducible refine wo_nil ?_ | ((with_reducible refine wo_any ?_); ((with_reducible refine ik_assign ?_); refine wo_op rfl (op_assign rfl) rfl rfl ?_)) | with_reducible refine sq_norm ?_ | with_reducible refine wc_seq ?_ | with_reducible refine wc_region ?_ | with_reducible refine wc_block ?_)
  refine wc_loop (fun p : Nat × Value => 4 - p.1) (fun p => [(0, .int .i64 d), (3, p.2), (4, .int .i64 (p.1 : Nat))]) (fun p h' => (Wf h' ∧ Ow h h' 3 1 p.2 (notN d p.1).length ((notN d p.1).map (.int .i64))) ∧ p.1 ≤ 4) (0, .slice none 0 0) (within_lk ⟨rfl, rfl, rfl, trivial⟩) ⟨⟨wf_A, .nil (.refl _)⟩, Nat.zero_le _⟩ ?_
  rintro ⟨k, r⟩ h' ⟨⟨hw', ow⟩, hk⟩
  simp only at ow hk ⊢
  by_cases hlt : k < 4
  · have hkd : k * d ≤ 3 * 64 := Nat.mul_le_mul (by omega) hd2
    have hP : IntKind.wrap .i64 ((k : Int) * (d : Int)) = ((k * d : Nat) : Int) := by rw [Int.natCast_mul]; rw [← Int.natCast_mul]; exact w64 (by omega) (by omega)
    by_cases hp : k * d % 4 = 0
    · have hR : ((k * d : Nat) : Int).tmod 4 = 0 := by
        have : ((k * d : Nat) : Int).tmod 4 = ((k * d % 4 : Nat) : Int) := rfl
        rw [this, hp]; rfl
      have hst := (notN_step d k).1 hp
      obtain ⟨r2, h3, hap, ow3, _, hwf, _⟩ := append_ow (M := mz G) (st := 22) (xt := 22) (h := h'.push (.cells [.int .i64 (k : Int)] 3 1 false)) (new := [.int .i64 (k : Int)]) (m := 1) Tryz.underlying22 Tryz.underlying22 rfl zs3 zb3 zz3 rfl (ow.next ((Grow.refl _).push _)) (Sl.ofAt (At.new _ _) rfl (Nat.le_refl _)) rfl (by have := notN_len d k; omega)
      have e3 : (notN d k).map (Value.int .i64) ++ [.int .i64 (k : Int)] = (notN d (k + 1)).map (.int .i64) := by rw [hst, List.map_append]; rfl
      have e4 : (notN d k).length + 1 = (notN d (k + 1)).length := by rw [hst]; simp
      rw [e3, e4] at ow3
      repeat' (first | with_reducible refine wo_nil ?_ | ((with_reducible refine wo_any ?_); first | ((with_reducible refine ik_move ?_); refine wo_op rfl (op_move rfl) rfl rfl ?_) | ((with_reducible refine ik_assign ?_); refine wo_op rfl (op_assign rfl) rfl rfl ?_) | ((with_reducible refine ik_bin ?_); first | refine wo_op rfl (op_mul' rfl rfl hP) rfl rfl ?_ | refine wo_op rfl (op_remV rfl rfl (by decide) hR) rfl rfl ?_ | refine wo_op rfl (op_lss rfl rfl) rfl rfl ?_ | refine wo_op rfl (op_eql rfl rfl) rfl rfl ?_ | refine wo_op rfl (op_add' rfl rfl (w64 (by omega) (by omega))) rfl rfl ?_) | ((with_reducible refine ik_callb ?_); refine wo_op rfl (op_append rfl rfl hap) rfl rfl ?_) | ((with_reducible refine ik_buildSlice ?_); refine wo_op rfl (op_buildSl rfl Tryz.underlying22 zs3 zz3 rfl rfl) rfl rfl ?_)) | with_reducible refine sq_norm ?_ | with_reducible refine wc_seq ?_ | with_reducible refine wc_region ?_ | with_reducible refine wc_skip ?_ | with_reducible refine wc_block ?_ | with_reducible refine bq_norm ?_ | refine wc_ift rfl ?_ | (refine wc_if rfl (fun hb => ?_) (fun hb => dead_A hb); (try simp only [decide_eq_true_eq, decide_eq_false_iff_not, Bool.not_eq_true', Bool.not_eq_false', Int.not_lt, Int.not_le, Decidable.not_not, not_true_eq_false, not_false_eq_true, beq_self_eq_true, reduceCtorEq] at hb)))
      exact lq_norm (k + 1, r2) (by simp only; omega) (within_lk ⟨rfl, rfl, rfl, trivial⟩) ⟨⟨hwf wf_A, ow3⟩, by simp only; omega⟩
    · obtain ⟨R, hR⟩ : ∃ R, ((k * d : Nat) : Int).tmod 4 = R := ⟨_, rfl⟩
      have hR0 : R ≠ 0 := by
        have : ((k * d : Nat) : Int).tmod 4 = ((k * d % 4 : Nat) : Int) := rfl
        rw [← hR, this]; omega
      have hst := (notN_step d k).2 hp
      rw [← hst] at ow
      repeat' (first | with_reducible refine wo_nil ?_ | ((with_reducible refine wo_any ?_); first | ((with_reducible refine ik_move ?_); refine wo_op rfl (op_move rfl) rfl rfl ?_) | ((with_reducible refine ik_assign ?_); refine wo_op rfl (op_assign rfl) rfl rfl ?_) | ((with_reducible refine ik_bin ?_); first | refine wo_op rfl (op_mul' rfl rfl hP) rfl rfl ?_ | refine wo_op rfl (op_remV rfl rfl (by decide) hR) rfl rfl ?_ | refine wo_op rfl (op_lss rfl rfl) rfl rfl ?_ | refine wo_op rfl (op_eql rfl rfl) rfl rfl ?_ | refine wo_op rfl (op_add' rfl rfl (w64 (by omega) (by omega))) rfl rfl ?_)) | with_reducible refine sq_norm ?_ | with_reducible refine wc_seq ?_ | with_reducible refine wc_region ?_ | with_reducible refine wc_skip ?_ | with_reducible refine wc_block ?_ | with_reducible refine bq_norm ?_ | (refine wc_if rfl (fun hb => dead_A hb) (fun hb => ?_); (try simp only [decide_eq_true_eq, decide_eq_false_iff_not, Bool.not_eq_true', Bool.not_eq_false', Int.not_lt, Int.not_le, Decidable.not_not, not_true_eq_false, not_false_eq_true, beq_self_eq_true, reduceCtorEq] at hb)) | (refine wc_if rfl (fun hb => ?_) (fun hb => dead_A hb); (try simp only [decide_eq_true_eq, decide_eq_false_iff_not, Bool.not_eq_true', Bool.not_eq_false', Int.not_lt, Int.not_le, Decidable.not_not, not_true_eq_false, not_false_eq_true, beq_self_eq_true, reduceCtorEq] at hb)))
      exact lq_norm (k + 1, r) (by simp only; omega) (within_lk ⟨rfl, rfl, rfl, trivial⟩) ⟨⟨wf_A, ow⟩, by simp only; omega⟩
  · have hk4 : k = 4 := by omega
    subst hk4
    repeat' (first | with_reducible refine wo_nil ?_ | ((with_reducible refine wo_any ?_); first | ((with_reducible refine ik_move ?_); refine wo_op rfl (op_move rfl) rfl rfl ?_) | ((with_reducible refine ik_assign ?_); refine wo_op rfl (op_assign rfl) rfl rfl ?_) | ((with_reducible refine ik_bin ?_); refine wo_op rfl (op_lss rfl rfl) rfl rfl ?_)) | with_reducible refine sq_norm ?_ | with_reducible refine wc_seq ?_ | with_reducible refine wc_region ?_ | with_reducible refine wc_ret ?_ | with_reducible refine wc_exit ?_ | with_reducible refine sq_exit ?_ | with_reducible refine lq_exit ?_ | refine bq_eq rfl ?_ | refine wc_iff rfl ?_)
    have hs := ow.sl (G := G)
    have hgr := ow.grow
    obtain ⟨a2, c2, rfl⟩ := hs.form
    exact rq1 rfl ⟨⟨_, _, rfl, hs⟩, hgr⟩
/-- What Notches answers. -/
def NotM (G : Base) (h : H) (r : Value) (x : Int) : Prop :=
  ∃ a m c, r = .tuple #[.slice a m c, .int .i64 (rngE x 1 64)] ∧ ((rngE x 1 64 ≠ 0 ∧ m = 0) ∨ (rngE x 1 64 = 0 ∧ m = (notN x.toNat 4).length ∧ Sl G h 1 (.slice a m c) m ((notN x.toNat 4).map (.int .i64))))
set_option maxHeartbeats 2000000 in
theorem c34 (x : Int) (hw : Wf h) : Cf (mz G) (.func (.func 34) #[] #[]) [.int .i64 x] h fun r h' => NotM G h' r x ∧ Grow h h' := by
  have q90 := fun (h : H) => c90 (G := G) (h := h) x
  unfold NotM
  by_cases hz : rngE x 1 64 = 0
  · obtain ⟨d, rfl, hd, hd2⟩ := rng_in hz
    rw [hz] at q90 ⊢
    rw [Int.toNat_natCast]
    refine cf_enter0 26 [.tmp 2, .tmp 3] Tryz.func34 rfl rfl rfl rfl ?_
    repeat' (first | with_reducible refine wo_nil ?_ | ((with_reducible refine wo_any ?_); first | ((with_reducible refine ik_move ?_); refine wo_op rfl (op_move rfl) rfl rfl ?_) | ((with_reducible refine ik_assign ?_); refine wo_op rfl (op_assign rfl) rfl rfl ?_) | ((with_reducible refine ik_bin ?_); refine wo_op rfl (op_neq rfl rfl) rfl rfl ?_) | ((with_reducible refine ik_callv ?_); refine wo_op rfl (op_call rfl rfl (q90 _)) rfl rfl ?_)) | with_reducible refine sq_norm ?_ | with_reducible refine wc_seq ?_ | with_reducible refine wc_region ?_ | with_reducible refine wc_skip ?_ | with_reducible refine wc_block ?_ | refine wc_iff rfl ?_)
    refine wc_loop (fun p : Nat × Value => 4 - p.1) (fun p => [(0, .int .i64 d), (5, p.2), (12, .int .i64 (p.1 : Nat))]) (fun p h' => (Wf h' ∧ Ow h h' 3 1 p.2 (notN d p.1).length ((notN d p.1).map (.int .i64))) ∧ p.1 ≤ 4) (0, .slice none 0 0) (within_lk ⟨rfl, rfl, rfl, trivial⟩) ⟨⟨wf_A, .nil (.refl _)⟩, Nat.zero_le _⟩ ?_
    rintro ⟨k, r⟩ h' ⟨⟨hw', ow⟩, hk⟩
    simp only at ow hk ⊢
    by_cases hlt : k < 4
    · have hkd : k * d ≤ 3 * 64 := Nat.mul_le_mul (by omega) hd2
      have hP : IntKind.wrap .i64 ((k : Int) * (d : Int)) = ((k * d : Nat) : Int) := by rw [Int.natCast_mul]; rw [← Int.natCast_mul]; exact w64 (by omega) (by omega)
      by_cases hp : k * d % 4 = 0
      · have hR : ((k * d : Nat) : Int).tmod 4 = 0 := by
          have : ((k * d : Nat) : Int).tmod 4 = ((k * d % 4 : Nat) : Int) := rfl
          rw [this, hp]; rfl
        have hst := (notN_step d k).1 hp
        obtain ⟨r2, h3, hap, ow3, _, hwf, _⟩ := append_ow (M := mz G) (st := 22) (xt := 22) (h := h'.push (.cells [.int .i64 (k : Int)] 3 1 false)) (new := [.int .i64 (k : Int)]) (m := 1) Tryz.underlying22 Tryz.underlying22 rfl zs3 zb3 zz3 rfl (ow.next ((Grow.refl _).push _)) (Sl.ofAt (At.new _ _) rfl (Nat.le_refl _)) rfl (by have := notN_len d k; omega)
        have e3 : (notN d k).map (Value.int .i64) ++ [.int .i64 (k : Int)] = (notN d (k + 1)).map (.int .i64) := by rw [hst, List.map_append]; rfl
        have e4 : (notN d k).length + 1 = (notN d (k + 1)).length := by rw [hst]; simp
        rw [e3, e4] at ow3
        repeat' (first | with_reducible refine wo_nil ?_ | ((with_reducible refine wo_any ?_); first | ((with_reducible refine ik_move ?_); refine wo_op rfl (op_move rfl) rfl rfl ?_) | ((with_reducible refine ik_assign ?_); refine wo_op rfl (op_assign rfl) rfl rfl ?_) | ((with_reducible refine ik_bin ?_); first | refine wo_op rfl (op_mul' rfl rfl hP) rfl rfl ?_ | refine wo_op rfl (op_remV rfl rfl (by decide) hR) rfl rfl ?_ | refine wo_op rfl (op_lss rfl rfl) rfl rfl ?_ | refine wo_op rfl (op_eql rfl rfl) rfl rfl ?_ | refine wo_op rfl (op_add' rfl rfl (w64 (by omega) (by omega))) rfl rfl ?_) | ((with_reducible refine ik_callb ?_); refine wo_op rfl (op_append rfl rfl hap) rfl rfl ?_) | ((with_reducible refine ik_buildSlice ?_); refine wo_op rfl (op_buildSl rfl Tryz.underlying22 zs3 zz3 rfl rfl) rfl rfl ?_)) | with_reducible refine sq_norm ?_ | with_reducible refine wc_seq ?_ | with_reducible refine wc_region ?_ | with_reducible refine wc_skip ?_ | with_reducible refine wc_block ?_ | with_reducible refine bq_norm ?_ | refine wc_ift rfl ?_ | (refine wc_if rfl (fun hb => ?_) (fun hb => dead_A hb); (try simp only [decide_eq_true_eq, decide_eq_false_iff_not, Bool.not_eq_true', Bool.not_eq_false', Int.not_lt, Int.not_le, Decidable.not_not, not_true_eq_false, not_false_eq_true, beq_self_eq_true, reduceCtorEq] at hb)))
        exact lq_norm (k + 1, r2) (by simp only; omega) (within_lk ⟨rfl, rfl, rfl, trivial⟩) ⟨⟨hwf wf_A, ow3⟩, by simp only; omega⟩
      · obtain ⟨R, hR⟩ : ∃ R, ((k * d : Nat) : Int).tmod 4 = R := ⟨_, rfl⟩
        have hR0 : R ≠ 0 := by
          have : ((k * d : Nat) : Int).tmod 4 = ((k * d % 4 : Nat) : Int) := rfl
          rw [← hR, this]; omega
        have hst := (notN_step d k).2 hp
        rw [← hst] at ow
        repeat' (first | with_reducible refine wo_nil ?_ | ((with_reducible refine wo_any ?_); first | ((with_reducible refine ik_move ?_); refine wo_op rfl (op_move rfl) rfl rfl ?_) | ((with_reducible refine ik_assign ?_); refine wo_op rfl (op_assign rfl) rfl rfl ?_) | ((with_reducible refine ik_bin ?_); first | refine wo_op rfl (op_mul' rfl rfl hP) rfl rfl ?_ | refine wo_op rfl (op_remV rfl rfl (by decide) hR) rfl rfl ?_ | refine wo_op rfl (op_lss rfl rfl) rfl rfl ?_ | refine wo_op rfl (op_eql rfl rfl) rfl rfl ?_ | refine wo_op rfl (op_add' rfl rfl (w64 (by omega) (by omega))) rfl rfl ?_)) | with_reducible refine sq_norm ?_ | with_reducible refine wc_seq ?_ | with_reducible refine wc_region ?_ | with_reducible refine wc_skip ?_ | with_reducible refine wc_block ?_ | with_reducible refine bq_norm ?_ | (refine wc_if rfl (fun hb => dead_A hb) (fun hb => ?_); (try simp only [decide_eq_true_eq, decide_eq_false_iff_not, Bool.not_eq_true', Bool.not_eq_false', Int.not_lt, Int.not_le, Decidable.not_not, not_true_eq_false, not_false_eq_true, beq_self_eq_true, reduceCtorEq] at hb)) | (refine wc_if rfl (fun hb => ?_) (fun hb => dead_A hb); (try simp only [decide_eq_true_eq, decide_eq_false_iff_not, Bool.not_eq_true', Bool.not_eq_false', Int.not_lt, Int.not_le, Decidable.not_not, not_true_eq_false, not_false_eq_true, beq_self_eq_true, reduceCtorEq] at hb)))
        exact lq_norm (k + 1, r) (by simp only; omega) (within_lk ⟨rfl, rfl, rfl, trivial⟩) ⟨⟨wf_A, ow⟩, by simp only; omega⟩
    · have hk4 : k = 4 := by omega
      subst hk4
      repeat' (first | with_reducible refine wo_nil ?_ | ((with_reducible refine wo_any ?_); first | ((with_reducible refine ik_move ?_); refine wo_op rfl (op_move rfl) rfl rfl ?_) | ((with_reducible refine ik_assign ?_); refine wo_op rfl (op_assign rfl) rfl rfl ?_) | ((with_reducible refine ik_bin ?_); refine wo_op rfl (op_lss rfl rfl) rfl rfl ?_)) | with_reducible refine sq_norm ?_ | with_reducible refine wc_seq ?_ | with_reducible refine wc_region ?_ | with_reducible refine wc_ret ?_ | with_reducible refine wc_exit ?_ | with_reducible refine sq_exit ?_ | with_reducible refine lq_exit ?_ | refine bq_eq rfl ?_ | refine wc_iff rfl ?_)
      have hs := ow.sl (G := G)
      have hgr := ow.grow
      obtain ⟨a2, c2, rfl⟩ := hs.form
      exact rq2 rfl rfl ⟨⟨_, _, _, rfl, .inr ⟨by first | trivial | rfl, rfl, hs⟩⟩, hgr⟩
  · refine cf_enter0 26 [.tmp 2, .tmp 3] Tryz.func34 rfl rfl rfl rfl ?_
    repeat' (first | with_reducible refine wo_nil ?_ | ((with_reducible refine wo_any ?_); first | ((with_reducible refine ik_move ?_); refine wo_op rfl (op_move rfl) rfl rfl ?_) | ((with_reducible refine ik_assign ?_); refine wo_op rfl (op_assign rfl) rfl rfl ?_) | ((with_reducible refine ik_bin ?_); refine wo_op rfl (op_neq rfl rfl) rfl rfl ?_) | ((with_reducible refine ik_callv ?_); refine wo_op rfl (op_call rfl rfl (q90 _)) rfl rfl ?_)) | with_reducible refine sq_norm ?_ | with_reducible refine wc_seq ?_ | with_reducible refine wc_region ?_ | with_reducible refine wc_ret ?_ | with_reducible refine sq_ret ?_ | (refine wc_if rfl (fun hb => ?_) (fun hb => ?_) <;> (try simp only [decide_eq_true_eq, decide_eq_false_iff_not, Bool.not_eq_true', Bool.not_eq_false', Int.not_lt, Int.not_le, Decidable.not_not, not_true_eq_false, not_false_eq_true, beq_self_eq_true, reduceCtorEq] at hb) <;> (try (exfalso; omega))))
    exact rq2 rfl rfl ⟨⟨_, _, _, rfl, .inl ⟨hz, rfl⟩⟩, gr_A⟩
end Go.Proofs.YtdfpadokepmknaaGreatDoor
