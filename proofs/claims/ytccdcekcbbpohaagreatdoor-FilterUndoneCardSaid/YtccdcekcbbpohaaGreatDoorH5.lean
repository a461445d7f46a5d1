/- Taps undone after they were applied, and the other way round; notches. -/
import Derived.Test.YtccdcekcbbpohaaGreatDoorH4
import Derived.Test.YtccdcekcbbpohaaGreatDoorH3
set_option linter.all false
/- Taps undone after they were applied, and the other way round. -/
namespace Go.Proofs.YtccdcekcbbpohaaGreatDoor
open Go Go.Ab Go.Fl
attribute [local irreducible] SeqQ BlkQ LpQ RetQ Wc Wo WD WX Op1 Op1q Op1a Cf Cl From
attribute [local irreducible] Ieee.Format.order Ieee.Format.read Ieee.Format.nearest Ieee.Format.write Ieee.Format.mul Ieee.Format.div Ieee.Datum.order Ieee.Datum.integral smpE smp smpW K J U sumN lchk tchk trE hdrE appL
set_option maxRecDepth 10000
variable {G : Base} {h : H}

theorem sumN_shift {f : Nat → Int} : ∀ m, sumN (m + 1) f = f 0 + sumN m (fun k => f (k + 1))
  | 0 => by rw [sumN, sumN, sumN]; omega
  | m + 1 => by rw [sumN, sumN_shift m, sumN]; omega
theorem sumN_ext {f g : Nat → Int} : ∀ {m}, (∀ k, k < m → f k = g k) → sumN m f = sumN m g
  | 0, _ => by rw [sumN, sumN]
  | m + 1, h => by rw [sumN, sumN, sumN_ext (m := m) (fun k a => h k (by omega)), h m (by omega)]
def tailV (t o : List Int) (i r : Nat) : Int := t.getD (r + 1) 0 * o.getD (i - r - 1) 0
theorem undI_sum {t o : List Int} {i : Nat} {x : Int} (hx : x.natAbs ≤ 16384) (ht : ∀ z ∈ t, z.natAbs ≤ 16) (ho : ∀ z ∈ o, z.natAbs ≤ 16384) : ∀ j, j ≤ 64 → undI t o i x j = x - sumN j (tailV t o i)
  | 0, _ => by rw [undI, sumN]; omega
  | j + 1, h => by rw [und_step hx ht ho (by omega), undI_sum hx ht ho j (by omega), sumN]; unfold tailV; omega
/-- What taps make at a place: the first tap, and the others. -/
theorem app_row {t l : List Int} (hm : 1 ≤ t.length) {i : Nat} (hi : i < l.length) : (appL t l).getD i 0 = t.getD 0 0 * l.getD i 0 + sumN (min (t.length - 1) i) (tailV t l i) := by
  have h1 : (appL t l).getD i 0 = sumN t.length (appv t l i) := by
    unfold appL
    rw [← getElem_getD (by simpa using hi)]
    simp
  obtain ⟨m, hm'⟩ : ∃ m, t.length = m + 1 := ⟨t.length - 1, by omega⟩
  rw [h1, hm', sumN_shift, Nat.add_sub_cancel]
  congr 1
  · rw [sumN_cut (j := min m i) (by omega) (fun k a b => by unfold appv; rw [if_neg (by omega)])]
    refine sumN_ext fun k hk => ?_
    unfold appv tailV
    rw [if_pos (by omega)]
    congr 2
theorem tail_take {t o l : List Int} {i j : Nat} (h : ∀ k, k < i → o.getD k 0 = l.getD k 0) (hj : j ≤ i) : sumN j (tailV t o i) = sumN j (tailV t l i) :=
  sumN_ext fun k hk => by unfold tailV; rw [h (i - k - 1) (by omega)]
theorem sq_one {T x : Int} (h : T = 1 ∨ T = -1) : T * x * T = x := by rcases h with rfl | rfl <;> omega
theorem getD_app {a : List Int} {x : Int} {k : Nat} : (a ++ [x]).getD k 0 = if k < a.length then a.getD k 0 else if k = a.length then x else 0 := by
  simp only [List.getD_eq_getElem?_getD]
  by_cases h : k < a.length
  · rw [if_pos h, List.getElem?_append_left h]
  · rw [if_neg h, List.getElem?_append_right (by omega)]
    by_cases h2 : k = a.length
    · rw [if_pos h2, h2]; simp
    · rw [if_neg h2]
      obtain ⟨r, hr⟩ : ∃ r, k - a.length = r + 1 := ⟨k - a.length - 1, by omega⟩
      rw [hr]; simp
theorem und_app_at {t l : List Int} (hm : 1 ≤ t.length) (hm2 : t.length ≤ 64) (hT : t.getD 0 0 = 1 ∨ t.getD 0 0 = -1) (ht : ∀ z ∈ t, z.natAbs ≤ 16) (hl : ∀ z ∈ l, z.natAbs ≤ 16384) (ha : ∀ z ∈ appL t l, z.natAbs ≤ 16384) : ∀ i, i ≤ l.length → undA t (appL t l) i = l.take i
  | 0, _ => by rw [undA]; simp
  | i + 1, h => by
    have ih := und_app_at hm hm2 hT ht hl ha i (by omega)
    have hx := getD_bound ha i
    have hlt : ∀ z ∈ l.take i, z.natAbs ≤ 16384 := fun z hz => hl z (List.mem_of_mem_take hz)
    have hg : ∀ k, k < i → (l.take i).getD k 0 = l.getD k 0 := fun k hk => by simp [List.getD_eq_getElem?_getD, List.getElem?_take, hk]
    have hli := getD_bound hl i
    rw [undA_next, ih, undI_sum hx ht hlt _ (by omega), app_row hm (by omega), tail_take hg (Nat.min_le_right _ _)]
    have e : t.getD 0 0 * l.getD i 0 + sumN (min (t.length - 1) i) (tailV t l i) - sumN (min (t.length - 1) i) (tailV t l i) = t.getD 0 0 * l.getD i 0 := by omega
    rw [e, sq_one hT, wr_id (by omega), ← getElem_getD (by omega), List.take_append_getElem]
theorem und_app {t l : List Int} (hm : 1 ≤ t.length) (hm2 : t.length ≤ 64) (hT : t.getD 0 0 = 1 ∨ t.getD 0 0 = -1) (ht : ∀ z ∈ t, z.natAbs ≤ 16) (hl : ∀ z ∈ l, z.natAbs ≤ 16384) (ha : ∀ z ∈ appL t l, z.natAbs ≤ 16384) : undL t (appL t l) = l := by
  unfold undL
  rw [appL_len, und_app_at hm hm2 hT ht hl ha _ (Nat.le_refl _)]; simp
theorem und_at {t l : List Int} : ∀ (n k : Nat), k < n → (undA t l n).getD k 0 = wr (undI t (undA t l k) k (l.getD k 0) (min (t.length - 1) k) * t.getD 0 0)
  | 0, _, h => by omega
  | n + 1, k, h => by
    rw [undA_next, getD_app, undA_len]
    by_cases hk : k < n
    · rw [if_pos hk, und_at n k hk]
    · have : k = n := by omega
      subst this
      rw [if_neg (by omega), if_pos rfl]
theorem und_pre {t l : List Int} (n i : Nat) (h : i ≤ n) : ∀ k, k < i → (undA t l i).getD k 0 = (undA t l n).getD k 0 := fun k hk => by
  rw [und_at i k hk, und_at n k (by omega)]
theorem app_und {t l : List Int} (hm : 1 ≤ t.length) (hm2 : t.length ≤ 64) (hT : t.getD 0 0 = 1 ∨ t.getD 0 0 = -1) (ht : ∀ z ∈ t, z.natAbs ≤ 16) (hl : ∀ z ∈ l, z.natAbs ≤ 16384) (ho : ∀ z ∈ undL t l, z.natAbs ≤ 16384) : appL t (undL t l) = l := by
  have hln : (undL t l).length = l.length := undA_len t l _
  apply List.ext_getElem
  · rw [appL_len, hln]
  · intro i h1 h2
    rw [getElem_getD h1, getElem_getD h2, app_row hm (by omega)]
    have hpre : ∀ k, k < i → (undA t l i).getD k 0 = (undL t l).getD k 0 := und_pre l.length i (by omega)
    have hoi : ∀ z ∈ undA t l i, z.natAbs ≤ 16384 := fun z hz => by
      obtain ⟨s, hs⟩ := undA_pre t l i l.length (by omega)
      exact ho z (by unfold undL; rw [hs]; exact List.mem_append_left _ hz)
    have hx := getD_bound hl i
    have hu := und_at (t := t) (l := l) l.length i h2
    have hs := und_small (i := i) hx ht hoi (min (t.length - 1) i) (by omega)
    have hUT : ∀ U : Int, (U * t.getD 0 0).natAbs = U.natAbs := fun U => by rcases hT with q | q <;> rw [q] <;> omega
    rw [wr_id (by rw [hUT]; omega), undI_sum hx ht hoi _ (by omega), tail_take hpre (Nat.min_le_right _ _)] at hu
    have hu2 : (undL t l).getD i 0 = (l.getD i 0 - sumN (min (t.length - 1) i) (tailV t (undL t l) i)) * t.getD 0 0 := hu
    rw [hu2]
    have : ∀ X : Int, t.getD 0 0 * (X * t.getD 0 0) = X := fun X => by rcases hT with q | q <;> rw [q] <;> omega
    rw [this]
    omega
/-! ghosts -/
theorem gho_at (l : List Int) (d : Nat) {i : Nat} (h : i < l.length) : (ghoL l d).getD i 0 = l.getD i 0 - (if d ≤ i then l.getD (i - d) 0 else 0) := by
  unfold ghoL
  rw [← getElem_getD (by simpa using h)]
  simp
theorem dgh_at {l : List Int} {d : Nat} (hd : 1 ≤ d) : ∀ (n k : Nat), k < n → (dghA l d n).getD k 0 = l.getD k 0 + (if d ≤ k then (dghA l d n).getD (k - d) 0 else 0)
  | 0, _, h => by omega
  | n + 1, k, h => by
    rw [dghA, getD_app, getD_app, dghA_len]
    by_cases hk : k < n
    · have ih := dgh_at (l := l) hd n k hk
      rw [if_pos hk, ih]
      by_cases q : d ≤ k
      · rw [if_pos q, if_pos q, if_pos (by omega)]
      · rw [if_neg q, if_neg q]
    · have : k = n := by omega
      subst this
      rw [if_neg (by omega), if_pos rfl]
      by_cases q : d ≤ k
      · rw [if_pos q, if_pos q, if_pos (by omega)]
      · rw [if_neg q, if_neg q]
theorem dgh_gho {l : List Int} {d : Nat} (hd : 1 ≤ d) : dghL (ghoL l d) d = l := by
  have hgl : (ghoL l d).length = l.length := by simp [ghoL]
  have key : ∀ k, k < l.length → (dghL (ghoL l d) d).getD k 0 = l.getD k 0 := by
    intro k
    induction k using Nat.strongRecOn with
    | _ k ih =>
      intro hk
      have := dgh_at (l := ghoL l d) hd (ghoL l d).length k (by omega)
      unfold dghL at ih ⊢
      rw [this, gho_at l d hk]
      by_cases q : d ≤ k
      · rw [if_pos q, if_pos q, ih (k - d) (by omega) (by omega)]; omega
      · rw [if_neg q, if_neg q]; omega
  apply List.ext_getElem
  · unfold dghL; rw [dghA_len, hgl]
  · intro i h1 h2
    rw [getElem_getD h1, getElem_getD h2]
    exact key i h2
theorem gho_dgh {l : List Int} {d : Nat} (hd : 1 ≤ d) : ghoL (dghL l d) d = l := by
  have hgl : (dghL l d).length = l.length := dghA_len l d _
  apply List.ext_getElem
  · simp [ghoL, hgl]
  · intro i h1 h2
    rw [getElem_getD h1, getElem_getD h2, gho_at _ d (by omega)]
    have := dgh_at (l := l) hd l.length i h2
    have e : (dghL l d).getD i 0 = l.getD i 0 + (if d ≤ i then (dghL l d).getD (i - d) 0 else 0) := this
    rw [e]
    omega
end Go.Proofs.YtccdcekcbbpohaaGreatDoor

/- Notches and responses of a ghost; an integer looked for. -/
namespace Go.Proofs.YtccdcekcbbpohaaGreatDoor
open Go Go.Ab Go.Fl
attribute [local irreducible] SeqQ BlkQ LpQ RetQ Wc Wo WD WX Op1 Op1q Op1a Cf Cl From
attribute [local irreducible] Ieee.Format.order Ieee.Format.read Ieee.Format.nearest Ieee.Format.write Ieee.Format.mul Ieee.Format.div Ieee.Datum.order Ieee.Datum.integral smpE smp smpW K J U sumN lchk tchk trE hdrE appL undL undA undI wr ghoL rnd mulL dghL dghA rngE tR tI rowE allE fz
set_option maxRecDepth 10000
variable {G : Base} {h : H}

theorem notN_mem (d : Nat) (x : Int) : ∀ k, x ∈ notN d k ↔ ∃ j : Nat, j < k ∧ x = (j : Int) ∧ j * d % 4 = 0
  | 0 => by simp [notN]
  | k + 1 => by
    have ih := notN_mem d x k
    obtain ⟨h1, h2⟩ := notN_step d k
    by_cases q : k * d % 4 = 0
    · rw [h1 q, List.mem_append, ih, List.mem_singleton]
      constructor
      · rintro (⟨j, a, b, c⟩ | rfl)
        · exact ⟨j, by omega, b, c⟩
        · exact ⟨k, by omega, rfl, q⟩
      · rintro ⟨j, a, b, c⟩
        by_cases e : j = k
        · subst e; exact .inr b
        · exact .inl ⟨j, by omega, b, c⟩
    · rw [h2 q, ih]
      constructor
      · rintro ⟨j, a, b, c⟩; exact ⟨j, by omega, b, c⟩
      · rintro ⟨j, a, b, c⟩
        have e : j ≠ k := fun e => q (e ▸ c)
        exact ⟨j, by omega, b, c⟩
theorem gtap_get {d k : Nat} : (gtap d).getD k 0 = if k = 0 then 1 else if k = d then -1 else 0 := by
  unfold gtap
  by_cases h : k < d + 1
  · rw [← getElem_getD (by simpa using h)]; simp
  · rw [if_neg (by omega), if_neg (by omega)]
    simp only [List.getD_eq_getElem?_getD]
    rw [List.getElem?_eq_none (by simp; omega)]; rfl
theorem res_gtap {d : Nat} (hd : 1 ≤ d) (k : Nat) : ∀ n, (1 ≤ n → n ≤ d → resR (gtap d) k n = pR 0 ∧ resI (gtap d) k n = pI 0) ∧ (n = d + 1 → resR (gtap d) k n = pR 0 - pR (3 * d * k % 4) ∧ resI (gtap d) k n = pI 0 - pI (3 * d * k % 4))
  | 0 => ⟨fun h => by omega, fun h => by omega⟩
  | n + 1 => by
    have ih := res_gtap hd k n
    constructor
    · intro _ h2
      rw [resR, resI, gtap_get]
      by_cases e : n = 0
      · subst e
        rw [if_pos rfl, resR, resI]
        simp
      · rw [if_neg e, if_neg (by omega), (ih.1 (by omega) (by omega)).1, (ih.1 (by omega) (by omega)).2]
        simp
    · intro h
      have e : n = d := by omega
      subst e
      rw [resR, resI, gtap_get, if_neg (by omega), if_pos rfl, (ih.1 hd (by omega)).1, (ih.1 hd (by omega)).2]
      omega
/-- The response of a ghost is 0 just at its notches. -/
theorem notch_iff {d k : Nat} (hd : 1 ≤ d) (hk : k < 4) : (resR (gtap d) k (d + 1) = 0 ∧ resI (gtap d) k (d + 1) = 0) ↔ ((k : Nat) : Int) ∈ notN d 4 := by
  obtain ⟨e1, e2⟩ := (res_gtap hd k (d + 1)).2 rfl
  rw [e1, e2, notN_mem]
  have h4 : 3 * d * k % 4 = 0 ∨ 3 * d * k % 4 = 1 ∨ 3 * d * k % 4 = 2 ∨ 3 * d * k % 4 = 3 := by omega
  have hm : 3 * d * k = 3 * (k * d) := by rw [Nat.mul_assoc, Nat.mul_comm d k]
  constructor
  · intro h
    refine ⟨k, hk, rfl, ?_⟩
    rcases h4 with q | q | q | q
    · rw [hm] at q; omega
    · rw [q] at h; simp [pR, pI] at h
    · rw [q] at h; simp [pR, pI] at h
    · rw [q] at h; simp [pR, pI] at h
  · rintro ⟨j, a, b, c⟩
    have : j = k := by omega
    subst this
    have q : 3 * d * j % 4 = 0 := by rw [hm]; omega
    rw [q]
    exact ⟨by omega, by omega⟩
attribute [local irreducible] pR pI resR resI gtap notN
set_option maxHeartbeats 4000000 in
theorem c61 {v : Value} {n : Nat} {l : List Int} (x : Int) (s : Sl G h 1 v n (l.map (.int .i64))) (hn : n < 1000000) (hw : Wf h) : Cf (mz G) (.func (.func 61) #[] #[]) [v, .int .i64 x] h fun r h' => r = .bool (decide (x ∈ l)) ∧ Grow h h' := by
  obtain ⟨a, c, rfl⟩ := s.form
  have hl := s.length
  simp at hl
  refine cf_enter0 18 [.tmp 4] Tryz.func61 rfl rfl rfl rfl ?_
  repeat' (first | with_reducible refine wo_nil ?_ | ((with_reducible refine wo_any ?_); ((with_reducible refine ik_assign ?_); refine wo_op rfl (op_assign rfl) rfl rfl ?_)) | with_reducible refine sq_norm ?_ | with_reducible refine wc_seq ?_ | with_reducible refine wc_region ?_ | with_reducible refine wc_block ?_)
  refine wc_loop (fun j : Nat => n - j) (fun j => [(0, .slice a n c), (1, .int .i64 x), (5, .int .i64 (j : Nat))]) (fun j h' => (Wf h' ∧ Grow h h') ∧ j ≤ n ∧ ∀ k, k < j → l.getD k 0 ≠ x) 0 (within_lk ⟨rfl, rfl, rfl, trivial⟩) ⟨⟨hw, .refl _⟩, Nat.zero_le _, fun k hk => by omega⟩ ?_
  rintro j ha ⟨⟨wa, ga⟩, hj, hno⟩
  by_cases hlt : j < n
  · obtain ⟨ad, i1, i3⟩ := slI_at (s.grow ga) (i := (j : Int)) (q := j) hlt rfl
    by_cases e : l.getD j 0 = x
    · rw [e] at i3
      repeat' (first | with_reducible refine wo_nil ?_ | ((with_reducible refine wo_any ?_); first | ((with_reducible refine ik_move ?_); refine wo_op rfl (op_move rfl) rfl rfl ?_) | ((with_reducible refine ik_assign ?_); refine wo_op rfl (op_assign rfl) rfl rfl ?_) | ((with_reducible refine ik_indexAddr ?_); refine wo_op rfl (op_indexAddr rfl rfl i1) rfl rfl ?_) | ((with_reducible refine ik_load ?_); refine wo_op rfl (op_ldCell rfl Tryz.underlying3 rfl i3) rfl rfl ?_) | ((with_reducible refine ik_callb ?_); refine wo_op rfl (op_lenSl rfl Tryz.underlying22) rfl rfl ?_) | ((with_reducible refine ik_bin ?_); first | refine wo_op rfl (op_lss rfl rfl) rfl rfl ?_ | refine wo_op rfl (op_eql rfl rfl) rfl rfl ?_)) | with_reducible refine sq_norm ?_ | with_reducible refine wc_seq ?_ | with_reducible refine wc_region ?_ | with_reducible refine wc_skip ?_ | with_reducible refine wc_ret ?_ | with_reducible refine wc_block ?_ | with_reducible refine bq_ret ?_ | with_reducible refine sq_ret ?_ | with_reducible refine lq_ret ?_ | (refine wc_if rfl (fun hb => ?_) (fun hb => dead_A hb); (try simp only [decide_eq_true_eq, decide_eq_false_iff_not, Bool.not_eq_true', Bool.not_eq_false', Int.not_lt, Int.not_le, Decidable.not_not, not_true_eq_false, not_false_eq_true, beq_self_eq_true, reduceCtorEq] at hb)) | (refine wc_if rfl (fun hb => ?_) (fun hb => (of_decide_eq_false hb rfl).elim); (try simp only [decide_eq_true_eq, decide_eq_false_iff_not, Bool.not_eq_true', Bool.not_eq_false', Int.not_lt, Int.not_le, Decidable.not_not, not_true_eq_false, not_false_eq_true, beq_self_eq_true, reduceCtorEq] at hb)))
      have hm : x ∈ l := by rw [← e, ← getElem_getD (by omega)]; exact List.getElem_mem _
      exact rq1 rfl ⟨by rw [decide_eq_true hm], gr_A⟩
    · obtain ⟨y, hy⟩ : ∃ y, l.getD j 0 = y := ⟨_, rfl⟩
      rw [hy] at i3 e
      repeat' (first | with_reducible refine wo_nil ?_ | ((with_reducible refine wo_any ?_); first | ((with_reducible refine ik_move ?_); refine wo_op rfl (op_move rfl) rfl rfl ?_) | ((with_reducible refine ik_assign ?_); refine wo_op rfl (op_assign rfl) rfl rfl ?_) | ((with_reducible refine ik_indexAddr ?_); refine wo_op rfl (op_indexAddr rfl rfl i1) rfl rfl ?_) | ((with_reducible refine ik_load ?_); refine wo_op rfl (op_ldCell rfl Tryz.underlying3 rfl i3) rfl rfl ?_) | ((with_reducible refine ik_callb ?_); refine wo_op rfl (op_lenSl rfl Tryz.underlying22) rfl rfl ?_) | ((with_reducible refine ik_bin ?_); first | refine wo_op rfl (op_lss rfl rfl) rfl rfl ?_ | refine wo_op rfl (op_eql rfl rfl) rfl rfl ?_ | refine wo_op rfl (op_add' rfl rfl (w64 (by omega) (by omega))) rfl rfl ?_)) | with_reducible refine sq_norm ?_ | with_reducible refine wc_seq ?_ | with_reducible refine wc_region ?_ | with_reducible refine wc_skip ?_ | with_reducible refine wc_block ?_ | with_reducible refine bq_norm ?_ | (refine wc_if rfl (fun hb => dead_A hb) (fun hb => ?_); (try simp only [decide_eq_true_eq, decide_eq_false_iff_not, Bool.not_eq_true', Bool.not_eq_false', Int.not_lt, Int.not_le, Decidable.not_not, not_true_eq_false, not_false_eq_true, beq_self_eq_true, reduceCtorEq] at hb)) | (refine wc_if rfl (fun hb => ?_) (fun hb => dead_A hb); (try simp only [decide_eq_true_eq, decide_eq_false_iff_not, Bool.not_eq_true', Bool.not_eq_false', Int.not_lt, Int.not_le, Decidable.not_not, not_true_eq_false, not_false_eq_true, beq_self_eq_true, reduceCtorEq] at hb)))
      exact lq_norm (j + 1) (by omega) (within_lk ⟨rfl, rfl, rfl, trivial⟩) ⟨⟨wf_A, gr_A⟩, by omega, fun k hk => by
        by_cases q : k = j
        · rw [q, hy]; exact e
        · exact hno k (by omega)⟩
  · have : j = n := by omega
    subst this
    repeat' (first | with_reducible refine wo_nil ?_ | ((with_reducible refine wo_any ?_); first | ((with_reducible refine ik_move ?_); refine wo_op rfl (op_move rfl) rfl rfl ?_) | ((with_reducible refine ik_assign ?_); refine wo_op rfl (op_assign rfl) rfl rfl ?_) | ((with_reducible refine ik_callb ?_); refine wo_op rfl (op_lenSl rfl Tryz.underlying22) rfl rfl ?_) | ((with_reducible refine ik_bin ?_); refine wo_op rfl (op_lss rfl rfl) rfl rfl ?_)) | with_reducible refine sq_norm ?_ | with_reducible refine wc_seq ?_ | with_reducible refine wc_region ?_ | with_reducible refine wc_ret ?_ | with_reducible refine wc_exit ?_ | with_reducible refine sq_exit ?_ | with_reducible refine lq_exit ?_ | refine bq_eq rfl ?_ | (refine wc_if rfl (fun hb => dead_A hb) (fun hb => ?_); (try simp only [decide_eq_true_eq, decide_eq_false_iff_not, Bool.not_eq_true', Bool.not_eq_false', Int.not_lt, Int.not_le, Decidable.not_not, not_true_eq_false, not_false_eq_true, beq_self_eq_true, reduceCtorEq] at hb)))
    have hm : x ∉ l := fun hm => by
      obtain ⟨k, hk, hk2⟩ := List.getElem_of_mem hm
      exact hno k (by omega) (by rw [← getElem_getD hk]; exact hk2)
    exact rq1 rfl ⟨by rw [decide_eq_false hm], gr_A⟩
end Go.Proofs.YtccdcekcbbpohaaGreatDoor
