/- Contracts of functions on lists of samples: checks of lists, taps applied, lists reversed. -/
import Derived.Test.YtccdcekcbbpohaaGreatDoorC1
import Derived.Test.YtccdcekcbbpohaaGreatDoorK3
import Derived.Test.YtccdcekcbbpohaaGreatDoorK2
import Derived.Test.YtccdcekcbbpohaaGreatDoorK4
set_option linter.all false
/- Traces and lists: their checks. -/
namespace Go.Proofs.YtccdcekcbbpohaaGreatDoor
open Go Go.Ab Go.Fl
attribute [local irreducible] SeqQ BlkQ LpQ RetQ Wc Wo WD WX Op1 Op1q Op1a Cf Cl From
attribute [local irreducible] Ieee.Format.order Ieee.Format.read Ieee.Format.nearest Ieee.Format.write Ieee.Format.mul Ieee.Format.div Ieee.Datum.order Ieee.Datum.integral smpE smp smpW K J U
set_option maxRecDepth 10000
variable {G : Base} {h : H}

theorem rng_cases (x lo hi : Int) : (rngE x lo hi = 0 ∧ lo ≤ x ∧ x ≤ hi) ∨ (rngE x lo hi = 3 ∧ (x < lo ∨ hi < x)) := by
  unfold rngE
  by_cases h : x < lo ∨ hi < x
  · rw [if_pos h]; exact .inr ⟨rfl, h⟩
  · rw [if_neg h]; exact .inl ⟨rfl, by omega, by omega⟩
theorem firstNZ_zero : ∀ {l : List Int}, firstNZ l = 0 → ∀ e ∈ l, e = 0
  | [], _, _, h => by cases h
  | a :: l, h, e, he => by
    unfold firstNZ at h
    split at h
    · rcases List.mem_cons.1 he with rfl | he
      · assumption
      · exact firstNZ_zero h e he
    · contradiction
theorem lchk_ok {l : List Nat} (h : lchk l = 0) : l.length ≤ 1024 ∧ ∀ x ∈ l, smpE x = 0 := by
  unfold lchk at h
  split at h
  · exact absurd h (by decide)
  · exact ⟨by omega, fun x hx => firstNZ_zero h _ (List.mem_map_of_mem hx)⟩
theorem num_self {w : Nat} {v : Int} (h : Num Ieee.single w v) : (Ieee.single.order w w == some .eq) = true := by rw [h.feq h]; simp
theorem smpW_self {n : Int} (h : n.natAbs ≤ 16384) : (Ieee.single.order (smpW n) (smpW n) == some .eq) = true := by
  obtain ⟨_, v, hv, _⟩ := div16 h
  exact num_self hv
theorem prod_bound {x y : Int} {A C : Nat} (hx : x.natAbs ≤ A) (hy : y.natAbs ≤ C) : (x * y).natAbs ≤ A * C := by
  rw [Int.natAbs_mul]; exact Nat.mul_le_mul hx hy
theorem getD_bound {l : List Int} {A : Nat} (h : ∀ x ∈ l, x.natAbs ≤ A) (i : Nat) : (l.getD i 0).natAbs ≤ A := by
  by_cases q : i < l.length
  · have : l.getD i 0 = l[i] := by simp [List.getD, List.getElem?_eq_getElem q]
    rw [this]; exact h _ (List.getElem_mem _)
  · simp [List.getD, List.getElem?_eq_none (by omega : l.length ≤ i)]
theorem getElem_getD {l : List Int} {i : Nat} (h : i < l.length) : l[i] = l.getD i 0 := by simp [List.getD, List.getElem?_eq_getElem h]
/-- A trace's numbers, its mark, and where its samples lie. -/
structure Trc where
  hd : Nat → Int
  hole : Bool
  sa : Option Addr
  n : Nat
  c : Nat
  l : List Nat
@[reducible] def Trc.cells (t : Trc) : List Value := [.int .i64 (t.hd 0), .int .i64 (t.hd 1), .int .i64 (t.hd 2), .int .i64 (t.hd 3), .int .i64 (t.hd 4), .int .i64 (t.hd 5), .int .i64 (t.hd 6), .int .i64 (t.hd 7), .bool t.hole, .slice t.sa t.n t.c]
/-- Her samples are there, and not too many to count. -/
structure TrOk (G : Base) (h : H) (t : Trc) : Prop where
  sl : Sl G h 1 (.slice t.sa t.n t.c) t.n (t.l.map (.float .f32))
theorem TrOk.grow {h h' : H} {t : Trc} (o : TrOk G h t) (g : Grow h h') : TrOk G h' t := ⟨o.sl.grow g⟩
theorem tr_get (t : Trc) {i : Nat} (h : i < 8) : t.cells[i]? = some (.int .i64 (t.hd i)) := by
  match i, h with
  | 0, _ | 1, _ | 2, _ | 3, _ | 4, _ | 5, _ | 6, _ | 7, _ => rfl
def hlo (i : Nat) : Int := if i < 4 then -100000 else if i = 4 then 0 else -999999999
def hhi (i : Nat) : Int := if i < 4 then 100000 else if i = 4 then 100000 else 999999999
def hdE (hd : Nat → Int) (i : Nat) : Int := rngE (hd i) (hlo i) (hhi i)
def hdrE (hd : Nat → Int) : Int := firstNZ ((List.range 8).map (hdE hd))
theorem hdr_step {hd : Nat → Int} {k : Nat} (h : k < 8) (hi : firstNZ (((List.range 8).drop k).map (hdE hd)) = hdrE hd) : (hdE hd k ≠ 0 → hdrE hd = hdE hd k) ∧ (hdE hd k = 0 → firstNZ (((List.range 8).drop (k + 1)).map (hdE hd)) = hdrE hd) := by
  have e : ((List.range 8).drop k).map (hdE hd) = hdE hd k :: ((List.range 8).drop (k + 1)).map (hdE hd) := by
    rw [List.drop_eq_getElem_cons (by simpa using h)]
    simp
  rw [e, firstNZ] at hi
  exact ⟨fun q => by rw [if_neg q] at hi; exact hi.symm, fun q => by rw [if_pos q] at hi; exact hi⟩
theorem hdr_end {hd : Nat → Int} (hi : firstNZ (((List.range 8).drop 8).map (hdE hd)) = hdrE hd) : hdrE hd = 0 := by
  rw [← hi]; rfl
/-! a trace -/
def trE (t : Trc) : Int := if hdrE t.hd ≠ 0 then hdrE t.hd else if t.hole = true ∧ 0 < t.n then 24 else lchk t.l
theorem hd_tab (hG : ∀ a v, laidBase a = some v → G a = some v) (h : H) {k : Nat} (hk : k < 8) : acell G h ⟨1, k * 2, none⟩ = some (.int .i64 (hlo k)) ∧ acell G h ⟨1, k * 2 + 1, none⟩ = some (.int .i64 (hhi k)) := by
  match k, hk with
  | 0, _ | 1, _ | 2, _ | 3, _ | 4, _ | 5, _ | 6, _ | 7, _ => exact ⟨hG _ _ rfl, hG _ _ rfl⟩
set_option maxHeartbeats 4000000 in
theorem c124 {t : Trc} (o : TrOk G h t) (hn : t.n < 1000000) (hw : Wf h) (hG : ∀ a v, laidBase a = some v → G a = some v) : Cf (mz G) (.func (.func 124) #[] #[]) [.agg ⟨t.cells⟩] h fun r h' => r = .int .i64 (trE t) ∧ Grow h h' := by
  obtain ⟨hd, hole, sa, n, c, l⟩ := t
  have s := o.sl
  simp only at s hn
  refine cf_enter0 36 [.tmp 2] Tryz.func124 rfl rfl rfl rfl ?_
  repeat' (first | with_reducible refine wo_nil ?_ | ((with_reducible refine wo_any ?_); first | ((with_reducible refine ik_move ?_); refine wo_op rfl (op_move rfl) rfl rfl ?_) | ((with_reducible refine ik_assign ?_); refine wo_op rfl (op_assign rfl) rfl rfl ?_) | ((with_reducible refine ik_box ?_); refine wo_op rfl (op_boxAgg rfl zs167 rfl) rfl rfl ?_)) | with_reducible refine sq_norm ?_ | with_reducible refine wc_seq ?_ | with_reducible refine wc_region ?_ | with_reducible refine wc_block ?_)
  refine wc_loop (fun k => 8 - k) (fun k : Nat => [(1, .pointer (some ⟨h.nx, 0, some 0⟩)), (5, .int .i64 k)]) (fun k h' => (Wf h' ∧ Grow h h' ∧ At h' h.nx (.cells (Trc.cells ⟨hd, hole, sa, n, c, l⟩) 167 10 false)) ∧ k ≤ 8 ∧ firstNZ (((List.range 8).drop k).map (hdE hd)) = hdrE hd) 0 (within_lk ⟨rfl, rfl, trivial⟩) ⟨⟨wf_A, gr_A, at_A⟩, Nat.zero_le _, rfl⟩ ?_
  rintro k h' ⟨⟨hw', hgr, hat⟩, hk, hi⟩
  by_cases hlt : k < 8
  · obtain ⟨s1, s2⟩ := hdr_step hlt hi
    have hv := tr_get ⟨hd, hole, sa, n, c, l⟩ hlt
    simp only at hv
    obtain ⟨t1, t2⟩ := hd_tab hG h' hlt
    have q91 : ∀ (h : H), Cl (mz G) (.func (.func 89) #[] #[]) [.int .i64 (hd k), .int .i64 (hlo k), .int .i64 (hhi k)] h (.int .i64 (hdE hd k)) h := fun h => c89 (hd k) (hlo k) (hhi k)
    obtain ⟨E, hE⟩ : ∃ E, hdE hd k = E := ⟨_, rfl⟩
    rw [hE] at s1 s2 q91
    repeat' (first | with_reducible refine wo_nil ?_ | ((with_reducible refine wo_any ?_); first | ((with_reducible refine ik_move ?_); refine wo_op rfl (op_move rfl) rfl rfl ?_) | ((with_reducible refine ik_assign ?_); refine wo_op rfl (op_assign rfl) rfl rfl ?_) | ((with_reducible refine ik_bin ?_); first | refine wo_op rfl (op_lss rfl rfl) rfl rfl ?_ | refine wo_op rfl (op_neq rfl rfl) rfl rfl ?_ | refine wo_op rfl (op_add' rfl rfl (w64 (by omega) (by omega))) rfl rfl ?_)) | ((with_reducible refine xk_any ?_); ((with_reducible refine xk_as0 ?_); first | ((with_reducible refine xk_move ?_); refine wx_q (wt_none rfl) rfl rfl (op_q rfl (op_move rfl)) rfl rfl rfl ?_) | ((with_reducible refine xk_assign ?_); refine wx_q (wt_none rfl) rfl rfl (op_q rfl (op_assign rfl)) rfl rfl rfl ?_) | ((with_reducible refine xk_indexAddr ?_); first | refine wx_q (wt_none rfl) rfl rfl (op_q rfl (op_idxArrO (b := h.nx) (off := 0) (o := k) rfl rfl Tryz.underlying165 zs3 (by omega) (by omega) (by omega))) rfl rfl rfl ?_ | refine wx_q (wt_none rfl) rfl rfl (op_q rfl (op_idxArrO (b := 1) (off := 0) (o := k * 2) rfl rfl Tryz.underlying193 zs192 (by omega) (by omega) (by omega))) rfl rfl rfl ?_) | ((with_reducible refine xk_load ?_); first | refine wx_h0 (wt_none rfl) rfl (op_q rfl (op_ldIdx rfl at_A Tryz.underlying3 rfl hv)) rfl rfl rfl ?_ | refine wx_h0 (wt_none rfl) rfl (op_q rfl (op_ldCell rfl Tryz.underlying3 rfl t1)) rfl rfl rfl ?_ | refine wx_h0 (wt_none rfl) rfl (op_q rfl (op_ldCell rfl Tryz.underlying3 rfl t2)) rfl rfl rfl ?_) | ((with_reducible refine xk_fieldAddr ?_); first | refine wx_q (wt_none rfl) rfl rfl (op_q rfl (op_fieldAddr (o := 0) rfl Tryz.underlying167 rfl zs165 rfl)) rfl rfl rfl ?_ | refine wx_q (wt_none rfl) rfl rfl (op_q rfl (op_fieldAddr (o := 0) rfl Tryz.underlying192 rfl zs3 rfl)) rfl rfl rfl ?_ | refine wx_q (wt_none rfl) rfl rfl (op_q rfl (op_fieldAddr (o := 1) rfl Tryz.underlying192 rfl zs3 rfl)) rfl rfl rfl ?_) | ((with_reducible refine xk_callv ?_); refine wx_ee (wt_none rfl) rfl rfl (op_call rfl rfl (q91 _)) rfl rfl ?_) | with_reducible refine wx_nil0 ?_ ?_)) | with_reducible exact obl_nil | with_reducible refine obl_cons ?_ ?_ | ((with_reducible refine ik_obs ?_); first | exact obs_nil | refine obs_skip rfl ?_ | refine obs_chkn rfl rfl (op_q rfl (op_ldIdx rfl at_A Tryz.underlying3 rfl hv)) ?_ | refine obs_chkn rfl rfl (op_q rfl (op_ldCell rfl Tryz.underlying3 rfl t1)) ?_ | refine obs_chkn rfl rfl (op_q rfl (op_ldCell rfl Tryz.underlying3 rfl t2)) ?_) | with_reducible refine sq_norm ?_ | with_reducible refine wc_seq ?_ | with_reducible refine wc_region ?_ | with_reducible refine wc_skip ?_ | with_reducible refine wc_ret ?_ | with_reducible refine wc_block ?_ | with_reducible refine bq_norm ?_ | with_reducible refine bq_ret ?_ | with_reducible refine sq_ret ?_ | with_reducible refine lq_ret ?_ | (refine wc_if rfl (fun hb => ?_) (fun hb => ?_) <;> (try simp only [decide_eq_true_eq, decide_eq_false_iff_not, Bool.not_eq_true', Bool.not_eq_false', Int.not_lt, Int.not_le, Decidable.not_not, not_true_eq_false, not_false_eq_true, beq_self_eq_true, reduceCtorEq] at hb) <;> (try (exfalso; omega))) | refine wc_drawB (id := 4) 14 [0, 0, 3, 7, 0, 16, 48, 112, 0, 256, 768, 1792, 4095, 8191] [0, 1, 2, 3, 4, 5, 6, 7, 8, 9, 10, 11, 12, 13] (by kernel_rfl) (by kernel_rfl) rfl rfl ?_)
    all_goals first
      | (refine rq1 rfl ⟨?_, gr_A⟩; have q := s1 (by assumption); unfold trE; simp only [q]; rw [if_pos (by assumption)])
      | exact lq_norm (k + 1) (by omega) (within_lk ⟨rfl, rfl, trivial⟩) ⟨⟨wf_A, gr_A, at_A⟩, by omega, s2 (by assumption)⟩
  · have hk8 : k = 8 := by omega
    subst hk8
    have h0 := hdr_end hi
    have e0 : trE ⟨hd, hole, sa, n, c, l⟩ = if hole = true ∧ 0 < n then 24 else lchk l := by unfold trE; simp only [h0]; rw [if_neg (by simp)]
    rw [e0]
    clear hi h0 e0
    cases hole with
    | true =>
      by_cases h1 : 0 < n
      · rw [if_pos ⟨rfl, h1⟩]
        repeat' (first | with_reducible refine wo_nil ?_ | ((with_reducible refine wo_any ?_); first | ((with_reducible refine ik_move ?_); refine wo_op rfl (op_move rfl) rfl rfl ?_) | ((with_reducible refine ik_assign ?_); refine wo_op rfl (op_assign rfl) rfl rfl ?_) | ((with_reducible refine ik_bin ?_); refine wo_op rfl (op_lss rfl rfl) rfl rfl ?_) | ((with_reducible refine ik_fieldAddr ?_); refine wo_op rfl (op_fieldAddr (o := 8) rfl Tryz.underlying167 rfl zs4 rfl) rfl rfl ?_) | ((with_reducible refine ik_load ?_); refine wo_op rfl (op_ldAt rfl at_A Tryz.underlying4 rfl rfl) rfl rfl ?_) | ((with_reducible refine ik_pick ?_); refine wo_op rfl (op_pickt rfl rfl) rfl rfl ?_) | ((with_reducible refine ik_g ?_); first | ((with_reducible refine ig_bin ?_); refine wo_grun rfl rfl rfl (op_gtr rfl rfl) rfl rfl ?_) | ((with_reducible refine ig_fieldAddr ?_); refine wo_grun rfl rfl rfl (op_fieldAddr (o := 9) rfl Tryz.underlying167 rfl zs23 rfl) rfl rfl ?_) | ((with_reducible refine ig_load ?_); refine wo_grun rfl rfl rfl (op_ldAt rfl at_A Tryz.underlying23 rfl rfl) rfl rfl ?_) | ((with_reducible refine ig_callb ?_); refine wo_grun rfl rfl rfl (op_lenSl rfl Tryz.underlying23) rfl rfl ?_))) | with_reducible refine sq_norm ?_ | with_reducible refine wc_seq ?_ | with_reducible refine wc_region ?_ | with_reducible refine wc_ret ?_ | with_reducible refine wc_exit ?_ | with_reducible refine sq_ret ?_ | with_reducible refine sq_exit ?_ | with_reducible refine lq_exit ?_ | refine bq_eq rfl ?_ | refine wc_iff rfl ?_ | (refine wc_if rfl (fun hb => ?_) (fun hb => dead_A hb); (try simp only [decide_eq_true_eq, decide_eq_false_iff_not, Bool.not_eq_true', Bool.not_eq_false', Int.not_lt, Int.not_le, Decidable.not_not, not_true_eq_false, not_false_eq_true, beq_self_eq_true, reduceCtorEq] at hb)))
        all_goals exact rq1 rfl ⟨rfl, gr_A⟩
      · rw [if_neg (by omega)]
        repeat' (first | with_reducible refine wo_nil ?_ | ((with_reducible refine wo_any ?_); first | ((with_reducible refine ik_move ?_); refine wo_op rfl (op_move rfl) rfl rfl ?_) | ((with_reducible refine ik_assign ?_); refine wo_op rfl (op_assign rfl) rfl rfl ?_) | ((with_reducible refine ik_bin ?_); refine wo_op rfl (op_lss rfl rfl) rfl rfl ?_) | ((with_reducible refine ik_fieldAddr ?_); first | refine wo_op rfl (op_fieldAddr (o := 8) rfl Tryz.underlying167 rfl zs4 rfl) rfl rfl ?_ | refine wo_op rfl (op_fieldAddr (o := 9) rfl Tryz.underlying167 rfl zs23 rfl) rfl rfl ?_) | ((with_reducible refine ik_load ?_); first | refine wo_op rfl (op_ldAt rfl at_A Tryz.underlying4 rfl rfl) rfl rfl ?_ | refine wo_op rfl (op_ldAt rfl at_A Tryz.underlying23 rfl rfl) rfl rfl ?_) | ((with_reducible refine ik_pick ?_); refine wo_op rfl (op_pickt rfl rfl) rfl rfl ?_) | ((with_reducible refine ik_callF (f := 152) ?_); refine wo_op rfl (op_call rfl rfl (c152 (s.grow gr_A) hn)) rfl rfl ?_) | ((with_reducible refine ik_g ?_); first | ((with_reducible refine ig_bin ?_); refine wo_grun rfl rfl rfl (op_gtr rfl rfl) rfl rfl ?_) | ((with_reducible refine ig_fieldAddr ?_); refine wo_grun rfl rfl rfl (op_fieldAddr (o := 9) rfl Tryz.underlying167 rfl zs23 rfl) rfl rfl ?_) | ((with_reducible refine ig_load ?_); refine wo_grun rfl rfl rfl (op_ldAt rfl at_A Tryz.underlying23 rfl rfl) rfl rfl ?_) | ((with_reducible refine ig_callb ?_); refine wo_grun rfl rfl rfl (op_lenSl rfl Tryz.underlying23) rfl rfl ?_))) | with_reducible refine sq_norm ?_ | with_reducible refine wc_seq ?_ | with_reducible refine wc_region ?_ | with_reducible refine wc_skip ?_ | with_reducible refine wc_ret ?_ | with_reducible refine wc_exit ?_ | with_reducible refine sq_exit ?_ | with_reducible refine lq_exit ?_ | refine bq_eq rfl ?_ | refine wc_iff rfl ?_ | (refine wc_if rfl (fun hb => dead_A hb) (fun hb => ?_); (try simp only [decide_eq_true_eq, decide_eq_false_iff_not, Bool.not_eq_true', Bool.not_eq_false', Int.not_lt, Int.not_le, Decidable.not_not, not_true_eq_false, not_false_eq_true, beq_self_eq_true, reduceCtorEq] at hb)))
        all_goals exact rq1 rfl ⟨rfl, gr_A⟩
    | false =>
      rw [if_neg (by simp)]
      repeat' (first | with_reducible refine wo_nil ?_ | ((with_reducible refine wo_any ?_); first | ((with_reducible refine ik_move ?_); refine wo_op rfl (op_move rfl) rfl rfl ?_) | ((with_reducible refine ik_assign ?_); refine wo_op rfl (op_assign rfl) rfl rfl ?_) | ((with_reducible refine ik_bin ?_); refine wo_op rfl (op_lss rfl rfl) rfl rfl ?_) | ((with_reducible refine ik_fieldAddr ?_); first | refine wo_op rfl (op_fieldAddr (o := 8) rfl Tryz.underlying167 rfl zs4 rfl) rfl rfl ?_ | refine wo_op rfl (op_fieldAddr (o := 9) rfl Tryz.underlying167 rfl zs23 rfl) rfl rfl ?_) | ((with_reducible refine ik_load ?_); first | refine wo_op rfl (op_ldAt rfl at_A Tryz.underlying4 rfl rfl) rfl rfl ?_ | refine wo_op rfl (op_ldAt rfl at_A Tryz.underlying23 rfl rfl) rfl rfl ?_) | ((with_reducible refine ik_pick ?_); refine wo_op rfl (op_pickf rfl rfl) rfl rfl ?_) | ((with_reducible refine ik_callF (f := 152) ?_); refine wo_op rfl (op_call rfl rfl (c152 (s.grow gr_A) hn)) rfl rfl ?_) | ((with_reducible refine ik_g ?_); refine wo_gskip rfl rfl rfl rfl rfl rfl ?_)) | with_reducible refine sq_norm ?_ | with_reducible refine wc_seq ?_ | with_reducible refine wc_region ?_ | with_reducible refine wc_skip ?_ | with_reducible refine wc_ret ?_ | with_reducible refine wc_exit ?_ | with_reducible refine sq_exit ?_ | with_reducible refine lq_exit ?_ | refine bq_eq rfl ?_ | refine wc_iff rfl ?_)
      all_goals exact rq1 rfl ⟨rfl, gr_A⟩

theorem hdrE0 : hdrE (fun _ => 0) = 0 := by decide +kernel
theorem trE0 (sa : Option Addr) (n c : Nat) (l : List Nat) : trE ⟨fun _ => 0, false, sa, n, c, l⟩ = lchk l := by
  unfold trE
  simp only [hdrE0]
  rw [if_neg (by simp), if_neg (by simp)]
set_option maxHeartbeats 4000000 in
theorem c73 {v : Value} {n : Nat} {l : List Nat} (s : Sl G h 1 v n (l.map (.float .f32))) (hn : n < 1000000) (hw : Wf h) (hG : ∀ a v, laidBase a = some v → G a = some v) : Cf (mz G) (.func (.func 73) #[] #[]) [v] h fun r h' => r = .int .i64 (lchk l) ∧ Grow h h' := by
  obtain ⟨a, c, rfl⟩ := s.form
  have q124 := fun (h' : H) (g : Grow h h') (hw' : Wf h') => c124 (t := ⟨fun _ => 0, false, a, n, c, l⟩) ⟨s.grow g⟩ hn hw' hG
  rw [trE0] at q124
  refine cf_enter0 6 [.tmp 2] Tryz.func73 rfl rfl rfl rfl ?_
  repeat' (first | with_reducible refine wo_nil ?_ | ((with_reducible refine wo_any ?_); first | ((with_reducible refine ik_move ?_); refine wo_op rfl (op_move rfl) rfl rfl ?_) | ((with_reducible refine ik_assign ?_); refine wo_op rfl (op_assign rfl) rfl rfl ?_) | ((with_reducible refine ik_build ?_); refine wo_op rfl (op_buildT rfl zz167 zp167 rfl rfl) rfl rfl ?_) | ((with_reducible refine ik_callv ?_); (refine wo_call rfl rfl rfl rfl (q124 _ gr_A wf_A) rfl rfl ?_; rintro _ _ ⟨rfl, hq⟩; all_goals ((try (have hqn := hq.nx)); (try simp only [H.nx_push, H.nx_set, H.nx_bump] at hqn))))) | with_reducible refine sq_norm ?_ | with_reducible refine wc_seq ?_ | with_reducible refine wc_region ?_ | with_reducible refine wc_ret ?_)
  exact rq1 rfl ⟨rfl, gr_A⟩
end Go.Proofs.YtccdcekcbbpohaaGreatDoor

/- Taps applied; lists reversed; inner products. -/
namespace Go.Ab
open Go
theorem op_min {M : Mc} {l : KL} {h : H} {x y : Operand} {a b : Int} {k : IntKind} {tys : Array TypeId} (hx : val l x = some (.int k a)) (hy : val l y = some (.int k b)) : Op1 M (.call ⟨.builtin .min, #[x, y], tys⟩) l h (.int k (min a b)) h :=
  op_blt fun e he => by
    have h1 := he.val (x := x) (by simp [Op.operands, Call.operands]) hx
    have h2 := he.val (x := y) (by simp [Op.operands, Call.operands]) hy
    have hp : prun M.P (Builtin.min_ tys 0 ⟨[.int k a, .int k b]⟩) = some (.int k (min a b)) := by
      show prun M.P (Builtin.min2 (.int k a) (.int k b) >>= fun s => List.foldlM Builtin.min2 s []) = _
      by_cases hab : b < a
      · have : min a b = b := by omega
        rw [this]
        simp only [Builtin.min2, List.foldlM_nil, if_pos (show b < a from hab)]
        rfl
      · have : min a b = a := by omega
        rw [this]
        simp only [Builtin.min2, List.foldlM_nil, if_neg (show ¬ b < a from hab)]
        rfl
    simp [aop, h1, h2, gd, gnd, hp]
end Go.Ab
namespace Go.Proofs.YtccdcekcbbpohaaGreatDoor
open Go Go.Ab Go.Fl
attribute [local irreducible] SeqQ BlkQ LpQ RetQ Wc Wo WD WX Op1 Op1q Op1a Cf Cl From
attribute [local irreducible] Ieee.Format.order Ieee.Format.read Ieee.Format.nearest Ieee.Format.write Ieee.Format.mul Ieee.Format.div Ieee.Datum.order Ieee.Datum.integral smpE smp smpW K J U sumN lchk tchk firstNZ trE hdrE
set_option maxRecDepth 10000
variable {G : Base} {h : H}

theorem slI_at {h : H} {v : Value} {n : Nat} {l : List Int} (s : Sl G h 1 v n (l.map (.int .i64))) {i : Int} {q : Nat} (hq : q < n) (hi : i = (q : Int)) :
    ∃ ad, aindexAddr Tryz.prog 22 v (.int .i64 i) = some (.pointer (some ad)) ∧ acell G h ad = some (.int .i64 (l.getD q 0)) := by
  have hl := s.length
  simp at hl
  obtain ⟨ad, h1, h2⟩ := s.addr (M := mz G) Tryz.underlying22 (es := 1) zs3 (i := i) (k := .i64) (by omega) (by omega)
  refine ⟨ad, h1, h2.get 0 _ ?_⟩
  rw [show i.toNat * 1 = q by omega, ← getElem_getD (by omega)]
  simp
theorem sl_at {h : H} {v : Value} {n : Nat} {l : List Nat} (s : Sl G h 1 v n (l.map (.float .f32))) {i : Int} {q : Nat} (hq : q < n) (hi : i = (q : Int)) :
    ∃ ad, aindexAddr Tryz.prog 23 v (.int .i64 i) = some (.pointer (some ad)) ∧ acell G h ad = some (.float .f32 (l[q]'(by have := s.length; simp at this; omega))) := by
  have hl := s.length
  simp at hl
  obtain ⟨ad, h1, h2⟩ := s.addr (M := mz G) Tryz.underlying23 (es := 1) zs36 (i := i) (k := .i64) (by omega) (by omega)
  refine ⟨ad, h1, h2.get 0 _ ?_⟩
  rw [show i.toNat * 1 = q by omega]
  simp
theorem smp_bound {l : List Nat} (h : ∀ x ∈ l, smpE x = 0) : ∀ x ∈ l.map smp, x.natAbs ≤ 16384 := fun x hx => by
  obtain ⟨w, hw, rfl⟩ := List.mem_map.1 hx
  obtain ⟨_, _, _, _, _, h1, h2⟩ := smp_read (h w hw)
  omega
/-- A row of numbers, one of which is set. -/
theorem row_set {f g : Nat → Int} {n o : Nat} {u : Int} (hu : u = g o) (hne : ∀ i, i ≠ o → f i = g i) : (((List.range n).map f).map (Value.int .i64)).set o (.int .i64 u) = ((List.range n).map g).map (Value.int .i64) := by
  rw [← List.map_set]
  congr 1
  refine List.ext_getElem (by simp) fun i h1 h2 => ?_
  rw [List.getElem_set]
  split
  · rename_i q; subst q; simp [hu]
  · rename_i q; simp [hne i (fun e => q e.symm)]
theorem row_get {f : Nat → Int} {n o : Nat} (h : o < n) : (((List.range n).map f).map (Value.int .i64))[o]? = some (.int .i64 (f o)) := by
  simp [List.getElem?_map, List.getElem?_range h]
theorem row_zero {f : Nat → Int} {n : Nat} (h : ∀ i, f i = 0) : ((List.range n).map f).map (Value.int .i64) = List.replicate n (.int .i64 0) := by
  refine List.ext_getElem (by simp) fun i h1 h2 => ?_
  simp [h i]
theorem sumN_cut {f : Nat → Int} {j : Nat} : ∀ {m : Nat}, j ≤ m → (∀ k, j ≤ k → k < m → f k = 0) → sumN m f = sumN j f
  | 0, h, _ => by rw [show j = 0 by omega]
  | m + 1, h, hz => by
    by_cases q : j = m + 1
    · rw [q]
    · rw [sumN, sumN_cut (m := m) (by omega) (fun k a b => hz k a (by omega)), hz m (by omega) (by omega)]
      omega

/-! taps applied -/
def appv (t l : List Int) (n k : Nat) : Int := if k ≤ n then t.getD k 0 * l.getD (n - k) 0 else 0
def appL (t l : List Int) : List Int := (List.range l.length).map fun n => sumN t.length (appv t l n)
def appS (t l : List Int) (n j i : Nat) : Int := if i < n then sumN t.length (appv t l i) else if i = n then sumN j (appv t l n) else 0
theorem appL_len (t l : List Int) : (appL t l).length = l.length := by simp [appL]
theorem app_bound {t l : List Int} {A C : Nat} (ht : ∀ x ∈ t, x.natAbs ≤ A) (hl : ∀ x ∈ l, x.natAbs ≤ C) (n k : Nat) : (appv t l n k).natAbs ≤ A * C := by
  unfold appv
  split
  · exact prod_bound (getD_bound ht _) (getD_bound hl _)
  · simp
theorem appS_step (t l : List Int) (n j : Nat) (hj : j ≤ n) : (∀ i, i ≠ n → appS t l n j i = appS t l n (j + 1) i) ∧ appS t l n (j + 1) n = appS t l n j n + t.getD j 0 * l.getD (n - j) 0 := by
  constructor
  · intro i hi
    unfold appS
    split
    · rfl
    · simp only [if_neg hi]
  · unfold appS
    rw [if_neg (by omega), if_pos rfl, if_neg (by omega), if_pos rfl, sumN]
    congr 1
    unfold appv
    rw [if_pos hj]
theorem appS_row (t l : List Int) (n : Nat) : appS t l n (min t.length (n + 1)) = appS t l (n + 1) 0 := by
  funext i
  unfold appS
  by_cases h1 : i < n
  · rw [if_pos h1, if_pos (by omega)]
  · rw [if_neg h1]
    by_cases h2 : i = n
    · subst h2
      rw [if_pos rfl, if_pos (by omega)]
      exact (sumN_cut (by omega) fun k a b => by unfold appv; rw [if_neg (by omega)]).symm
    · rw [if_neg h2, if_neg (by omega)]
      split
      · unfold sumN; rfl
      · rfl
theorem appS_zero (t l : List Int) (i : Nat) : appS t l 0 0 i = 0 := by
  unfold appS
  rw [if_neg (by omega)]
  split
  · unfold sumN; rfl
  · rfl
theorem appS_end (t l : List Int) : (List.range l.length).map (appS t l l.length 0) = appL t l := by
  unfold appL
  refine List.map_congr_left fun i hi => ?_
  have := List.mem_range.1 hi
  unfold appS
  rw [if_pos this]
set_option maxHeartbeats 1000000 in
theorem c75 {v w : Value} {n m : Nat} {t l : List Int} (s : Sl G h 1 v m (t.map (.int .i64))) (u : Sl G h 1 w n (l.map (.int .i64))) (hn : n ≤ 1024) (hm : m ≤ 65) (ht0 : ∀ x ∈ t, x.natAbs ≤ 16) (hl0 : ∀ x ∈ l, x.natAbs ≤ 16384) (hw : Wf h) :
    Cf (mz G) (.func (.func 75) #[] #[]) [v, w] h fun r h' => (r = .slice (some ⟨h.nx, 0, some 0⟩) n n ∧ At h' h.nx (.cells ((appL t l).map (.int .i64)) 3 1 false)) ∧ Grow h h' ∧ Wf h' := by
  obtain ⟨a, c, rfl⟩ := s.form
  obtain ⟨b, d, rfl⟩ := u.form
  have ht := s.length
  have hl := u.length
  simp at hl ht
  have hB := app_bound ht0 hl0
  refine cf_enter0 44 [.tmp 4] Tryz.func75 rfl rfl rfl rfl ?_
  repeat' (first | with_reducible refine wo_nil ?_ | ((with_reducible refine wo_any ?_); first | ((with_reducible refine ik_move ?_); refine wo_op rfl (op_move rfl) rfl rfl ?_) | ((with_reducible refine ik_assign ?_); refine wo_op rfl (op_assign rfl) rfl rfl ?_) | ((with_reducible refine ik_makeSlice ?_); refine wo_op rfl (op_mkSl rfl rfl Tryz.underlying22 zs3 zb3 zz3 rfl (by omega) (by omega)) rfl rfl ?_) | ((with_reducible refine ik_callb ?_); refine wo_op rfl (op_lenSl rfl Tryz.underlying22) rfl rfl ?_)) | with_reducible refine sq_norm ?_ | with_reducible refine wc_seq ?_ | with_reducible refine wc_region ?_ | with_reducible refine wc_block ?_)
  refine wc_loop (fun i => n - i) (fun i : Nat => [(0, .slice a m c), (1, .slice b n d), (5, .slice (some ⟨h.nx, 0, some 0⟩) n n), (12, .int .i64 n), (13, .int .i64 i)])
    (fun i h' => (Wf h' ∧ Grow h h' ∧ At h' h.nx (.cells (((List.range n).map (appS t l i 0)).map (.int .i64)) 3 1 false)) ∧ i ≤ n) 0 (within_lk ⟨rfl, rfl, rfl, rfl, rfl, trivial⟩) ⟨⟨wf_A, gr_A, ?_⟩, Nat.zero_le _⟩ ?_
  · rw [row_zero (appS_zero t l)]; exact At.new h _
  rintro i h1 ⟨⟨hw1, hgr, hat⟩, hi⟩
  by_cases hlt : i < n
  · obtain ⟨M', hM1, hM2⟩ : ∃ M' : Nat, min (m : Int) ((i : Int) + 1) = (M' : Int) ∧ M' = min m (i + 1) := ⟨min m (i + 1), by omega, rfl⟩
    repeat' (first | with_reducible refine wo_nil ?_ | ((with_reducible refine wo_any ?_); first | ((with_reducible refine ik_move ?_); refine wo_op rfl (op_move rfl) rfl rfl ?_) | ((with_reducible refine ik_assign ?_); refine wo_op rfl (op_assign rfl) rfl rfl ?_) | ((with_reducible refine ik_callb ?_); first | refine wo_op rfl (op_min rfl rfl) rfl rfl ?_ | refine wo_op rfl (op_lenSl rfl Tryz.underlying22) rfl rfl ?_) | ((with_reducible refine ik_bin ?_); first | refine wo_op rfl (op_lss rfl rfl) rfl rfl ?_ | refine wo_op rfl (op_add' rfl rfl (w64 (by omega) (by omega))) rfl rfl ?_)) | with_reducible refine sq_norm ?_ | with_reducible refine wc_seq ?_ | with_reducible refine wc_region ?_ | with_reducible refine wc_skip ?_ | with_reducible refine wc_block ?_ | (refine wc_if rfl (fun hb => ?_) (fun hb => ?_) <;> (try simp only [decide_eq_true_eq, decide_eq_false_iff_not, Bool.not_eq_true', Bool.not_eq_false', Int.not_lt, Int.not_le, Decidable.not_not, not_true_eq_false, not_false_eq_true, beq_self_eq_true, reduceCtorEq] at hb) <;> (try (exfalso; omega))))
    rw [hM1]
    refine wc_loop (fun j => M' - j) (fun j : Nat => [(0, .slice a m c), (1, .slice b n d), (5, .slice (some ⟨h.nx, 0, some 0⟩) n n), (12, .int .i64 n), (13, .int .i64 i), (6, .int .i64 i), (20, .int .i64 M'), (21, .int .i64 j)])
      (fun j h' => (Wf h' ∧ Grow h h' ∧ At h' h.nx (.cells (((List.range n).map (appS t l i j)).map (.int .i64)) 3 1 false)) ∧ j ≤ M') 0 (within_lk ⟨rfl, rfl, rfl, rfl, rfl, rfl, rfl, rfl, trivial⟩) ⟨⟨wf_A, gr_A, at_A⟩, Nat.zero_le _⟩ ?_
    clear hgr hat hw1
    rintro j h2 ⟨⟨hw2, hgr, hat⟩, hj⟩
    have hl2 := hat.lt
    by_cases hjt : j < M'
    · obtain ⟨ad, i1, i3⟩ := slI_at (s.grow hgr) (i := (j : Int)) (q := j) (by omega) rfl
      obtain ⟨bd, g1, g3⟩ := slI_at (u.grow hgr) (i := (i : Int) - (j : Int)) (q := i - j) (by omega) (by omega)
      obtain ⟨st1, st2⟩ := appS_step t l i j (by omega)
      have hb1 := getD_bound ht0 j
      have hb2 := getD_bound hl0 (i - j)
      have hsb : (appS t l i j i).natAbs ≤ j * (16 * 16384) := by
        unfold appS
        rw [if_neg (by omega), if_pos rfl]
        exact sumN_bound fun k _ => hB i k
      obtain ⟨x, hx⟩ : ∃ x, t.getD j 0 = x := ⟨_, rfl⟩
      obtain ⟨y, hy⟩ : ∃ y, l.getD (i - j) 0 = y := ⟨_, rfl⟩
      obtain ⟨S, hS⟩ : ∃ S, appS t l i j i = S := ⟨_, rfl⟩
      rw [hx] at i3 st2 hb1
      rw [hy] at g3 st2 hb2
      have hv := row_get (f := appS t l i j) (n := n) (o := i) hlt
      rw [hS] at hsb st2 hv
      have hpb := prod_bound hb1 hb2
      have hset := row_set (n := n) (u := S + x * y) (o := i) st2.symm st1
      repeat' (first | with_reducible refine wo_nil ?_ | ((with_reducible refine wo_any ?_); first | ((with_reducible refine ik_move ?_); refine wo_op rfl (op_move rfl) rfl rfl ?_) | ((with_reducible refine ik_assign ?_); refine wo_op rfl (op_assign rfl) rfl rfl ?_) | ((with_reducible refine ik_bin ?_); first | refine wo_op rfl (op_lss rfl rfl) rfl rfl ?_ | refine wo_op rfl (op_add' rfl rfl (w64 (by omega) (by omega))) rfl rfl ?_)) | ((with_reducible refine xk_any ?_); ((with_reducible refine xk_as0 ?_); first | ((with_reducible refine xk_move ?_); refine wx_q (wt_none rfl) rfl rfl (op_q rfl (op_move rfl)) rfl rfl rfl ?_) | ((with_reducible refine xk_indexAddr ?_); first | refine wx_q (wt_none rfl) rfl rfl (op_q rfl (op_indexAddr rfl rfl i1)) rfl rfl rfl ?_ | refine wx_q (wt_none rfl) rfl rfl (op_q rfl (op_indexAddr rfl rfl g1)) rfl rfl rfl ?_ | refine wx_q (wt_none rfl) rfl rfl (op_q rfl (op_idxSl (o := i) rfl rfl Tryz.underlying22 zs3 (by omega) (by omega) (by omega))) rfl rfl rfl ?_) | ((with_reducible refine xk_load ?_); first | refine wx_h0 (wt_none rfl) rfl (op_q rfl (op_ldCell rfl Tryz.underlying3 rfl i3)) rfl rfl rfl ?_ | refine wx_h0 (wt_none rfl) rfl (op_q rfl (op_ldCell rfl Tryz.underlying3 rfl g3)) rfl rfl rfl ?_ | refine wx_h0 (wt_none rfl) rfl (op_q rfl (op_ldIdx rfl at_A Tryz.underlying3 rfl hv)) rfl rfl rfl ?_) | ((with_reducible refine xk_store ?_); refine wx_ee0 (wt_none rfl) rfl rfl (op_stIdx rfl rfl at_A rfl zs3 (by simp; omega) rfl hset) rfl ?_) | ((with_reducible refine xk_bin ?_); first | refine wx_q (wt_none rfl) rfl rfl (op_q rfl (op_add' rfl rfl (w64 (by omega) (by omega)))) rfl rfl rfl ?_ | refine wx_q (wt_none rfl) rfl rfl (op_q rfl (op_sub' rfl rfl (w64 (by omega) (by omega)))) rfl rfl rfl ?_ | refine wx_q (wt_none rfl) rfl rfl (op_q rfl (op_mul' rfl rfl (w64 (by omega) (by omega)))) rfl rfl rfl ?_) | with_reducible refine wx_nil0 ?_ ?_)) | with_reducible exact obl_nil | with_reducible refine obl_cons ?_ ?_ | ((with_reducible refine ik_obs ?_); first | exact obs_nil | refine obs_skip rfl ?_ | refine obs_chkn rfl rfl (op_q rfl (op_ldCell rfl Tryz.underlying3 rfl i3)) ?_ | refine obs_chkn rfl rfl (op_q rfl (op_ldCell rfl Tryz.underlying3 rfl g3)) ?_ | refine obs_chkn rfl rfl (op_q rfl (op_ldIdx rfl at_A Tryz.underlying3 rfl hv)) ?_) | with_reducible refine sq_norm ?_ | with_reducible refine wc_seq ?_ | with_reducible refine wc_region ?_ | with_reducible refine wc_skip ?_ | with_reducible refine wc_block ?_ | with_reducible refine bq_norm ?_ | (refine wc_if rfl (fun hb => ?_) (fun hb => ?_) <;> (try simp only [decide_eq_true_eq, decide_eq_false_iff_not, Bool.not_eq_true', Bool.not_eq_false', Int.not_lt, Int.not_le, Decidable.not_not, not_true_eq_false, not_false_eq_true, beq_self_eq_true, reduceCtorEq] at hb) <;> (try (exfalso; omega))) | refine wc_drawB (id := 8) 18 [0, 0, 3, 7, 0, 0, 48, 112, 0, 0, 0, 1536, 3840, 7936, 16368, 32767, 65535, 131071] [0, 1, 2, 3, 4, 5, 6, 7, 8, 9, 10, 11, 12, 13, 14, 15, 16, 17] (by kernel_rfl) (by kernel_rfl) rfl rfl ?_)
      refine lq_norm (j + 1) (by omega) (within_lk ⟨rfl, rfl, rfl, rfl, rfl, rfl, rfl, rfl, trivial⟩) ⟨⟨wf_A, gr_A, ?_⟩, by omega⟩
      exact at_A
    · have hjm : j = min t.length (i + 1) := by omega
      subst hjm
      repeat' (first | with_reducible refine wo_nil ?_ | ((with_reducible refine wo_any ?_); first | ((with_reducible refine ik_move ?_); refine wo_op rfl (op_move rfl) rfl rfl ?_) | ((with_reducible refine ik_bin ?_); first | refine wo_op rfl (op_lss rfl rfl) rfl rfl ?_ | refine wo_op rfl (op_add' rfl rfl (w64 (by omega) (by omega))) rfl rfl ?_)) | with_reducible refine sq_norm ?_ | with_reducible refine wc_seq ?_ | with_reducible refine wc_region ?_ | with_reducible refine wc_exit ?_ | with_reducible refine bq_norm ?_ | with_reducible refine sq_exit ?_ | with_reducible refine lq_exit ?_ | refine bq_eq rfl ?_ | (refine wc_if rfl (fun hb => ?_) (fun hb => ?_) <;> (try simp only [decide_eq_true_eq, decide_eq_false_iff_not, Bool.not_eq_true', Bool.not_eq_false', Int.not_lt, Int.not_le, Decidable.not_not, not_true_eq_false, not_false_eq_true, beq_self_eq_true, reduceCtorEq] at hb) <;> (try (exfalso; omega))))
      rw [appS_row] at hat
      refine lq_norm (i + 1) (by omega) (within_lk ⟨rfl, rfl, rfl, rfl, rfl, trivial⟩) ⟨⟨wf_A, gr_A, hat⟩, by omega⟩
  · have hin : i = n := by omega
    subst hin
    repeat' (first | with_reducible refine wo_nil ?_ | ((with_reducible refine wo_any ?_); first | ((with_reducible refine ik_move ?_); refine wo_op rfl (op_move rfl) rfl rfl ?_) | ((with_reducible refine ik_assign ?_); refine wo_op rfl (op_assign rfl) rfl rfl ?_) | ((with_reducible refine ik_bin ?_); refine wo_op rfl (op_lss rfl rfl) rfl rfl ?_)) | with_reducible refine sq_norm ?_ | with_reducible refine wc_seq ?_ | with_reducible refine wc_region ?_ | with_reducible refine wc_ret ?_ | with_reducible refine wc_exit ?_ | with_reducible refine sq_exit ?_ | with_reducible refine lq_exit ?_ | refine bq_eq rfl ?_ | (refine wc_if rfl (fun hb => ?_) (fun hb => ?_) <;> (try simp only [decide_eq_true_eq, decide_eq_false_iff_not, Bool.not_eq_true', Bool.not_eq_false', Int.not_lt, Int.not_le, Decidable.not_not, not_true_eq_false, not_false_eq_true, beq_self_eq_true, reduceCtorEq] at hb) <;> (try (exfalso; omega))))
    rw [← hl, appS_end] at hat
    rw [← hl]
    exact rq1 rfl ⟨⟨rfl, hat⟩, gr_A, wf_A⟩
end Go.Proofs.YtccdcekcbbpohaaGreatDoor

/- Lists reversed in place; inner products; taps applied to samples. -/
namespace Go.Proofs.YtccdcekcbbpohaaGreatDoor
open Go Go.Ab Go.Fl
attribute [local irreducible] SeqQ BlkQ LpQ RetQ Wc Wo WD WX Op1 Op1q Op1a Cf Cl From
attribute [local irreducible] Ieee.Format.order Ieee.Format.read Ieee.Format.nearest Ieee.Format.write Ieee.Format.mul Ieee.Format.div Ieee.Datum.order Ieee.Datum.integral smpE smp smpW K J U sumN lchk tchk firstNZ trE hdrE appL
set_option maxRecDepth 10000
variable {G : Base} {h : H}

/-- One block is written, all others of the old ones stay. -/
structure Mut (h : H) (b : Nat) (o : AObj) (h' : H) : Prop where
  nx : h.nx ≤ h'.nx
  get : ∀ n, n < h.nx → n ≠ b → h'.get n = h.get n
  at_ : At h' b o
  wf : Wf h → Wf h'
theorem Mut.start {h : H} {b : Nat} {o : AObj} (a : At h b o) : Mut h b o h := ⟨Nat.le_refl _, fun _ _ _ => rfl, a, id⟩
theorem Mut.grow {g h h' : H} {b : Nat} {o : AObj} (m : Mut h b o h') (x : Grow g h) (hb : g.nx ≤ b) : Grow g h' :=
  ⟨Nat.le_trans x.nx m.nx, fun n hn => by rw [m.get n (Nat.lt_of_lt_of_le hn x.nx) (by omega)]; exact x.get n hn, fun w => m.wf (x.wf w)⟩
theorem Mut.two {h h' : H} {b k : Nat} {o o1 o' : AObj} (m : Mut h b o h') : Mut h b o' (((h'.bump k).set b o1).set b o') := by
  have hl := m.at_.lt
  refine ⟨?_, fun n hn hne => ?_, ?_, fun w => ?_⟩
  · have := m.nx; simp only [H.nx_set, H.nx_bump]; omega
  · rw [H.get_set, if_neg hne, H.get_set, if_neg hne]; exact m.get n hn hne
  · exact At.lay (by simp only [H.nx_set, H.nx_bump]; omega)
  · exact Wf.set (Wf.set (Wf.bumpB (m.wf w) _) (by simp only [H.nx_bump]; omega) _) (by simp only [H.nx_set, H.nx_bump]; omega) _
theorem Mut.bump {h h' : H} {b k : Nat} {o : AObj} (m : Mut h b o h') : Mut h b o (h'.bump k) :=
  ⟨by have := m.nx; simp only [H.nx_bump]; omega, m.get, m.at_.bumpB, fun w => (m.wf w).bumpB k⟩
def revF (l : List Int) (i k : Nat) : Int := if k < i ∨ l.length - 1 - i < k then l.getD (l.length - 1 - k) 0 else l.getD k 0
theorem revF_zero (l : List Int) : (List.range l.length).map (revF l 0) = l := by
  refine List.ext_getElem (by simp) fun k h1 h2 => ?_
  simp only [List.getElem_map, List.getElem_range]
  unfold revF
  rw [if_neg (by omega), getElem_getD h2]
theorem revF_end (l : List Int) {i : Nat} (hi : i ≤ l.length) (h : l.length ≤ 2 * i + 1) : (List.range l.length).map (revF l i) = l.reverse := by
  refine List.ext_getElem (by simp) fun k h1 h2 => ?_
  simp only [List.length_reverse] at h2
  simp only [List.getElem_map, List.getElem_range, List.getElem_reverse]
  unfold revF
  split
  · rw [← getElem_getD (by omega)]
  · rw [← getElem_getD (by omega)]
    congr 1
    omega
theorem row_set' {f : Nat → Int} {n o : Nat} {u : Int} : (((List.range n).map f).map (Value.int .i64)).set o (.int .i64 u) = ((List.range n).map (fun k => if k = o then u else f k)).map (Value.int .i64) := by
  exact row_set (by simp) fun i hi => by simp [hi]
theorem rev_step (l : List Int) {i : Nat} (hi : 2 * i + 1 < l.length) : (fun k => if k = l.length - 1 - i then revF l i i else if k = i then revF l i (l.length - 1 - i) else revF l i k) = revF l (i + 1) := by
  funext k
  have e1 : revF l i i = l.getD i 0 := by unfold revF; rw [if_neg (by omega)]
  have e2 : revF l i (l.length - 1 - i) = l.getD (l.length - 1 - i) 0 := by unfold revF; rw [if_neg (by omega)]
  rw [e1, e2]
  unfold revF
  by_cases q1 : k = l.length - 1 - i
  · rw [if_pos q1, if_pos (by omega)]; congr 1; omega
  · rw [if_neg q1]
    by_cases q2 : k = i
    · rw [if_pos q2, if_pos (by omega), q2]
    · rw [if_neg q2]
      by_cases q3 : k < i ∨ l.length - 1 - i < k
      · rw [if_pos q3, if_pos (by omega)]
      · rw [if_neg q3, if_neg (by omega)]
set_option maxHeartbeats 1000000 in
theorem c77 {b n cap : Nat} {l : List Int} {sf : Bool} (hat : At h b (.cells (l.map (.int .i64)) 3 1 sf)) (hl : l.length = n) (hn : n < 1000000) (hw : Wf h) :
    Cf (mz G) (.func (.func 77) #[] #[]) [.slice (some ⟨b, 0, some 0⟩) n cap] h fun r h' => r = packed [] ∧ Mut h b (.cells (l.reverse.map (.int .i64)) 3 1 sf) h' := by
  refine cf_enter0 28 [] Tryz.func77 rfl rfl rfl rfl ?_
  repeat' (first | with_reducible refine wo_nil ?_ | ((with_reducible refine wo_any ?_); first | ((with_reducible refine ik_move ?_); refine wo_op rfl (op_move rfl) rfl rfl ?_) | ((with_reducible refine ik_assign ?_); refine wo_op rfl (op_assign rfl) rfl rfl ?_) | ((with_reducible refine ik_callb ?_); refine wo_op rfl (op_lenSl rfl Tryz.underlying22) rfl rfl ?_) | ((with_reducible refine ik_bin ?_); refine wo_op rfl (op_sub' rfl rfl (w64 (by omega) (by omega))) rfl rfl ?_)) | with_reducible refine sq_norm ?_ | with_reducible refine wc_seq ?_ | with_reducible refine wc_region ?_ | with_reducible refine wc_block ?_)
  refine wc_loop (fun p : Nat × Int => n - p.1) (fun p => [(0, .slice (some ⟨b, 0, some 0⟩) n cap), (2, .int .i64 (p.1 : Nat)), (3, .int .i64 p.2)])
    (fun p h' => Mut h b (.cells (((List.range n).map (revF l p.1)).map (.int .i64)) 3 1 sf) h' ∧ p.1 ≤ n ∧ p.2 = (n : Int) - 1 - (p.1 : Nat)) (0, (n : Int) - 1) (within_lk ⟨rfl, rfl, rfl, trivial⟩) ⟨?_, Nat.zero_le _, by simp⟩ ?_
  · simp only; rw [← hl, revF_zero]; exact Mut.start hat
  rintro ⟨i, j⟩ h1 ⟨m, hi, hj⟩
  simp only at m hi hj ⊢
  by_cases hlt : (i : Int) < j
  · have hat1 := m.at_
    have hl1 := hat1.lt
    have v1 := row_get (f := revF l i) (n := n) (o := i) (by omega)
    have v2 := row_get (f := revF l i) (n := n) (o := n - 1 - i) (by omega)
    have hs1 := row_set' (f := revF l i) (n := n) (o := i) (u := revF l i (n - 1 - i))
    have hs2 := row_set' (f := fun k => if k = i then revF l i (n - 1 - i) else revF l i k) (n := n) (o := n - 1 - i) (u := revF l i i)
    have hst := rev_step l (i := i) (by omega)
    rw [hl] at hst
    rw [hst] at hs2
    repeat' (first | with_reducible refine wo_nil ?_ | ((with_reducible refine wo_any ?_); first | ((with_reducible refine ik_move ?_); refine wo_op rfl (op_move rfl) rfl rfl ?_) | ((with_reducible refine ik_assign ?_); refine wo_op rfl (op_assign rfl) rfl rfl ?_) | ((with_reducible refine ik_bin ?_); first | refine wo_op rfl (op_sub' rfl rfl (w64 (by omega) (by omega))) rfl rfl ?_ | refine wo_op rfl (op_lss rfl rfl) rfl rfl ?_ | refine wo_op rfl (op_add' rfl rfl (w64 (by omega) (by omega))) rfl rfl ?_)) | ((with_reducible refine xk_any ?_); ((with_reducible refine xk_as0 ?_); first | ((with_reducible refine xk_move ?_); refine wx_q (wt_none rfl) rfl rfl (op_q rfl (op_move rfl)) rfl rfl rfl ?_) | ((with_reducible refine xk_indexAddr ?_); first | refine wx_q (wt_none rfl) rfl rfl (op_q rfl (op_idxSl (o := i) rfl rfl Tryz.underlying22 zs3 (by omega) (by omega) (by omega))) rfl rfl rfl ?_ | refine wx_q (wt_none rfl) rfl rfl (op_q rfl (op_idxSl (o := n - 1 - i) rfl rfl Tryz.underlying22 zs3 (by omega) (by omega) (by omega))) rfl rfl rfl ?_) | ((with_reducible refine xk_load ?_); first | refine wx_h0 (wt_none rfl) rfl (op_q rfl (op_ldIdx rfl at_A Tryz.underlying3 rfl v1)) rfl rfl rfl ?_ | refine wx_h0 (wt_none rfl) rfl (op_q rfl (op_ldIdx rfl at_A Tryz.underlying3 rfl v2)) rfl rfl rfl ?_) | ((with_reducible refine xk_store ?_); first | refine wx_ee0 (wt_none rfl) rfl rfl (op_stIdx rfl rfl at_A rfl zs3 (by simp; omega) rfl hs1) rfl ?_ | refine wx_ee0 (wt_none rfl) rfl rfl (op_stIdx rfl rfl at_A rfl zs3 (by simp; omega) rfl hs2) rfl ?_) | with_reducible refine wx_nil0 ?_ ?_)) | with_reducible exact obl_nil | with_reducible refine obl_cons ?_ ?_ | ((with_reducible refine ik_obs ?_); first | exact obs_nil | refine obs_skip rfl ?_ | refine obs_chkn rfl rfl (op_q rfl (op_ldIdx rfl at_A Tryz.underlying3 rfl v1)) ?_ | refine obs_chkn rfl rfl (op_q rfl (op_ldIdx rfl at_A Tryz.underlying3 rfl v2)) ?_) | with_reducible refine sq_norm ?_ | with_reducible refine wc_seq ?_ | with_reducible refine wc_region ?_ | with_reducible refine wc_skip ?_ | with_reducible refine wc_block ?_ | with_reducible refine bq_norm ?_ | (refine wc_if rfl (fun hb => ?_) (fun hb => ?_) <;> (try simp only [decide_eq_true_eq, decide_eq_false_iff_not, Bool.not_eq_true', Bool.not_eq_false', Int.not_lt, Int.not_le, Decidable.not_not, not_true_eq_false, not_false_eq_true, beq_self_eq_true, reduceCtorEq] at hb) <;> (try (exfalso; omega))) | refine wc_drawB (id := 3) 16 [0, 0, 0, 0, 0, 0, 48, 112, 0, 0, 768, 1792, 4083, 8179, 16383, 32767] [0, 1, 2, 3, 4, 5, 6, 7, 8, 9, 10, 11, 12, 13, 14, 15] (by kernel_rfl) (by kernel_rfl) rfl rfl ?_)
    refine lq_norm (i + 1, j - 1) (by simp only; omega) (within_lk ⟨rfl, rfl, rfl, trivial⟩) ⟨m.two, by simp only; omega, by simp only; omega⟩
  · repeat' (first | with_reducible refine wo_nil ?_ | ((with_reducible refine wo_any ?_); first | ((with_reducible refine ik_move ?_); refine wo_op rfl (op_move rfl) rfl rfl ?_) | ((with_reducible refine ik_bin ?_); refine wo_op rfl (op_lss rfl rfl) rfl rfl ?_)) | with_reducible refine sq_norm ?_ | with_reducible refine wc_seq ?_ | with_reducible refine wc_region ?_ | with_reducible refine wc_exit ?_ | with_reducible refine sq_exit ?_ | with_reducible refine lq_exit ?_ | refine bq_eq rfl ?_ | (refine wc_if rfl (fun hb => ?_) (fun hb => ?_) <;> (try simp only [decide_eq_true_eq, decide_eq_false_iff_not, Bool.not_eq_true', Bool.not_eq_false', Int.not_lt, Int.not_le, Decidable.not_not, not_true_eq_false, not_false_eq_true, beq_self_eq_true, reduceCtorEq] at hb) <;> (try (exfalso; omega))))
    rw [← hl, revF_end l (by omega) (by omega)] at m
    exact rq0n ⟨rfl, m⟩
end Go.Proofs.YtccdcekcbbpohaaGreatDoor
