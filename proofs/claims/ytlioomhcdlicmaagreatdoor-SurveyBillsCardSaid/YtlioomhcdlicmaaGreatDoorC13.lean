/- Survey: the hours of each cause both ways; divisors, ratios in lowest terms. -/
import Derived.Test.YtlioomhcdlicmaaGreatDoorC12
set_option linter.all false
/- Survey: the ticks of each cause. -/
namespace Go.Proofs.YtlioomhcdlicmaaGreatDoor
open Go Go.Ab Go.Fl
attribute [local irreducible] SeqQ BlkQ LpQ RetQ Wc Wo WD WX Op1 Op1q Op1a Cf Cl From
attribute [local irreducible] Ieee.Format.order Ieee.Format.read Ieee.Format.nearest Ieee.Format.write Ieee.Format.mul Ieee.Format.div Ieee.Format.sqrt Ieee.Datum.order Ieee.Datum.integral K U rngE errN ptE firstNZ vesE watE sgE sgsE allE hitB sqD insB qsL lvl rn rl altB
set_option maxRecDepth 10000
variable {G : Base} {h : H}

theorem cnum_lt {s : ByteArray} : ∀ (l : List ByteArray) (i : Int), cnum s l i < i + l.length ∨ cnum s l i = -1
  | [], i => .inr rfl
  | a :: l, i => by
    have e : cnum s (a :: l) i = if s = a then i else cnum s l (i + 1) := rfl
    rw [e]
    split
    · left; simp only [List.length_cons]; omega
    · rcases cnum_lt (s := s) l (i + 1) with h | h
      · left; simp only [List.length_cons]; omega
      · exact .inr h
theorem cauN_lt {s : ByteArray} : cauN s < 6 := by
  have := cnum_lt (s := s) cauW 0
  have e : cauW.length = 6 := rfl
  unfold cauN
  rw [e] at this
  omega
theorem enE_ok {e : En} (hh : enE e = 0) : (0 ≤ e.f ∧ e.f < e.t ∧ e.t ≤ 100000) ∧ 0 ≤ cauN e.c := by
  rw [enE_def] at hh
  by_cases h1 : spE ⟨e.f, e.t⟩ = 0
  · rw [if_neg (by simpa using h1)] at hh
    refine ⟨?_, ?_⟩
    · unfold spE at h1
      split at h1
      · assumption
      · cases h1
    · by_cases q : 0 ≤ cauN e.c
      · exact q
      · rw [if_neg q] at hh; cases hh
  · rw [if_pos h1] at hh; exact absurd hh h1
theorem ens_ok {l : List En} (hh : ensE l = 0) : l.length ≤ 64 ∧ ∀ e ∈ l, enE e = 0 := by
  unfold ensE at hh
  split at hh
  · cases hh
  · refine ⟨by omega, fun p hp => ?_⟩
    obtain ⟨i, hi, rfl⟩ := List.getElem_of_mem hp
    have a := errN_all hh hi
    unfold sucA at a
    rw [show l.getD i ⟨0, 0, .empty⟩ = l[i] by simp [List.getD, List.getElem?_eq_getElem hi]] at a
    by_cases q : enE l[i] = 0
    · exact q
    · rw [if_pos q] at a; exact a
def addH (H : List Int) (j : Nat) (d : Int) : List Int := H.set j (H.getD j 0 + d)
/-- The ticks of each cause in the first entries. -/
def hrK (l : List En) : Nat → List Int
  | 0 => [0, 0, 0, 0, 0, 0]
  | k + 1 => if k < l.length then addH (hrK l k) (cauN (l.getD k ⟨0, 0, .empty⟩).c).toNat ((l.getD k ⟨0, 0, .empty⟩).t - (l.getD k ⟨0, 0, .empty⟩).f) else hrK l k
theorem hrK_zero {l : List En} : hrK l 0 = [0, 0, 0, 0, 0, 0] := by rw [hrK]
theorem hrK_next {l : List En} {k : Nat} (hk : k < l.length) : hrK l (k + 1) = addH (hrK l k) (cauN (l.getD k ⟨0, 0, .empty⟩).c).toNat ((l.getD k ⟨0, 0, .empty⟩).t - (l.getD k ⟨0, 0, .empty⟩).f) := by
  rw [hrK, if_pos hk]
theorem hrK_len {l : List En} : ∀ k, (hrK l k).length = 6
  | 0 => rfl
  | k + 1 => by
    rw [hrK]
    split
    · unfold addH; rw [List.length_set]; exact hrK_len k
    · exact hrK_len k
theorem getD_set {H : List Int} {j i : Nat} {d : Int} : (H.set j d).getD i 0 = if j = i ∧ j < H.length then d else H.getD i 0 := by
  simp only [List.getD, List.getElem?_set]
  by_cases q : j = i
  · subst q
    by_cases h : j < H.length
    · simp [h]
    · simp [h, List.getElem?_eq_none (Nat.le_of_not_lt h)]
  · simp [q]
theorem hrK_bd {l : List En} (hv : ∀ e ∈ l, enE e = 0) : ∀ (k i : Nat), 0 ≤ (hrK l k).getD i 0 ∧ (hrK l k).getD i 0 ≤ k * 100000
  | 0, i => by
    match i with
    | 0 | 1 | 2 | 3 | 4 | 5 => simp [hrK]
    | i + 6 => simp [hrK, List.getD]
  | k + 1, i => by
    have ih := hrK_bd hv k
    rw [hrK]
    split
    · rename_i hk
      have hm : l.getD k ⟨0, 0, .empty⟩ ∈ l := by simp [List.getD, List.getElem?_eq_getElem hk]
      obtain ⟨⟨a, b, c⟩, _⟩ := enE_ok (hv _ hm)
      unfold addH
      rw [getD_set]
      have h1 := ih (cauN (l.getD k ⟨0, 0, .empty⟩).c).toNat
      have h2 := ih i
      split
      · omega
      · omega
    · have := ih i
      omega
theorem lk_num0 {h : H} {b j : Nat} {s : ByteArray} (at1 : At h b (.map numM)) (hj : cauN s = (j : Int)) : alookup (mz G).P h 200 (.map (some b)) (.string s) false = some (.int .i64 (j : Nat)) := by
  have zz : tzero Tryz.prog 3 = some (.int .i64 0) := zz3
  have en : numM = pairs cauW 0 := rfl
  show alookup Tryz.prog h 200 _ _ _ = _
  unfold alookup
  simp only [u200, Tryz.underlying9, zz, plainKey, plainVal, show gd (Value.int .i64 0) = true from rfl, Bool.and_self, at1.get, en]
  unfold cauN at hj
  rcases find_num s cauW 0 0 (by omega) with ⟨h1, h2⟩ | ⟨h1, i, h2⟩
  · omega
  · rw [h2, ← hj]; rfl
theorem six {H : List Int} (hl : H.length = 6) : ∃ a b c d e f, H = [a, b, c, d, e, f] := by
  match H, hl with
  | [a, b, c, d, e, f], _ => exact ⟨a, b, c, d, e, f, rfl⟩
attribute [local irreducible] spE numM cauW cnum cauN enE hrK
set_option maxHeartbeats 8000000 in
theorem c108 {v : Value} {n : Nat} {l : List En} (s : Sl G h 3 v n (l.flatMap En.cells)) (hl : l.length = n) (hn : n ≤ 64) (hv : ∀ e ∈ l, enE e = 0) (hw : Wf h) : Cf (mz G) (.func (.func 108) #[] #[]) [v] h fun r h' => r = .agg ⟨(hrK l n).map (Value.int .i64)⟩ ∧ Grow h h' := by
  have q116 := fun (h' : H) (w' : Wf h') => (c116 (G := G) (h := h') w').mono (Q' := fun r h2 => (∃ b, r = .map (some b) ∧ b < h2.nx ∧ At h2 b (.map numM)) ∧ Grow h' h2) (fun r h2 ⟨e1, e2, e3⟩ => ⟨⟨_, e1, e2.lt, e2⟩, e3⟩)
  obtain ⟨a, c, rfl⟩ := s.form
  refine cf_enter0 31 [.cell 2 22] Tryz.func108 rfl rfl rfl rfl ?_
  refine wc_mid (ι := Unit) (fun _ => [(0, .slice a n c), (2, .pointer (some ⟨h.nx, 0, some 0⟩))]) (fun _ h' => (Wf h' ∧ Grow h h') ∧ At h' h.nx (.cells [.int .i64 0, .int .i64 0, .int .i64 0, .int .i64 0, .int .i64 0, .int .i64 0] 22 6 false)) ?_ ?_
  · repeat' (first | with_reducible refine wo_nil ?_ | ((with_reducible refine wo_any ?_); ((with_reducible refine ik_alloc ?_); refine wo_op rfl (op_alloc zz22 zs22 rfl rfl rfl) rfl rfl ?_)) | with_reducible refine wc_region ?_)
    exact ⟨rfl, (), within_lk ⟨rfl, rfl, trivial⟩, ⟨wf_A, gr_A⟩, at_A⟩
  rintro _ h1 ⟨⟨w1, g1⟩, a2⟩
  refine wc_mid (ι := Nat) (fun b => [(0, .slice a n c), (2, .pointer (some ⟨h.nx, 0, some 0⟩)), (3, .map (some b))]) (fun b h' => (Wf h' ∧ Grow h1 h') ∧ At h' b (.map numM)) ?_ ?_
  · repeat' (first | with_reducible refine wo_nil ?_ | ((with_reducible refine wo_any ?_); first | ((with_reducible refine ik_assign ?_); refine wo_op rfl (op_assign rfl) rfl rfl ?_) | ((with_reducible refine ik_callv ?_); (refine wo_call rfl rfl rfl rfl (q116 _ wf_A) rfl rfl ?_; rintro _ _ ⟨⟨b, rfl, ltb, atb⟩, hq⟩; all_goals ((try (have hqn := hq.nx)); (try simp only [H.nx_push, H.nx_set, H.nx_bump] at hqn))))) | with_reducible refine wc_region ?_)
    exact ⟨rfl, b, within_lk ⟨rfl, rfl, rfl, trivial⟩, ⟨wf_A, gr_A⟩, at_A⟩
  clear w1 q116
  rintro b h2 ⟨⟨w1, g2⟩, atb⟩
  have a2 := a2.grow g2
  have g3 := g1.trans g2
  clear g1 g2
  refine wc_mid (ι := Nat) (fun e => [(0, .slice a n c), (2, .pointer (some ⟨h.nx, 0, some 0⟩)), (3, .map (some b)), (4, .pointer (some ⟨e, 0, some 0⟩))]) (fun e h' => (Wf h' ∧ Grow h2 h') ∧ h2.nx ≤ e ∧ At h' e (.cells [.int .i64 0, .int .i64 0, .int .i64 0, .int .i64 0, .int .i64 0, .int .i64 0] 22 6 false)) ?_ ?_
  · repeat' (first | with_reducible refine wo_nil ?_ | ((with_reducible refine wo_any ?_); ((with_reducible refine ik_alloc ?_); refine wo_op rfl (op_alloc zz22 zs22 rfl rfl rfl) rfl rfl ?_)) | with_reducible refine wc_region ?_)
    exact ⟨rfl, h2.nx, within_lk ⟨rfl, rfl, rfl, rfl, trivial⟩, ⟨wf_A, gr_A⟩, Nat.le_refl _, at_A⟩
  clear w1
  rintro e h4 ⟨⟨w1, g4⟩, hge, ate⟩
  have l2 := a2.lt
  have lb := atb.lt
  have n3 := g3.nx
  have n4 := g4.nx
  refine wc_mid (ι := Unit) (fun _ => [(2, .pointer (some ⟨h.nx, 0, some 0⟩)), (4, .pointer (some ⟨e, 0, some 0⟩))]) (fun _ h' => (Wf h' ∧ Grow h2 h') ∧ At h' e (.cells ((hrK l n).map (Value.int .i64)) 22 6 false)) ?_ ?_
  · refine wc_mid (ι := Unit) (fun _ => [(2, .pointer (some ⟨h.nx, 0, some 0⟩)), (3, .map (some b)), (4, .pointer (some ⟨e, 0, some 0⟩)), (8, .slice a n c), (9, .int .i64 (n : Nat)), (10, .int .i64 (0 : Nat))]) (fun _ h' => h4 = h') ?_ ?_
    · repeat' (first | with_reducible refine wo_nil ?_ | ((with_reducible refine wo_any ?_); first | ((with_reducible refine ik_move ?_); refine wo_op rfl (op_move rfl) rfl rfl ?_) | ((with_reducible refine ik_callb ?_); refine wo_op rfl (op_lenSl rfl Tryz.underlying85) rfl rfl ?_)) | with_reducible refine wc_region ?_)
      exact ⟨rfl, (), within_lk ⟨rfl, rfl, rfl, rfl, rfl, rfl, trivial⟩, rfl⟩
    rintro _ h1' e
    subst e
    refine wc_block ?_
    refine wc_loop (fun k => n - k) (fun k : Nat => [(2, .pointer (some ⟨h.nx, 0, some 0⟩)), (3, .map (some b)), (4, .pointer (some ⟨e, 0, some 0⟩)), (8, .slice a n c), (9, .int .i64 (n : Nat)), (10, .int .i64 (k : Nat))]) (fun k h' => (Wf h' ∧ Grow h2 h') ∧ k ≤ n ∧ At h' e (.cells ((hrK l k).map (Value.int .i64)) 22 6 false)) 0 (within_lk ⟨rfl, rfl, rfl, rfl, rfl, rfl, trivial⟩) ⟨⟨w1, g4⟩, Nat.zero_le _, (show At _ e (.cells ((hrK l 0).map (Value.int .i64)) 22 6 false) from by rw [hrK_zero]; exact ate)⟩ ?_
    clear w1 ate n4 g4
    rintro k h5 ⟨⟨w1, g5⟩, hk, ate⟩
    have n5 := g5.nx
    have le := ate.lt
    have atb5 := atb.grow g5
    have g6 := g3.trans g5
    by_cases hlt : k < n
    · obtain ⟨id, i1, i3⟩ := rl_at En.len ⟨0, 0, .empty⟩ (s.grow g6) hl Tryz.underlying85 zs133 (i := (k : Int)) hlt rfl
      have nx := hrK_next (l := l) (k := k) (by omega)
      have hlen := hrK_len (l := l) k
      have hbd := hrK_bd (l := l) hv k
      have hm : l.getD k ⟨0, 0, .empty⟩ ∈ l := by simp [List.getD, List.getElem?_eq_getElem (show k < l.length by omega)]
      have hev := hv _ hm
      obtain ⟨x0, hx⟩ : ∃ x, l.getD k ⟨0, 0, .empty⟩ = x := ⟨_, rfl⟩
      rw [hx] at i3 nx hev
      clear hx hm
      obtain ⟨⟨v1, v2, v3⟩, v4⟩ := enE_ok hev
      have c6 := cauN_lt (s := x0.c)
      obtain ⟨j, hj⟩ : ∃ j : Nat, cauN x0.c = (j : Int) := ⟨(cauN x0.c).toNat, by omega⟩
      rw [hj, Int.toNat_natCast] at nx
      have hj6 : j < 6 := by omega
      obtain ⟨A, hA⟩ : ∃ A, (hrK l k).getD j 0 = A := ⟨_, rfl⟩
      have hAb := hbd j
      rw [hA] at hAb
      have hget : ((hrK l k).map (Value.int .i64))[j]? = some (.int .i64 A) := by rw [← hA]; exact get_map_int (by omega)
      obtain ⟨f, t, cz⟩ := x0
      dsimp only [En.cells] at i3
      dsimp only at nx hj v1 v2 v3
      unfold addH at nx
      rw [hA] at nx
      have lkn := fun (h' : H) (at1 : At h' b (.map numM)) => lk_num0 (G := G) (s := cz) at1 hj
      have hset : (((hrK l k).map (Value.int .i64)).set j (.int .i64 (A + (t - f)))) = ((hrK l (k + 1)).map (Value.int .i64)) := by rw [nx, List.map_set]
      have hll : ((hrK l k).map (Value.int .i64)).length = 6 := by rw [List.length_map]; exact hlen
      have hj0 : ((j : Nat) : Int) = (j : Int) := rfl
      obtain ⟨C1, hC1⟩ : ∃ C, ((hrK l k).map (Value.int .i64)) = C := ⟨_, rfl⟩
      rw [hC1] at ate hget hset hll
      obtain ⟨C2, hC2⟩ : ∃ C, ((hrK l (k + 1)).map (Value.int .i64)) = C := ⟨_, rfl⟩
      rw [hC2] at hset
      clear hC1 hbd hlen nx hev hA hj
      repeat' (first | with_reducible refine wo_nil ?_ | ((with_reducible refine wo_any ?_); first | ((with_reducible refine ik_move ?_); refine wo_op rfl (op_move rfl) rfl rfl ?_) | ((with_reducible refine ik_indexAddr ?_); refine wo_op rfl (op_indexAddr rfl rfl i1) rfl rfl ?_) | ((with_reducible refine ik_load ?_); refine wo_op rfl (op_ldLn rfl Tryz.underlying133 rfl zs133 (i3 _ gr_A).all) rfl rfl ?_) | ((with_reducible refine ik_store ?_); refine wo_op0 rfl (op_stAgg rfl rfl at_A zs133 rfl rfl rfl rfl) rfl ?_) | ((with_reducible refine ik_alloc ?_); refine wo_op rfl (op_alloc zz133 zs133 rfl rfl rfl) rfl rfl ?_) | ((with_reducible refine ik_bin ?_); first | refine wo_op rfl (op_lss rfl rfl) rfl rfl ?_ | refine wo_op rfl (op_add' rfl rfl (w64 (by omega) (by omega))) rfl rfl ?_)) | ((with_reducible refine xk_any ?_); ((with_reducible refine xk_as0 ?_); first | ((with_reducible refine xk_move ?_); refine wx_q (wt_none rfl) rfl rfl (op_q rfl (op_move rfl)) rfl rfl rfl ?_) | ((with_reducible refine xk_indexAddr ?_); refine wx_q (wt_none rfl) rfl rfl (op_q rfl (op_idxArrK rfl rfl (k := j) rfl Tryz.underlying22 zs3 hj6)) rfl rfl rfl ?_) | ((with_reducible refine xk_load ?_); first | refine wx_h0 (wt_none rfl) rfl (op_q rfl (op_ldIdx (b := e) (o := j) rfl at_A Tryz.underlying3 rfl hget)) rfl rfl rfl ?_ | refine wx_h0 (wt_none rfl) rfl (op_q rfl (op_ldAt (b := h5.nx) (off := 0) rfl at_A Tryz.underlying3 rfl rfl)) rfl rfl rfl ?_ | refine wx_h0 (wt_none rfl) rfl (op_q rfl (op_ldAt (b := h5.nx) (off := 1) rfl at_A Tryz.underlying3 rfl rfl)) rfl rfl rfl ?_ | refine wx_h0 (wt_none rfl) rfl (op_q rfl (op_ldAt rfl at_A Tryz.underlying9 rfl rfl)) rfl rfl rfl ?_) | ((with_reducible refine xk_store ?_); refine wx_ee0 (wt_none rfl) rfl rfl (op_stIdx (b := e) (o := j) rfl rfl at_A rfl zs3 (by omega) rfl hset) rfl ?_) | ((with_reducible refine xk_bin ?_); first | refine wx_q (wt_none rfl) rfl rfl (op_q rfl (op_sub' rfl rfl (w64 (by omega) (by omega)))) rfl rfl rfl ?_ | refine wx_q (wt_none rfl) rfl rfl (op_q rfl (op_add' rfl rfl (w64 (by omega) (by omega)))) rfl rfl rfl ?_) | ((with_reducible refine xk_fieldAddr ?_); first | refine wx_q (wt_none rfl) rfl rfl (op_q rfl (op_fieldAddr (o := 2) rfl Tryz.underlying133 rfl zs9 rfl)) rfl rfl rfl ?_ | refine wx_q (wt_none rfl) rfl rfl (op_q rfl (op_fieldAddr (o := 0) rfl Tryz.underlying133 rfl zs79 rfl)) rfl rfl rfl ?_ | refine wx_q (wt_none rfl) rfl rfl (op_q rfl (op_fieldAddr (o := 1) rfl Tryz.underlying79 rfl zs3 rfl)) rfl rfl rfl ?_ | refine wx_q (wt_none rfl) rfl rfl (op_q rfl (op_fieldAddr (o := 0) rfl Tryz.underlying79 rfl zs3 rfl)) rfl rfl rfl ?_) | with_reducible refine wx_nil0 ?_ ?_)) | with_reducible exact obl_nil | with_reducible refine obl_cons ?_ ?_ | ((with_reducible refine ik_obs ?_); first | exact obs_nil | refine obs_skip rfl ?_ | refine obs_chkn rfl rfl (op_q rfl (op_ldIdx (b := e) (o := j) rfl at_A Tryz.underlying3 rfl hget)) ?_ | refine obs_chkn rfl rfl (op_q rfl (op_ldAt (b := h5.nx) (off := 0) rfl at_A Tryz.underlying3 rfl (by rfl))) ?_ | refine obs_chkn rfl rfl (op_q rfl (op_ldAt (b := h5.nx) (off := 1) rfl at_A Tryz.underlying3 rfl (by rfl))) ?_ | refine obs_chkn rfl rfl (op_q rfl (op_ldAt rfl at_A Tryz.underlying9 rfl (by rfl))) ?_) | with_reducible refine sq_norm ?_ | with_reducible refine wc_seq ?_ | with_reducible refine wc_region ?_ | with_reducible refine wc_skip ?_ | with_reducible refine wc_block ?_ | with_reducible refine bq_norm ?_ | (refine wc_if rfl (fun hb => ?_) (fun hb => dead_A hb); (try simp only [decide_eq_true_eq, decide_eq_false_iff_not, Bool.not_eq_true', Bool.not_eq_false', Int.not_lt, Int.not_le, Decidable.not_not, not_true_eq_false, not_false_eq_true, beq_self_eq_true, reduceCtorEq] at hb)) | refine wc_drawB (id := 6) 16 [0, 0, 2, 7, 15, 31, 0, 64, 192, 0, 512, 1536, 4032, 8191, 16383, 32767] [0, 1, 2, 3, 4, 5, 6, 7, 8, 9, 10, 11, 12, 13, 14, 15] (by kernel_rfl) (by kernel_rfl) rfl rfl ?_ | (refine wx_h0 (wt_none rfl) rfl (op_q rfl (op_lookup rfl rfl (lkn _ at_A))) rfl rfl rfl ?_) | (refine obs_chkn rfl rfl (op_q rfl (op_lookup rfl rfl (lkn _ at_A))) ?_))
      exact lq_norm (k + 1) (by omega) (within_lk ⟨rfl, rfl, rfl, rfl, rfl, rfl, trivial⟩) ⟨⟨wf_A, gr_A⟩, by omega, by rw [hC2]; exact at_A⟩
    · have hkn : k = n := by omega
      subst hkn
      repeat' (first | with_reducible refine wo_nil ?_ | ((with_reducible refine wo_any ?_); ((with_reducible refine ik_bin ?_); refine wo_op rfl (op_lss rfl rfl) rfl rfl ?_)) | with_reducible refine sq_norm ?_ | with_reducible refine wc_seq ?_ | with_reducible refine wc_region ?_ | with_reducible refine wc_exit ?_ | with_reducible refine sq_exit ?_ | with_reducible refine lq_exit ?_ | refine bq_eq rfl ?_ | (refine wc_if rfl (fun hb => dead_A hb) (fun hb => ?_); (try simp only [decide_eq_true_eq, decide_eq_false_iff_not, Bool.not_eq_true', Bool.not_eq_false', Int.not_lt, Int.not_le, Decidable.not_not, not_true_eq_false, not_false_eq_true, beq_self_eq_true, reduceCtorEq] at hb)))
      exact ⟨rfl, (), within_lk ⟨rfl, rfl, trivial⟩, ⟨w1, g5⟩, ate⟩
  clear w1 ate n4 g4
  rintro _ h5 ⟨⟨w1, g5⟩, ate⟩
  have n5 := g5.nx
  have le := ate.lt
  have a5 := a2.grow g5
  have gg := g3.trans g5
  obtain ⟨z0, z1, z2, z3, z4, z5, hz⟩ := six (hrK_len (l := l) n)
  rw [hz] at ate ⊢
  dsimp only [List.map] at ate ⊢
  have hne : e ≠ h.nx := by omega
  repeat' (first | with_reducible refine wo_nil ?_ | ((with_reducible refine wo_any ?_); first | ((with_reducible refine ik_load ?_); refine wo_op rfl (op_ldAgg (b := e) (off := 0) rfl at_A Tryz.underlying22 rfl zs22 rfl rfl) rfl rfl ?_) | ((with_reducible refine ik_store ?_); refine wo_op0 rfl (op_stAgg rfl rfl at_A zs22 rfl rfl rfl rfl) rfl ?_)) | with_reducible refine sq_norm ?_ | with_reducible refine wc_seq ?_ | with_reducible refine wc_region ?_ | with_reducible refine wc_ret ?_)
  exact rqc1 rfl (ldAgg at_A Tryz.underlying22 rfl zs22 rfl rfl) ⟨rfl, gr_A⟩
end Go.Proofs.YtlioomhcdlicmaaGreatDoor

/- Survey: the ticks of each cause, both ways. -/
namespace Go.Proofs.YtlioomhcdlicmaaGreatDoor
open Go Go.Ab Go.Fl
attribute [local irreducible] SeqQ BlkQ LpQ RetQ Wc Wo WD WX Op1 Op1q Op1a Cf Cl From
attribute [local irreducible] Ieee.Format.order Ieee.Format.read Ieee.Format.nearest Ieee.Format.write Ieee.Format.mul Ieee.Format.div Ieee.Format.sqrt Ieee.Datum.order Ieee.Datum.integral K U rngE errN ptE firstNZ vesE watE sgE sgsE allE hitB sqD insB qsL lvl rn rl altB
set_option maxRecDepth 10000
variable {G : Base} {h : H}

attribute [local irreducible] spE numM cauW cnum cauN enE hrK
set_option maxHeartbeats 8000000 in
theorem c45 {v : Value} {n : Nat} {l : List En} (s : Sl G h 3 v n (l.flatMap En.cells)) (hl : l.length = n) (hn : n ≤ 64) (hv : ∀ e ∈ l, enE e = 0) (hw : Wf h) : Cf (mz G) (.func (.func 45) #[] #[]) [v] h fun r h' => r = .agg ⟨(hrK l n).map (Value.int .i64)⟩ ∧ Grow h h' := by
  obtain ⟨a, c, rfl⟩ := s.form
  refine cf_enter0 38 [.cell 2 22] Tryz.func45 rfl rfl rfl rfl ?_
  refine wc_mid (ι := Unit) (fun _ => [(0, .slice a n c), (2, .pointer (some ⟨h.nx, 0, some 0⟩))]) (fun _ h' => (Wf h' ∧ Grow h h') ∧ h'.nx = h.nx + 1 ∧ At h' h.nx (.cells [.int .i64 0, .int .i64 0, .int .i64 0, .int .i64 0, .int .i64 0, .int .i64 0] 22 6 false)) ?_ ?_
  · repeat' (first | with_reducible refine wo_nil ?_ | ((with_reducible refine wo_any ?_); ((with_reducible refine ik_alloc ?_); refine wo_op rfl (op_alloc zz22 zs22 rfl rfl rfl) rfl rfl ?_)) | with_reducible refine wc_region ?_)
    exact ⟨rfl, (), within_lk ⟨rfl, rfl, trivial⟩, ⟨wf_A, gr_A⟩, by simp only [H.nx_push, H.nx_set, H.nx_bump], at_A⟩
  rintro _ h1 ⟨⟨w1, g1⟩, hnx, a2⟩
  refine wc_mid (ι := Unit) (fun _ => [(0, .slice a n c), (2, .pointer (some ⟨h.nx, 0, some 0⟩)), (3, .pointer (some ⟨h.nx + 1, 0, some 0⟩))]) (fun _ h' => (Wf h' ∧ Grow h1 h') ∧ At h' (h.nx + 1) (.cells [.int .i64 0, .int .i64 0, .int .i64 0, .int .i64 0, .int .i64 0, .int .i64 0] 22 6 false)) ?_ ?_
  · rw [← hnx]
    repeat' (first | with_reducible refine wo_nil ?_ | ((with_reducible refine wo_any ?_); ((with_reducible refine ik_alloc ?_); refine wo_op rfl (op_alloc zz22 zs22 rfl rfl rfl) rfl rfl ?_)) | with_reducible refine wc_region ?_)
    exact ⟨rfl, (), within_lk ⟨rfl, rfl, rfl, trivial⟩, ⟨wf_A, gr_A⟩, at_A⟩
  clear w1
  rintro _ h4 ⟨⟨w1, g4⟩, ate⟩
  have l2 := a2.lt
  refine wc_mid (ι := Unit) (fun _ => [(2, .pointer (some ⟨h.nx, 0, some 0⟩)), (3, .pointer (some ⟨h.nx + 1, 0, some 0⟩))]) (fun _ h' => (Wf h' ∧ Grow h1 h') ∧ At h' (h.nx + 1) (.cells ((hrK l n).map (Value.int .i64)) 22 6 false)) ?_ ?_
  · refine wc_mid (ι := Unit) (fun _ => [(0, .slice a n c), (2, .pointer (some ⟨h.nx, 0, some 0⟩)), (3, .pointer (some ⟨h.nx + 1, 0, some 0⟩)), (4, .int .i64 (0 : Nat))]) (fun _ h' => h4 = h') ?_ ?_
    · repeat' (first | with_reducible refine wo_nil ?_ | ((with_reducible refine wo_any ?_); ((with_reducible refine ik_assign ?_); refine wo_op rfl (op_assign rfl) rfl rfl ?_)) | with_reducible refine wc_region ?_)
      exact ⟨rfl, (), within_lk ⟨rfl, rfl, rfl, rfl, trivial⟩, rfl⟩
    rintro _ h1' e
    subst e
    refine wc_block ?_
    refine wc_loop (fun k => n - k) (fun k : Nat => [(0, .slice a n c), (2, .pointer (some ⟨h.nx, 0, some 0⟩)), (3, .pointer (some ⟨h.nx + 1, 0, some 0⟩)), (4, .int .i64 (k : Nat))]) (fun k h' => (Wf h' ∧ Grow h1 h') ∧ k ≤ n ∧ At h' (h.nx + 1) (.cells ((hrK l k).map (Value.int .i64)) 22 6 false)) 0 (within_lk ⟨rfl, rfl, rfl, rfl, trivial⟩) ⟨⟨w1, g4⟩, Nat.zero_le _, (show At _ (h.nx + 1) (.cells ((hrK l 0).map (Value.int .i64)) 22 6 false) from by rw [hrK_zero]; exact ate)⟩ ?_
    clear w1 ate g4
    rintro k h5 ⟨⟨w1, g5⟩, hk, ate⟩
    have n5 := g5.nx
    have le := ate.lt
    have g6 := g1.trans g5
    by_cases hlt : k < n
    · obtain ⟨id, i1, i3⟩ := rl_at En.len ⟨0, 0, .empty⟩ (s.grow g6) hl Tryz.underlying83 zs184 (i := (k : Int)) hlt rfl
      have nx := hrK_next (l := l) (k := k) (by omega)
      have hlen := hrK_len (l := l) k
      have hbd := hrK_bd (l := l) hv k
      have hm : l.getD k ⟨0, 0, .empty⟩ ∈ l := by simp [List.getD, List.getElem?_eq_getElem (show k < l.length by omega)]
      have hev := hv _ hm
      obtain ⟨x0, hx⟩ : ∃ x, l.getD k ⟨0, 0, .empty⟩ = x := ⟨_, rfl⟩
      rw [hx] at i3 nx hev
      clear hx hm
      obtain ⟨⟨v1, v2, v3⟩, v4⟩ := enE_ok hev
      have c6 := cauN_lt (s := x0.c)
      obtain ⟨j, hj⟩ : ∃ j : Nat, cauN x0.c = (j : Int) := ⟨(cauN x0.c).toNat, by omega⟩
      rw [hj, Int.toNat_natCast] at nx
      have hj6 : j < 6 := by omega
      obtain ⟨A, hA⟩ : ∃ A, (hrK l k).getD j 0 = A := ⟨_, rfl⟩
      have hAb := hbd j
      rw [hA] at hAb
      have hget : ((hrK l k).map (Value.int .i64))[j]? = some (.int .i64 A) := by rw [← hA]; exact get_map_int (by omega)
      obtain ⟨f, t, cz⟩ := x0
      dsimp only [En.cells] at i3
      dsimp only at nx hj v1 v2 v3
      unfold addH at nx
      rw [hA] at nx
      have hj0 : 0 ≤ cauN cz := v4
      have qn := fun (h' : H) (w' : Wf h') => c112 (G := G) (h := h') (s := cz) w'
      rw [hj] at qn
      have hset : (((hrK l k).map (Value.int .i64)).set j (.int .i64 (A + t - f))) = ((hrK l (k + 1)).map (Value.int .i64)) := by rw [nx, List.map_set, show A + t - f = A + (t - f) by omega]
      have hll : ((hrK l k).map (Value.int .i64)).length = 6 := by rw [List.length_map]; exact hlen
      have if_ := fun (h' : H) (g' : Grow h5 h') => (show acell G h' (aadd (aadd id 0) 0) = some (.int .i64 f) from (i3 h' g').get 0 _ rfl)
      have it := fun (h' : H) (g' : Grow h5 h') => (show acell G h' (aadd (aadd id 0) 1) = some (.int .i64 t) from (i3 h' g').get 1 _ rfl)
      have ic := fun (h' : H) (g' : Grow h5 h') => (show acell G h' (aadd id 2) = some (.string cz) from (i3 h' g').get 2 _ rfl)
      obtain ⟨C1, hC1⟩ : ∃ C, ((hrK l k).map (Value.int .i64)) = C := ⟨_, rfl⟩
      rw [hC1] at ate hget hset hll
      obtain ⟨C2, hC2⟩ : ∃ C, ((hrK l (k + 1)).map (Value.int .i64)) = C := ⟨_, rfl⟩
      rw [hC2] at hset
      clear hC1 hbd hlen nx hev hA hj hj0
      repeat' (first | with_reducible refine wo_nil ?_ | ((with_reducible refine wo_any ?_); first | ((with_reducible refine ik_move ?_); refine wo_op rfl (op_move rfl) rfl rfl ?_) | ((with_reducible refine ik_assign ?_); refine wo_op rfl (op_assign rfl) rfl rfl ?_) | ((with_reducible refine ik_indexAddr ?_); refine wo_op rfl (op_indexAddr rfl rfl i1) rfl rfl ?_) | ((with_reducible refine ik_load ?_); refine wo_op rfl (op_ldCell rfl Tryz.underlying9 rfl (ic _ gr_A)) rfl rfl ?_) | ((with_reducible refine ik_callb ?_); refine wo_op rfl (op_lenSl rfl Tryz.underlying83) rfl rfl ?_) | ((with_reducible refine ik_bin ?_); first | refine wo_op rfl (op_lss rfl rfl) rfl rfl ?_ | refine wo_op rfl (op_add' rfl rfl (w64 (by omega) (by omega))) rfl rfl ?_) | ((with_reducible refine ik_fieldAddr ?_); refine wo_op rfl (op_fieldAddr (o := 2) rfl Tryz.underlying184 rfl zs9 rfl) rfl rfl ?_) | ((with_reducible refine ik_callv ?_); (refine wo_call rfl rfl rfl rfl (qn _ wf_A) rfl rfl ?_; rintro _ _ ⟨rfl, hq⟩; all_goals ((try (have hqn := hq.nx)); (try simp only [H.nx_push, H.nx_set, H.nx_bump] at hqn))))) | ((with_reducible refine xk_any ?_); ((with_reducible refine xk_as0 ?_); first | ((with_reducible refine xk_move ?_); refine wx_q (wt_none rfl) rfl rfl (op_q rfl (op_move rfl)) rfl rfl rfl ?_) | ((with_reducible refine xk_indexAddr ?_); first | refine wx_q (wt_none rfl) rfl rfl (op_q rfl (op_indexAddr rfl rfl i1)) rfl rfl rfl ?_ | refine wx_q (wt_none rfl) rfl rfl (op_q rfl (op_idxArrK rfl rfl (k := j) rfl Tryz.underlying22 zs3 hj6)) rfl rfl rfl ?_) | ((with_reducible refine xk_load ?_); first | refine wx_h0 (wt_none rfl) rfl (op_q rfl (op_ldCell rfl Tryz.underlying3 rfl (it _ gr_A))) rfl rfl rfl ?_ | refine wx_h0 (wt_none rfl) rfl (op_q rfl (op_ldCell rfl Tryz.underlying3 rfl (if_ _ gr_A))) rfl rfl rfl ?_ | refine wx_h0 (wt_none rfl) rfl (op_q rfl (op_ldIdx (b := h.nx + 1) (o := j) rfl at_A Tryz.underlying3 rfl hget)) rfl rfl rfl ?_) | ((with_reducible refine xk_store ?_); refine wx_ee0 (wt_none rfl) rfl rfl (op_stIdx (b := h.nx + 1) (o := j) rfl rfl at_A rfl zs3 (by omega) rfl hset) rfl ?_) | ((with_reducible refine xk_bin ?_); first | refine wx_q (wt_none rfl) rfl rfl (op_q rfl (op_add' rfl rfl (w64 (by omega) (by omega)))) rfl rfl rfl ?_ | refine wx_q (wt_none rfl) rfl rfl (op_q rfl (op_sub' rfl rfl (w64 (by omega) (by omega)))) rfl rfl rfl ?_) | ((with_reducible refine xk_fieldAddr ?_); first | refine wx_q (wt_none rfl) rfl rfl (op_q rfl (op_fieldAddr (o := 0) rfl Tryz.underlying184 rfl zs79 rfl)) rfl rfl rfl ?_ | refine wx_q (wt_none rfl) rfl rfl (op_q rfl (op_fieldAddr (o := 1) rfl Tryz.underlying79 rfl zs3 rfl)) rfl rfl rfl ?_ | refine wx_q (wt_none rfl) rfl rfl (op_q rfl (op_fieldAddr (o := 0) rfl Tryz.underlying79 rfl zs3 rfl)) rfl rfl rfl ?_) | with_reducible refine wx_nil0 ?_ ?_)) | with_reducible exact obl_nil | with_reducible refine obl_cons ?_ ?_ | ((with_reducible refine ik_obs ?_); first | exact obs_nil | refine obs_skip rfl ?_ | refine obs_chkn rfl rfl (op_q rfl (op_ldCell rfl Tryz.underlying3 rfl (it _ gr_A))) ?_ | refine obs_chkn rfl rfl (op_q rfl (op_ldCell rfl Tryz.underlying3 rfl (if_ _ gr_A))) ?_ | refine obs_chkn rfl rfl (op_q rfl (op_ldIdx (b := h.nx + 1) (o := j) rfl at_A Tryz.underlying3 rfl hget)) ?_) | with_reducible refine sq_norm ?_ | with_reducible refine wc_seq ?_ | with_reducible refine wc_region ?_ | with_reducible refine wc_skip ?_ | with_reducible refine wc_block ?_ | with_reducible refine bq_norm ?_ | (refine wc_if rfl (fun hb => ?_) (fun hb => dead_A hb); (try simp only [decide_eq_true_eq, decide_eq_false_iff_not, Bool.not_eq_true', Bool.not_eq_false', Int.not_lt, Int.not_le, Decidable.not_not, not_true_eq_false, not_false_eq_true, beq_self_eq_true, reduceCtorEq] at hb)) | refine wc_drawB (id := 6) 20 [0, 0, 2, 6, 0, 0, 48, 112, 240, 496, 1022, 0, 0, 6144, 14336, 30720, 63488, 131070, 262143, 524287] [0, 1, 2, 3, 4, 5, 6, 7, 8, 9, 10, 11, 12, 13, 14, 15, 16, 17, 18, 19] (by kernel_rfl) (by kernel_rfl) rfl rfl ?_)
      exact lq_norm (k + 1) (by omega) (within_lk ⟨rfl, rfl, rfl, rfl, trivial⟩) ⟨⟨wf_A, gr_A⟩, by omega, by rw [hC2]; exact at_A⟩
    · have hkn : k = n := by omega
      subst hkn
      repeat' (first | with_reducible refine wo_nil ?_ | ((with_reducible refine wo_any ?_); first | ((with_reducible refine ik_move ?_); refine wo_op rfl (op_move rfl) rfl rfl ?_) | ((with_reducible refine ik_callb ?_); refine wo_op rfl (op_lenSl rfl Tryz.underlying83) rfl rfl ?_) | ((with_reducible refine ik_bin ?_); refine wo_op rfl (op_lss rfl rfl) rfl rfl ?_)) | with_reducible refine sq_norm ?_ | with_reducible refine wc_seq ?_ | with_reducible refine wc_region ?_ | with_reducible refine wc_exit ?_ | with_reducible refine sq_exit ?_ | with_reducible refine lq_exit ?_ | refine bq_eq rfl ?_ | (refine wc_if rfl (fun hb => dead_A hb) (fun hb => ?_); (try simp only [decide_eq_true_eq, decide_eq_false_iff_not, Bool.not_eq_true', Bool.not_eq_false', Int.not_lt, Int.not_le, Decidable.not_not, not_true_eq_false, not_false_eq_true, beq_self_eq_true, reduceCtorEq] at hb)))
      exact ⟨rfl, (), within_lk ⟨rfl, rfl, trivial⟩, ⟨w1, g5⟩, ate⟩
  clear w1 ate g4
  rintro _ h5 ⟨⟨w1, g5⟩, ate⟩
  have n5 := g5.nx
  have le := ate.lt
  have a5 := a2.grow g5
  have gg := g1.trans g5
  obtain ⟨z0, z1, z2, z3, z4, z5, hz⟩ := six (hrK_len (l := l) n)
  rw [hz] at ate ⊢
  dsimp only [List.map] at ate ⊢
  repeat' (first | with_reducible refine wo_nil ?_ | ((with_reducible refine wo_any ?_); first | ((with_reducible refine ik_load ?_); refine wo_op rfl (op_ldAgg (b := h.nx + 1) (off := 0) rfl at_A Tryz.underlying22 rfl zs22 rfl rfl) rfl rfl ?_) | ((with_reducible refine ik_store ?_); refine wo_op0 rfl (op_stAgg rfl rfl at_A zs22 rfl rfl rfl rfl) rfl ?_)) | with_reducible refine sq_norm ?_ | with_reducible refine wc_seq ?_ | with_reducible refine wc_region ?_ | with_reducible refine wc_ret ?_)
  exact rqc1 rfl (ldAgg at_A Tryz.underlying22 rfl zs22 rfl rfl) ⟨rfl, gr_A⟩
end Go.Proofs.YtlioomhcdlicmaaGreatDoor

/- Survey: divisors, ratios in lowest terms; the downtime. -/
namespace Go.Proofs.YtlioomhcdlicmaaGreatDoor
open Go Go.Ab Go.Fl
attribute [local irreducible] SeqQ BlkQ LpQ RetQ Wc Wo WD WX Op1 Op1q Op1a Cf Cl From
attribute [local irreducible] Ieee.Format.order Ieee.Format.read Ieee.Format.nearest Ieee.Format.write Ieee.Format.mul Ieee.Format.div Ieee.Format.sqrt Ieee.Datum.order Ieee.Datum.integral K U rngE errN ptE firstNZ vesE watE sgE sgsE allE hitB sqD insB qsL lvl rn rl altB
set_option maxRecDepth 10000
variable {G : Base} {h : H}

attribute [local irreducible] spE numM cauW cnum cauN enE hrK
/-- A ratio in lowest terms. -/
def lowN (a b : Int) : Int := a.tdiv (Int.gcd a b : Nat)
def lowD (a b : Int) : Int := b.tdiv (Int.gcd a b : Nat)
end Go.Proofs.YtlioomhcdlicmaaGreatDoor
