/- Windows; lists without spikes. -/
import Derived.Test.YtdfpadokepmknaaGreatDoorT4
set_option linter.all false
/- Windows of three over a list, one after another. -/
namespace Go.Proofs.YtdfpadokepmknaaGreatDoor
open Go Go.Ab Go.Fl
attribute [local irreducible] SeqQ BlkQ LpQ RetQ Wc Wo WD WX Op1 Op1q Op1a Cf Cl From
attribute [local irreducible] Ieee.Format.order Ieee.Format.read Ieee.Format.nearest Ieee.Format.write Ieee.Format.mul Ieee.Format.div Ieee.Datum.order Ieee.Datum.integral smpE smp smpW K J U sumN lchk tchk trE hdrE appL undL undA undI wr ghoL rnd mulL dghL dghA rngE notN innL lowN lowD madeE pairE subL subF firstNZ gaiL gaiF medZ
set_option maxRecDepth 10000
variable {G : Base} {h : H}

@[reducible] def winF (B : Nat) : Value := .func (.func 153) #[] #[.pointer (some ⟨B, 0, some 0⟩)]
theorem wc_rangeFunc2 {M : Mc} {f : Operand} {ps : Array Tmp} {assign body : Code} {sz : Nat} {l : KL} {h : H} {Q : X → KL → H → Prop} {fv : Value} (hf : val l f = some fv)
    (w : ∀ e lp, Has sz l e → lp = AObj.loop .ready none e ps assign body → Cf M fv [.func (.yield h.nx) #[] #[]] (h.push lp) fun _ h2 => RfQ h.nx l Q h2) : Wc M none (.rangeFunc f ps assign body) sz l h Q :=
  wc_rangeFunc hf fun e he => w e _ he rfl
theorem c132 {a : Option Addr} {n c : Nat} (hw : Wf h) : Cf (mz G) (.func (.func 132) #[] #[]) [.slice a n c] h fun r h' => (r = winF h.nx ∧ At h' h.nx (.cells [.slice a n c] 22 1 false)) ∧ Grow h h' := by
  refine cf_enter0 4 [.tmp 2] Tryz.func132 rfl rfl rfl rfl ?_
  repeat' (first | with_reducible refine wo_nil ?_ | ((with_reducible refine wo_any ?_); first | ((with_reducible refine ik_assign ?_); refine wo_op rfl (op_assign rfl) rfl rfl ?_) | ((with_reducible refine ik_makeFunc ?_); refine wo_op rfl (op_makeFunc (fun _ q => by cases q) rfl rfl) rfl rfl ?_) | ((with_reducible refine ik_box ?_); refine wo_op rfl (op_box1 rfl rfl zs22) rfl rfl ?_)) | with_reducible refine sq_norm ?_ | with_reducible refine wc_seq ?_ | with_reducible refine wc_region ?_ | with_reducible refine wc_ret ?_)
  exact rq1 rfl ⟨⟨rfl, at_A⟩, gr_A⟩
set_option maxHeartbeats 4000000 in
theorem c153 {Y B : Nat} (J : Nat → H → Prop) {a : Option Addr} {n c : Nat} {l : List Int} (hn : n < 1000000)
    (hB : ∀ k g, J k g → At g B (.cells [.slice a n c] 22 1 false) ∧ Sl G g 1 (.slice a n c) n (l.map (.int .i64)) ∧ Wf g)
    (hst : ∀ k g g', J k g → Grow g g' → Wf g' → J k g')
    (hy : ∀ k g, 2 ≤ k → k < n → J k g → Cf (mz G) (.func (.yield Y) #[] #[]) [.int .i64 k, .agg ⟨[.int .i64 (l.getD k 0), .int .i64 (l.getD (k - 1) 0), .int .i64 (l.getD (k - 2) 0)]⟩] g fun v g' => v = .bool true ∧ J (k + 1) g')
    (h0 : J 2 h) : Cf (mz G) (winF B) [.func (.yield Y) #[] #[]] h fun _ g => ∃ k, (2 ≤ k ∧ (k ≤ n ∨ k = 2) ∧ n ≤ k) ∧ J k g := by
  obtain ⟨b1, b2, b3⟩ := hB 2 h h0
  refine cf_enter (sz := 29) (rs := []) (all := [.func (.yield Y) #[] #[], .pointer (some ⟨B, 0, some 0⟩)]) Tryz.func153 rfl rfl rfl rfl rfl ?_
  repeat' (first | with_reducible refine wo_nil ?_ | ((with_reducible refine wo_any ?_); ((with_reducible refine ik_assign ?_); refine wo_op rfl (op_assign rfl) rfl rfl ?_)) | with_reducible refine sq_norm ?_ | with_reducible refine wc_seq ?_ | with_reducible refine wc_region ?_ | with_reducible refine wc_block ?_)
  refine wc_loop (fun k => n - k) (fun k : Nat => [(0, .func (.yield Y) #[] #[]), (1, .pointer (some ⟨B, 0, some 0⟩)), (3, .int .i64 k)]) (fun k g => (2 ≤ k ∧ (k ≤ n ∨ k = 2)) ∧ J k g) 2 (within_lk ⟨rfl, rfl, rfl, trivial⟩) ⟨⟨Nat.le_refl _, .inr rfl⟩, h0⟩ ?_
  clear b1 b2 b3
  rintro k g ⟨⟨hk1, hk2⟩, hJ⟩
  obtain ⟨b1, b2, b3⟩ := hB k g hJ
  by_cases hlt : k < n
  · obtain ⟨d1, i1, i3⟩ := slI_at b2 (i := (k : Int)) (q := k) hlt rfl
    obtain ⟨d2, j1, j3⟩ := slI_at b2 (i := (k : Int) - 1) (q := k - 1) (by omega) (by omega)
    obtain ⟨d3, k1, k3⟩ := slI_at b2 (i := (k : Int) - 2) (q := k - 2) (by omega) (by omega)
    have hyk := fun g' (gr : Grow g g') (w : Wf g') => hy k g' hk1 hlt (hst k g g' hJ gr w)
    obtain ⟨x0, hx0⟩ : ∃ x, l.getD k 0 = x := ⟨_, rfl⟩
    obtain ⟨x1, hx1⟩ : ∃ x, l.getD (k - 1) 0 = x := ⟨_, rfl⟩
    obtain ⟨x2, hx2⟩ : ∃ x, l.getD (k - 2) 0 = x := ⟨_, rfl⟩
    rw [hx0] at i3 hyk
    rw [hx1] at j3 hyk
    rw [hx2] at k3 hyk
    repeat' (first | with_reducible refine wo_nil ?_ | ((with_reducible refine wo_any ?_); first | ((with_reducible refine ik_move ?_); refine wo_op rfl (op_move rfl) rfl rfl ?_) | ((with_reducible refine ik_assign ?_); refine wo_op rfl (op_assign rfl) rfl rfl ?_) | ((with_reducible refine ik_load ?_); refine wo_op rfl (op_ldAt rfl at_A Tryz.underlying22 rfl rfl) rfl rfl ?_) | ((with_reducible refine ik_callb ?_); refine wo_op rfl (op_lenSl rfl Tryz.underlying22) rfl rfl ?_) | ((with_reducible refine ik_bin ?_); first | refine wo_op rfl (op_lss rfl rfl) rfl rfl ?_ | refine wo_op rfl (op_add' rfl rfl (w64 (by omega) (by omega))) rfl rfl ?_)) | ((with_reducible refine xk_any ?_); ((with_reducible refine xk_as0 ?_); first | ((with_reducible refine xk_move ?_); refine wx_q (wt_none rfl) rfl rfl (op_q rfl (op_move rfl)) rfl rfl rfl ?_) | ((with_reducible refine xk_indexAddr ?_); first | refine wx_q (wt_none rfl) rfl rfl (op_q rfl (op_indexAddr rfl rfl i1)) rfl rfl rfl ?_ | refine wx_q (wt_none rfl) rfl rfl (op_q rfl (op_indexAddr rfl rfl j1)) rfl rfl rfl ?_ | refine wx_q (wt_none rfl) rfl rfl (op_q rfl (op_indexAddr rfl rfl k1)) rfl rfl rfl ?_) | ((with_reducible refine xk_load ?_); first | refine wx_h0 (wt_none rfl) rfl (op_q rfl (op_ldCell rfl Tryz.underlying3 rfl i3)) rfl rfl rfl ?_ | refine wx_h0 (wt_none rfl) rfl (op_q rfl (op_ldCell rfl Tryz.underlying3 rfl j3)) rfl rfl rfl ?_ | refine wx_h0 (wt_none rfl) rfl (op_q rfl (op_ldCell rfl Tryz.underlying3 rfl k3)) rfl rfl rfl ?_ | refine wx_h0 (wt_none rfl) rfl (op_q rfl (op_ldAt rfl at_A Tryz.underlying22 rfl rfl)) rfl rfl rfl ?_) | ((with_reducible refine xk_bin ?_); refine wx_q (wt_none rfl) rfl rfl (op_q rfl (op_sub' rfl rfl (w64 (by omega) (by omega)))) rfl rfl rfl ?_) | ((with_reducible refine xk_build ?_); refine wx_q (wt_none rfl) rfl rfl (op_q rfl (op_buildT rfl zz80 zp80 rfl rfl)) rfl rfl rfl ?_) | ((with_reducible refine xk_un ?_); refine wx_q (wt_none rfl) rfl rfl (op_q rfl (op_not rfl)) rfl rfl rfl ?_) | ((with_reducible refine xk_callv ?_); (refine wx_call0 (wt_none rfl) rfl rfl rfl rfl ((hyk _ gr_A wf_A)) rfl rfl ?_; rintro _ _ ⟨rfl, hq⟩; all_goals ((try (have hqn := hq.nx)); (try simp only [H.nx_push, H.nx_set, H.nx_bump] at hqn)))) | with_reducible refine wx_nil0 ?_ ?_)) | with_reducible exact obl_nil | with_reducible refine obl_cons ?_ ?_ | ((with_reducible refine ik_obs ?_); first | exact obs_nil | refine obs_skip rfl ?_ | refine obs_chkn rfl rfl (op_q rfl (op_ldCell rfl Tryz.underlying3 rfl i3)) ?_ | refine obs_chkn rfl rfl (op_q rfl (op_ldCell rfl Tryz.underlying3 rfl j3)) ?_ | refine obs_chkn rfl rfl (op_q rfl (op_ldCell rfl Tryz.underlying3 rfl k3)) ?_ | refine obs_chkn rfl rfl (op_q rfl (op_ldAt rfl at_A Tryz.underlying22 rfl (by rfl))) ?_) | with_reducible refine sq_norm ?_ | with_reducible refine wc_seq ?_ | with_reducible refine wc_region ?_ | with_reducible refine wc_skip ?_ | with_reducible refine wc_block ?_ | with_reducible refine bq_norm ?_ | refine wc_iff rfl ?_ | (refine wc_if rfl (fun hb => ?_) (fun hb => ?_) <;> (try simp only [decide_eq_true_eq, decide_eq_false_iff_not, Bool.not_eq_true', Bool.not_eq_false', Int.not_lt, Int.not_le, Decidable.not_not, not_true_eq_false, not_false_eq_true, beq_self_eq_true, reduceCtorEq] at hb) <;> (try (exfalso; omega))) | refine wc_drawB (id := 3) 19 [0, 0, 0, 0, 12, 28, 0, 0, 128, 448, 960, 0, 0, 4096, 14336, 30720, 65532, 131071, 262143] [0, 1, 2, 3, 4, 5, 6, 7, 8, 9, 10, 11, 12, 13, 14, 15, 16, 17, 18] (by kernel_rfl) (by kernel_rfl) rfl rfl ?_)
    all_goals exact lq_norm (k + 1) (by omega) (within_lk ⟨rfl, rfl, rfl, trivial⟩) ⟨⟨by omega, .inl (by omega)⟩, hq⟩
  · repeat' (first | with_reducible refine wo_nil ?_ | ((with_reducible refine wo_any ?_); first | ((with_reducible refine ik_move ?_); refine wo_op rfl (op_move rfl) rfl rfl ?_) | ((with_reducible refine ik_load ?_); refine wo_op rfl (op_ldAt rfl at_A Tryz.underlying22 rfl rfl) rfl rfl ?_) | ((with_reducible refine ik_callb ?_); refine wo_op rfl (op_lenSl rfl Tryz.underlying22) rfl rfl ?_) | ((with_reducible refine ik_bin ?_); refine wo_op rfl (op_lss rfl rfl) rfl rfl ?_)) | with_reducible refine sq_norm ?_ | with_reducible refine wc_seq ?_ | with_reducible refine wc_region ?_ | with_reducible refine wc_exit ?_ | with_reducible refine sq_exit ?_ | with_reducible refine lq_exit ?_ | refine bq_eq rfl ?_ | (refine wc_if rfl (fun hb => ?_) (fun hb => ?_) <;> (try simp only [decide_eq_true_eq, decide_eq_false_iff_not, Bool.not_eq_true', Bool.not_eq_false', Int.not_lt, Int.not_le, Decidable.not_not, not_true_eq_false, not_false_eq_true, beq_self_eq_true, reduceCtorEq] at hb) <;> (try (exfalso; omega))))
    exact rq0n ⟨k, ⟨hk1, hk2, by omega⟩, hJ⟩
end Go.Proofs.YtdfpadokepmknaaGreatDoor

/- Lists without spikes by the program. -/
namespace Go.Proofs.YtdfpadokepmknaaGreatDoor
open Go Go.Ab Go.Fl
attribute [local irreducible] SeqQ BlkQ LpQ RetQ Wc Wo WD WX Op1 Op1q Op1a Cf Cl From
attribute [local irreducible] Ieee.Format.order Ieee.Format.read Ieee.Format.nearest Ieee.Format.write Ieee.Format.mul Ieee.Format.div Ieee.Datum.order Ieee.Datum.integral smpE smp smpW K J U sumN lchk tchk trE hdrE appL undL undA undI wr ghoL rnd mulL dghL dghA rngE notN innL lowN lowD madeE pairE subL subF firstNZ gaiL gaiF medZ
set_option maxRecDepth 10000
variable {G : Base} {h : H}

theorem med_sym (a b c : Int) : medZ a b c = medZ c b a := by unfold medZ; omega
def rowS (l : List Int) (lim : Int) (k : Nat) : List Int := (List.range l.length).map fun i => if i + 1 < k then spkF l lim i else l.getD i 0
theorem rowS_two (l : List Int) (lim : Int) : rowS l lim 2 = l := by
  conv => rhs; rw [← (show (List.range l.length).map (fun i => l.getD i 0) = l by
    refine List.ext_getElem (by simp) fun j h1 h2 => ?_
    simp [List.getD, List.getElem?_eq_getElem h2])]
  refine List.map_congr_left fun i hi => ?_
  by_cases q : i + 1 < 2
  · rw [if_pos q]; unfold spkF; rw [if_neg (by omega)]
  · rw [if_neg q]
theorem rowS_end (l : List Int) (lim : Int) {k : Nat} (h : l.length ≤ k) : rowS l lim k = spkL l lim := by
  refine List.map_congr_left fun i hi => ?_
  have hi := List.mem_range.1 hi
  by_cases q : i + 1 < k
  · rw [if_pos q]
  · rw [if_neg q]; unfold spkF; rw [if_neg (by omega)]
set_option maxHeartbeats 4000000 in
theorem c98 {ad : Addr} {n c : Nat} {l : List Int} {lim : Int} (s : Sl G h 1 (.slice (some ad) n c) n (l.map (.int .i64))) (hn : n ≤ 1024) (hl0 : ∀ z ∈ l, z.natAbs ≤ 16384) (h0 : 0 ≤ lim) (h1 : lim ≤ 16384) (hw : Wf h) :
    Cf (mz G) (.func (.func 98) #[] #[]) [.slice (some ad) n c, .int .i64 lim] h fun r h' => (∃ B sf, r = .slice (some ⟨B, 0, some 0⟩) n n ∧ At h' B (.cells ((spkL l lim).map (.int .i64)) 3 1 sf)) ∧ Grow h h' := by
  have hl := s.length
  simp at hl
  have q127 := fun (h' : H) (g : Grow h h') (w' : Wf h') => c127 (s.grow g) (by omega) w'
  refine cf_enter0 32 [.tmp 4] Tryz.func98 rfl rfl rfl rfl ?_
  repeat' (first | with_reducible refine wo_nil ?_ | ((with_reducible refine wo_any ?_); first | ((with_reducible refine ik_move ?_); refine wo_op rfl (op_move rfl) rfl rfl ?_) | ((with_reducible refine ik_assign ?_); refine wo_op rfl (op_assign rfl) rfl rfl ?_) | ((with_reducible refine ik_box ?_); refine wo_op rfl (op_box1 rfl rfl zs3) rfl rfl ?_) | ((with_reducible refine ik_alloc ?_); refine wo_op rfl (op_alloc zz22 zs22 rfl rfl rfl) rfl rfl ?_) | ((with_reducible refine ik_store ?_); refine wo_op0 rfl (op_st1 rfl rfl at_A rfl zs22 rfl rfl rfl) rfl ?_) | ((with_reducible refine ik_callv ?_); (refine wo_call rfl rfl rfl rfl (q127 _ gr_A wf_A) rfl rfl ?_; rintro _ _ ⟨⟨C, sf, rfl, hC, at10⟩, hq⟩; all_goals ((try (have hqn := hq.nx)); (try simp only [H.nx_push, H.nx_set, H.nx_bump] at hqn)))) | ((with_reducible refine ik_callF (f := 132) ?_); (refine wo_call rfl rfl rfl rfl (c132 wf_A) rfl rfl ?_; rintro _ _ ⟨⟨rfl, at12⟩, hq⟩; all_goals ((try (have hqn := hq.nx)); (try simp only [H.nx_push, H.nx_set, H.nx_bump] at hqn))))) | with_reducible refine sq_norm ?_ | with_reducible refine wc_seq ?_ | with_reducible refine wc_region ?_ | with_reducible refine wc_block ?_)
  have lC := at10.lt
  refine wc_cut (ι := (Nat × Nat) × (Nat × Nat) × Bool) (fun i => [(3, .pointer (some ⟨i.1.1, 0, some 0⟩)), (5, .pointer (some ⟨i.2.1.1, 0, some 0⟩)), (12, winF i.2.1.2)]) (fun i h' => (Wf h' ∧ Grow h h') ∧ (h.nx ≤ i.1.1 ∧ i.1.1 < i.1.2 ∧ i.1.2 < i.2.1.1 ∧ i.2.1.1 < i.2.1.2) ∧ At h' i.1.1 (.cells [.int .i64 lim] 3 1 false) ∧ At h' i.1.2 (.cells (l.map (.int .i64)) 3 1 i.2.2) ∧ At h' i.2.1.1 (.cells [.slice (some ⟨i.1.2, 0, some 0⟩) n n] 22 1 false) ∧ At h' i.2.1.2 (.cells [.slice (some ad) n c] 22 1 false)) ((_, C), (_, _), sf) (within_lk ⟨rfl, rfl, rfl, trivial⟩) ⟨⟨wf_A, gr_A⟩, ⟨Nat.le_refl _, (show h.nx < C by simp only [H.nx_push] at hC; omega), at10.lt, Nat.lt_succ_self _⟩, (show At _ h.nx (.cells [.int .i64 lim] 3 1 false) from at_A), (show At _ C (.cells (l.map (.int .i64)) 3 1 sf) from at_A), at_A, at_A⟩ ?_
  rintro ⟨⟨B3, C⟩, ⟨B5, B6⟩, sf⟩ ha ⟨⟨wa, ga⟩, ⟨n1, n2, n3, n4⟩, a3, aC, a5, a6⟩
  simp only at n1 n2 n3 n4 a3 aC a5 a6 ⊢
  have l6 := a6.lt
  refine wc_rangeFunc2 rfl fun e lp he hlp => ?_
  refine (c153 (Y := ha.nx) (B := B6) (a := some ad) (c := c) (l := l) (fun k g => Wf g ∧ Grow h g ∧ ha.nx + 1 ≤ g.nx ∧ At g B3 (.cells [.int .i64 lim] 3 1 false) ∧ At g C (.cells ((rowS l lim k).map (.int .i64)) 3 1 sf) ∧ At g B5 (.cells [.slice (some ⟨C, 0, some 0⟩) n n] 22 1 false) ∧ At g B6 (.cells [.slice (some ad) n c] 22 1 false) ∧ At g ha.nx lp) (n := n) (by omega) ?_ ?_ ?_ ?_).mono ?_
  · rintro k g ⟨w, gr, _, _, _, _, b6, _⟩
    exact ⟨b6, s.grow gr, w⟩
  · rintro k g g' ⟨w, gr, nx, b3, bC, b5, b6, b7⟩ gg ww
    exact ⟨ww, gr.trans gg, Nat.le_trans nx gg.nx, b3.grow gg, bC.grow gg, b5.grow gg, b6.grow gg, b7.grow gg⟩
  · rintro k g hk2 hkn ⟨w, gr, nx, b3, bC, b5, b6, b7⟩
    have hF : spkF l lim (k - 1) = spkV (l.getD (k - 2) 0) (l.getD (k - 1) 0) (l.getD k 0) lim := by
      unfold spkF
      rw [if_pos (by omega), show k - 1 - 1 = k - 2 by omega, show k - 1 + 1 = k by omega]
    have bx := getD_bound hl0 k
    have bY := getD_bound hl0 (k - 1)
    have bz := getD_bound hl0 (k - 2)
    have bm := med_b bz bY bx
    have hset := row_set (n := n) (o := k - 1) (u := spkF l lim (k - 1)) (f := fun i => if i + 1 < k then spkF l lim i else l.getD i 0) (g := fun i => if i + 1 < k + 1 then spkF l lim i else l.getD i 0) (by rw [if_pos (by omega)]) (fun i hi => by
      by_cases q : i + 1 < k
      · rw [if_pos q, if_pos (by omega)]
      · rw [if_neg q, if_neg (by omega)])
    have er : ∀ k, rowS l lim k = (List.range n).map (fun i => if i + 1 < k then spkF l lim i else l.getD i 0) := fun k => by unfold rowS; rw [hl]
    rw [er k] at bC
    rw [← er (k + 1)] at hset
    have q133 := fun (h' : H) (w' : Wf h') => c133 (G := G) (h := h') (x := l.getD k 0) (y := l.getD (k - 1) 0) (z := l.getD (k - 2) 0) w'
    rw [med_sym] at q133
    unfold spkV at hF
    obtain ⟨x0, hx0⟩ : ∃ x, l.getD k 0 = x := ⟨_, rfl⟩
    obtain ⟨x1, hx1⟩ : ∃ x, l.getD (k - 1) 0 = x := ⟨_, rfl⟩
    obtain ⟨x2, hx2⟩ : ∃ x, l.getD (k - 2) 0 = x := ⟨_, rfl⟩
    rw [hx0, hx1, hx2] at hF bm q133 ⊢
    rw [hx1] at bY
    obtain ⟨m, hm⟩ : ∃ m, medZ x2 x1 x0 = m := ⟨_, rfl⟩
    rw [hm] at hF bm q133
    rw [hF, Int.min_comm] at hset
    have lC := bC.lt
    have l3 := b3.lt
    subst hlp
    refine cf_round b7.get he rfl rfl ?_
    repeat' (first | with_reducible refine wo_nil ?_ | ((with_reducible refine wo_any ?_); first | ((with_reducible refine ik_assign ?_); refine wo_op rfl (op_assign rfl) rfl rfl ?_) | ((with_reducible refine ik_alloc ?_); refine wo_op rfl (op_alloc zz80 zs80 rfl rfl rfl) rfl rfl ?_) | ((with_reducible refine ik_store ?_); refine wo_op0 rfl (op_stAgg rfl rfl at_A zs80 rfl rfl rfl rfl) rfl ?_)) | with_reducible refine sq_norm ?_ | with_reducible refine wc_seq ?_ | with_reducible refine wc_region ?_)
    refine ⟨rfl, _, _, _, _, _, At.get (b := ha.nx) (o := .loop .ready none e _ _ _) at_A, ?_⟩
    repeat' (first | with_reducible refine wo_nil ?_ | ((with_reducible refine wo_any ?_); first | ((with_reducible refine ik_move ?_); refine wo_op rfl (op_move rfl) rfl rfl ?_) | ((with_reducible refine ik_assign ?_); refine wo_op rfl (op_assign rfl) rfl rfl ?_) | ((with_reducible refine ik_callb ?_); first | refine wo_op rfl (op_min rfl rfl) rfl rfl ?_ | refine wo_op rfl (op_max rfl rfl) rfl rfl ?_) | ((with_reducible refine ik_indexAddr ?_); first | refine wo_op rfl (op_idxSl (o := k - 1) rfl rfl Tryz.underlying22 zs3 (by omega) (by omega) (by omega)) rfl rfl ?_ | refine wo_op rfl (op_idxArr' rfl rfl Tryz.underlying80 zs3 (by omega) (by omega)) rfl rfl ?_) | ((with_reducible refine ik_store ?_); refine wo_op0 rfl (op_stIdx rfl rfl at_A rfl zs3 (by simp; omega) rfl hset) rfl ?_) | ((with_reducible refine ik_load ?_); first | refine wo_op rfl (op_ldAgg rfl at_A Tryz.underlying80 rfl zs80 rfl rfl) rfl rfl ?_ | refine wo_op rfl (op_ldAt rfl at_A Tryz.underlying22 rfl rfl) rfl rfl ?_ | refine wo_op rfl (op_ldAt rfl at_A Tryz.underlying3 rfl rfl) rfl rfl ?_) | ((with_reducible refine ik_bin ?_); first | refine wo_op rfl (op_sub' rfl rfl (w64 (by omega) (by omega))) rfl rfl ?_ | refine wo_op rfl (op_add' rfl rfl (w64 (by omega) (by omega))) rfl rfl ?_) | ((with_reducible refine ik_callv ?_); (refine wo_call rfl rfl rfl rfl (q133 _ wf_A) rfl rfl ?_; rintro _ _ ⟨rfl, hq⟩; all_goals ((try (have hqn := hq.nx)); (try simp only [H.nx_push, H.nx_set, H.nx_bump] at hqn))))) | with_reducible refine sq_norm ?_ | with_reducible refine wc_seq ?_ | with_reducible refine wc_region ?_ | with_reducible refine wc_block ?_ | with_reducible refine bq_norm ?_)
    exact ⟨_, _, _, _, _, _, At.get (b := ha.nx) (o := .loop .busy none e _ _ _) at_A, rfl, wf_A, gr_A, (by simp only [H.nx_set, H.nx_push, H.nx_bump]; omega), at_A, at_A, at_A, at_A, at_A⟩
  · rw [rowS_two]
    exact ⟨wf_A, gr_A, (by simp only [H.nx_push]; omega), at_A, at_A, at_A, at_A, at_A⟩
  · rintro _ g ⟨k, ⟨hk1, hk2, hk3⟩, w, gr, nx, b3, bC, b5, b6, b7⟩
    rw [rowS_end l lim (by omega)] at bC
    subst hlp
    refine ⟨_, _, _, _, _, _, b7.get, by simp, ?_⟩
    repeat' (first | with_reducible refine wo_nil ?_ | ((with_reducible refine wo_any ?_); first | ((with_reducible refine ik_assign ?_); refine wo_op rfl (op_assign rfl) rfl rfl ?_) | ((with_reducible refine ik_load ?_); refine wo_op rfl (op_ldAt rfl at_A Tryz.underlying22 rfl rfl) rfl rfl ?_)) | with_reducible refine sq_norm ?_ | with_reducible refine wc_seq ?_ | with_reducible refine wc_region ?_ | with_reducible refine wc_ret ?_ | with_reducible refine bq_norm ?_)
    exact rq1 rfl ⟨⟨C, sf, rfl, at_A⟩, gr_A⟩
theorem spkL_bound {l : List Int} {lim : Int} (hl : ∀ z ∈ l, z.natAbs ≤ 16384) (h0 : 0 ≤ lim) (h1 : lim ≤ 16384) : ∀ z ∈ spkL l lim, z.natAbs ≤ 1000000000000 := fun z hz => by
  unfold spkL at hz
  obtain ⟨i, _, rfl⟩ := List.mem_map.1 hz
  have a := getD_bound hl (i - 1)
  have b := getD_bound hl i
  have c := getD_bound hl (i + 1)
  have m := med_b a b c
  unfold spkF
  split
  · unfold spkV; omega
  · omega
set_option maxHeartbeats 4000000 in
theorem c51 {v : Value} {n : Nat} {l : List Nat} (lim : Int) (u : Sl G h 1 v n (l.map (.float .f32))) (hn : n < 1000000) (hw : Wf h) (hG : ∀ a v, laidBase a = some v → G a = some v) :
    Cf (mz G) (.func (.func 51) #[] #[]) [v, .int .i64 lim] h fun r h' => MadeF G h' r n (madeE (firstNZ [lchk l, rngE lim 0 16384]) (spkL (l.map smp) lim)) (spkL (l.map smp) lim) ∧ Grow h h' := by
  obtain ⟨b, c, rfl⟩ := u.form
  have hl := u.length
  simp at hl
  have q73 := fun (h' : H) (g : Grow h h') (w' : Wf h') => c73 (u.grow g) hn w' hG
  have q89 := fun (h : H) => c89 (G := G) (h := h) lim 0 16384
  have q72 := fun (h' : H) (v : Value) (s : Sl G h' 1 v 2 ([lchk l, rngE lim 0 16384].map (.int .i64))) => c72 s (by omega)
  obtain ⟨e1, he1⟩ : ∃ e, lchk l = e := ⟨_, rfl⟩
  obtain ⟨e2, he2⟩ : ∃ e, rngE lim 0 16384 = e := ⟨_, rfl⟩
  obtain ⟨E, hE⟩ : ∃ e, firstNZ [e1, e2] = e := ⟨_, rfl⟩
  rw [he1] at q73
  rw [he2] at q89
  rw [he1, he2, hE] at q72
  rw [he1, he2, hE]
  by_cases hz : E = 0
  · have z := firstNZ_zero (hE.trans hz)
    subst hz
    obtain ⟨k1, k2⟩ := lchk_ok (he1.trans (z e1 (by simp)))
    have hf := rng_ok (he2.trans (z e2 (by simp)))
    have sb := smp_bound k2
    have hX : (l.map smp).length = n := by simpa using hl
    obtain ⟨X, hXX⟩ : ∃ L, l.map smp = L := ⟨_, rfl⟩
    have q76 := fun (h' : H) (g : Grow h h') (w' : Wf h') => c76o (u.grow g) hn k2 w'
    rw [hXX] at sb hX q76 ⊢
    have hbd := spkL_bound sb hf.1 hf.2
    have hLn : (spkL X lim).length = n := by simp [spkL, hX]
    have q98 := fun (h' : H) (ad : Addr) (s : Sl G h' 1 (.slice (some ad) n n) n (X.map (.int .i64))) (w' : Wf h') => c98 (G := G) (h := h') s (by omega) sb hf.1 hf.2 w'
    refine cf_enter0 23 [.tmp 4, .tmp 5] Tryz.func51 rfl rfl rfl rfl ?_
    repeat' (first | with_reducible refine wo_nil ?_ | ((with_reducible refine wo_any ?_); first | ((with_reducible refine ik_move ?_); refine wo_op rfl (op_move rfl) rfl rfl ?_) | ((with_reducible refine ik_assign ?_); refine wo_op rfl (op_assign rfl) rfl rfl ?_) | ((with_reducible refine ik_buildSlice ?_); refine wo_op rfl (op_buildSl rfl Tryz.underlying163 zs29 zz29 rfl rfl) rfl rfl ?_) | ((with_reducible refine ik_bin ?_); refine wo_op rfl (op_neq rfl rfl) rfl rfl ?_) | ((with_reducible refine ik_extract ?_); refine wo_op rfl (op_extract rfl rfl) rfl rfl ?_) | ((with_reducible refine ik_callv ?_); first | refine wo_op rfl (op_call rfl rfl (q89 _)) rfl rfl ?_ | refine wo_op rfl (op_call rfl rfl (q72 _ _ (Sl.ofAt (show At _ _ (.cells [.int .i64 e1, .int .i64 e2] 29 1 false) from at_A) rfl (Nat.le_refl _)))) rfl rfl ?_ | (refine wo_call rfl rfl rfl rfl (q73 _ gr_A wf_A) rfl rfl ?_; rintro _ _ ⟨rfl, hq⟩; all_goals ((try (have hqn := hq.nx)); (try simp only [H.nx_push, H.nx_set, H.nx_bump] at hqn))) | (refine wo_call rfl rfl rfl rfl (q76 _ gr_A wf_A) rfl rfl ?_; rintro _ _ ⟨⟨rfl, at9⟩, hq⟩; all_goals ((try (have hqn := hq.nx)); (try simp only [H.nx_push, H.nx_set, H.nx_bump] at hqn))) | (refine wo_call rfl rfl rfl rfl (q98 _ _ (Sl.ofAt (at_A) (by simp [hX]) (Nat.le_refl _)) wf_A) rfl rfl ?_; rintro _ _ ⟨⟨C, sf, rfl, atC⟩, hq⟩; all_goals ((try (have hqn := hq.nx)); (try simp only [H.nx_push, H.nx_set, H.nx_bump] at hqn)))) | ((with_reducible refine ik_callF (f := 74) ?_); (refine wo_call rfl rfl rfl rfl (c74m (Sl.ofAt atC (by simp [hLn]) (Nat.le_refl _)) (by omega) wf_A hbd) rfl rfl ?_; rintro _ _ ⟨⟨U1, E1, rfl, mf⟩, hq⟩; all_goals ((try (have hqn := hq.nx)); (try simp only [H.nx_push, H.nx_set, H.nx_bump] at hqn))))) | with_reducible refine sq_norm ?_ | with_reducible refine wc_seq ?_ | with_reducible refine wc_region ?_ | with_reducible refine wc_skip ?_ | with_reducible refine wc_ret ?_ | refine wc_iff rfl ?_)
    exact rq2 rfl rfl ⟨mf, gr_A⟩
  · refine cf_enter0 23 [.tmp 4, .tmp 5] Tryz.func51 rfl rfl rfl rfl ?_
    repeat' (first | with_reducible refine wo_nil ?_ | ((with_reducible refine wo_any ?_); first | ((with_reducible refine ik_move ?_); refine wo_op rfl (op_move rfl) rfl rfl ?_) | ((with_reducible refine ik_assign ?_); refine wo_op rfl (op_assign rfl) rfl rfl ?_) | ((with_reducible refine ik_buildSlice ?_); refine wo_op rfl (op_buildSl rfl Tryz.underlying163 zs29 zz29 rfl rfl) rfl rfl ?_) | ((with_reducible refine ik_bin ?_); refine wo_op rfl (op_neq rfl rfl) rfl rfl ?_) | ((with_reducible refine ik_callv ?_); first | refine wo_op rfl (op_call rfl rfl (q89 _)) rfl rfl ?_ | refine wo_op rfl (op_call rfl rfl (q72 _ _ (Sl.ofAt (show At _ _ (.cells [.int .i64 e1, .int .i64 e2] 29 1 false) from at_A) rfl (Nat.le_refl _)))) rfl rfl ?_ | (refine wo_call rfl rfl rfl rfl (q73 _ gr_A wf_A) rfl rfl ?_; rintro _ _ ⟨rfl, hq⟩; all_goals ((try (have hqn := hq.nx)); (try simp only [H.nx_push, H.nx_set, H.nx_bump] at hqn))))) | with_reducible refine sq_norm ?_ | with_reducible refine wc_seq ?_ | with_reducible refine wc_region ?_ | with_reducible refine wc_ret ?_ | with_reducible refine sq_ret ?_ | (refine wc_if rfl (fun hb => ?_) (fun hb => ?_) <;> (try simp only [decide_eq_true_eq, decide_eq_false_iff_not, Bool.not_eq_true', Bool.not_eq_false', Int.not_lt, Int.not_le, Decidable.not_not, not_true_eq_false, not_false_eq_true, beq_self_eq_true, reduceCtorEq] at hb) <;> (try (exfalso; omega))))
    refine rq2 rfl rfl ⟨.inl ?_, gr_A⟩
    unfold madeE
    rw [if_pos hz]
    exact ⟨hz, rfl⟩
end Go.Proofs.YtdfpadokepmknaaGreatDoor
