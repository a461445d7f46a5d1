/- The law CoverLines, walked. -/
import Derived.Test.YtnkmencbnoipmaaGreatDoorM3
import Derived.Test.YtnkmencbnoipmaaGreatDoorM1
import Derived.Test.YtnkmencbnoipmaaGreatDoorL1
set_option linter.all false
/- The law CoverLines. -/
namespace Go.Proofs.YtnkmencbnoipmaaGreatDoor
open Go Go.Ab Go.Fl
attribute [local irreducible] SeqQ BlkQ LpQ RetQ Wc Wo WD WX Op1 Op1q Op1a Cf Cl From
attribute [local irreducible] Ieee.Format.order Ieee.Format.read Ieee.Format.nearest Ieee.Format.write Ieee.Format.mul Ieee.Format.div Ieee.Format.sqrt Ieee.Datum.order Ieee.Datum.integral K U rngE errN cntE cmpI indE ptE plaE firstNZ numsE lnE BigP isNameB nmE ascA errL chgV chgE linsE griE
set_option maxRecDepth 10000
variable {G : Base} {h : H}

theorem vs_len {us ts : List LnM} (e : vsOf us = vsOf ts) (hr : ∀ t ∈ ts, t.V.rf.length < 1000000) : ∀ t ∈ us, t.V.rf.length < 1000000 := fun t ht => by
  have : t.V ∈ vsOf us := List.mem_map.2 ⟨t, ht, rfl⟩
  rw [e] at this
  obtain ⟨t', h1, h2⟩ := List.mem_map.1 this
  rw [← h2]
  exact hr t' h1
set_option maxHeartbeats 8000000 in
theorem c3 {a b w u p q : Int} {v : Value} {n : Nat} {ts : List LnM} (s : SlN G h v n ts) (hn : n ≤ maxLen) (hw : Wf h) (hG : ∀ a v, laidBase a = some v → G a = some v) : Cf (mz G) (.func (.func 3) #[] #[]) [.agg ⟨[.int .i64 a, .int .i64 b, .int .i64 w, .int .i64 u, .int .i64 p, .int .i64 q]⟩, v] h fun r h' => r = .bool true ∧ Grow h h' := by
  obtain ⟨la, lc, rfl⟩ := s.sl.form
  have hlen := s.len
  refine cf_enter0 74 [.tmp 4] Tryz.func3 rfl rfl rfl rfl ?_
  refine wc_mid (ι := Unit) (fun _ => [(1, .slice la n lc), (2, .pointer (some ⟨h.nx, 0, some 0⟩))]) (fun _ h' => Wf h' ∧ Grow h h' ∧ At h' h.nx (.cells [.int .i64 a, .int .i64 b, .int .i64 w, .int .i64 u, .int .i64 p, .int .i64 q] 25 6 false)) ?_ ?_
  · repeat' (first | with_reducible refine wo_nil ?_ | ((with_reducible refine wo_any ?_); first | ((with_reducible refine ik_assign ?_); refine wo_op rfl (op_assign rfl) rfl rfl ?_) | ((with_reducible refine ik_box ?_); refine wo_op rfl (op_boxAgg rfl zs25 rfl) rfl rfl ?_)) | with_reducible refine wc_region ?_)
    exact ⟨rfl, (), within_lk ⟨rfl, rfl, trivial⟩, wf_A, gr_A, at_A⟩
  rintro _ g0 ⟨w0, gr0, x0⟩
  have q8 := fun (h' : H) => c8 (G := G) (h := h') (a := a) (b := b) (w := w) (u := u) (p := p) (q := q)
  have q9 := fun (h' : H) (g : Grow h h') (w' : Wf h') => c9 (s.grow g) hn w'
  refine wc_midR (ι := Unit) (fun _ => [(1, .slice la n lc), (2, .pointer (some ⟨h.nx, 0, some 0⟩))]) (fun _ h' => (n ≤ 33 ∧ ∀ t ∈ ts, t.V.rf.length ≤ 10 ∧ t.V.nm.size ≤ 40) ∧ Wf h' ∧ Grow h h' ∧ At h' h.nx (.cells [.int .i64 a, .int .i64 b, .int .i64 w, .int .i64 u, .int .i64 p, .int .i64 q] 25 6 false)) ?_ ?_
  · repeat' (first | with_reducible refine wo_nil ?_ | ((with_reducible refine wo_any ?_); first | ((with_reducible refine ik_move ?_); refine wo_op rfl (op_move rfl) rfl rfl ?_) | ((with_reducible refine ik_assign ?_); refine wo_op rfl (op_assign rfl) rfl rfl ?_) | ((with_reducible refine ik_load ?_); refine wo_op rfl (op_ldAgg rfl at_A Tryz.underlying25 rfl zs25 rfl rfl) rfl rfl ?_) | ((with_reducible refine ik_un ?_); refine wo_op rfl (op_not rfl) rfl rfl ?_) | ((with_reducible refine ik_pick ?_); first | refine wo_op rfl (op_pickt rfl rfl) rfl rfl ?_ | refine wo_op rfl (op_pickf rfl rfl) rfl rfl ?_) | ((with_reducible refine ik_callF (f := 10) ?_); refine wo_op rfl (op_call rfl rfl (c10)) rfl rfl ?_) | ((with_reducible refine ik_callv ?_); (refine wo_call rfl rfl rfl rfl (q8 _) rfl rfl ?_; rintro _ _ ⟨(rfl | rfl), hq⟩; all_goals ((try (have hqn := hq.nx)); (try simp only [H.nx_push, H.nx_set, H.nx_bump] at hqn)))) | ((with_reducible refine ik_g ?_); first | refine wo_gskip rfl rfl rfl rfl rfl rfl ?_ | ((with_reducible refine ig_move ?_); refine wo_grun rfl rfl rfl (op_move rfl) rfl rfl ?_) | ((with_reducible refine ig_un ?_); refine wo_grun rfl rfl rfl (op_not rfl) rfl rfl ?_) | ((with_reducible refine ig_callv ?_); (refine wo_gcall rfl rfl rfl rfl rfl rfl (q9 _ gr_A wf_A) rfl rfl ?_; rintro _ _ ⟨(⟨rfl, h33, hs⟩ | rfl), hq⟩; all_goals ((try (have hqn := hq.nx)); (try simp only [H.nx_push, H.nx_set, H.nx_bump] at hqn)))))) | with_reducible refine sq_norm ?_ | with_reducible refine wc_seq ?_ | with_reducible refine wc_region ?_ | with_reducible refine wc_skip ?_ | with_reducible refine wc_ret ?_ | refine wc_ift rfl ?_ | refine wc_iff rfl ?_)
    all_goals first
      | exact .inl ⟨rfl, (), within_lk ⟨rfl, rfl, trivial⟩, ⟨h33, hs⟩, wf_A, gr_A, at_A⟩
      | exact .inr ⟨rfl, rq1 rfl ⟨rfl, gr_A⟩⟩
  clear w0 gr0 x0 q8 q9
  rintro _ g0 ⟨⟨h33, hs⟩, w0, gr0, x0⟩
  have hn : n < 1000000 := by omega
  have hr : ∀ t ∈ ts, t.V.rf.length < 1000000 := fun t ht => by have := hs t ht; omega
  have hnm : ∀ t ∈ ts, t.V.nm.size ≤ 1000000 := fun t ht => by have := hs t ht; omega
  have q11 := fun (h' : H) (w' : Wf h') => c11 (G := G) (h := h') (a := a) (b := b) (w := w) (u := u) (p := p) (q := q) w'
  have q12 := fun (h' : H) (w' : Wf h') => c12 (G := G) (h := h') (a := a) (b := b) (w := w) (u := u) (p := p) (q := q) w'
  have q14 := fun (h' : H) (g : Grow h h') (w' : Wf h') => c14 (s.grow g) hn hr w'
  have q13 := fun (h' : H) (x : Value) (us : List LnM) (su : SlN G h' x n us) (e : vsOf us = vsOf ts) (w' : Wf h') => (c13 su hn (vs_len e hr) w' hG).mono (fun r h2 q => (e ▸ q : r = .int .i64 (if 32 < n then 5 else linsE (vsOf ts) []) ∧ Grow h' h2))
  have q15 := fun (h' : H) (g : Grow h h') (w' : Wf h') => c15 (s.grow g) hn hr hnm w' hG
  obtain ⟨Ga, hGa⟩ : ∃ e, griE a b w u p q = e := ⟨_, rfl⟩
  obtain ⟨Li, hLi⟩ : ∃ e, (if 32 < n then 5 else linsE (vsOf ts) []) = e := ⟨_, rfl⟩
  rw [hGa] at q11 q12
  rw [hLi] at q13 q15
  clear hGa hLi
  refine wc_midR (ι := Unit) (fun _ => [(1, .slice la n lc), (2, .pointer (some ⟨h.nx, 0, some 0⟩))]) (fun _ h' => Wf h' ∧ Grow h h' ∧ At h' h.nx (.cells [.int .i64 a, .int .i64 b, .int .i64 w, .int .i64 u, .int .i64 p, .int .i64 q] 25 6 false)) ?_ ?_
  · repeat' (first | ((with_reducible refine xk_any ?_); ((with_reducible refine xk_as0 ?_); first | ((with_reducible refine xk_move ?_); refine wx_q (wt_none rfl) rfl rfl (op_q rfl (op_move rfl)) rfl rfl rfl ?_) | ((with_reducible refine xk_load ?_); refine wx_h0 (wt_none rfl) rfl (op_q rfl (op_ldAgg rfl at_A Tryz.underlying25 rfl zs25 rfl rfl)) rfl rfl rfl ?_) | ((with_reducible refine xk_pick ?_); refine wx_q (wt_none rfl) rfl rfl (op_q rfl (op_pickf rfl rfl)) rfl rfl rfl ?_) | ((with_reducible refine xk_bin ?_); refine wx_q (wt_none rfl) rfl rfl (op_q rfl (op_neq rfl rfl)) rfl rfl rfl ?_) | ((with_reducible refine xk_callv ?_); first | (refine wx_call0 (wt_none rfl) rfl rfl rfl rfl (q11 _ wf_A) rfl rfl ?_; rintro _ _ ⟨rfl, hq⟩; all_goals ((try (have hqn := hq.nx)); (try simp only [H.nx_push, H.nx_set, H.nx_bump] at hqn))) | (refine wx_call0 (wt_none rfl) rfl rfl rfl rfl (q12 _ wf_A) rfl rfl ?_; rintro _ _ ⟨rfl, hq⟩; all_goals ((try (have hqn := hq.nx)); (try simp only [H.nx_push, H.nx_set, H.nx_bump] at hqn)))) | ((with_reducible refine xk_g ?_); first | ((with_reducible refine xg_move ?_); refine wx_q (wt_run rfl rfl rfl) rfl rfl (op_q rfl (op_move rfl)) rfl rfl rfl ?_) | ((with_reducible refine xg_bin ?_); refine wx_q (wt_run rfl rfl rfl) rfl rfl (op_q rfl (op_neq rfl rfl)) rfl rfl rfl ?_) | ((with_reducible refine xg_callv ?_); first | (refine wx_call0 (wt_run rfl rfl rfl) rfl rfl rfl rfl (q14 _ gr_A wf_A) rfl rfl ?_; rintro _ _ ⟨⟨us, su, e⟩, hq⟩; all_goals ((try (have hqn := hq.nx)); (try simp only [H.nx_push, H.nx_set, H.nx_bump] at hqn))) | (refine wx_call0 (wt_run rfl rfl rfl) rfl rfl rfl rfl (q13 _ _ us (su.grow gr_A) e wf_A) rfl rfl ?_; rintro _ _ ⟨rfl, hq⟩; all_goals ((try (have hqn := hq.nx)); (try simp only [H.nx_push, H.nx_set, H.nx_bump] at hqn))) | (refine wx_call0 (wt_run rfl rfl rfl) rfl rfl rfl rfl (q15 _ gr_A wf_A) rfl rfl ?_; rintro _ _ ⟨rfl, hq⟩; all_goals ((try (have hqn := hq.nx)); (try simp only [H.nx_push, H.nx_set, H.nx_bump] at hqn)))) | (refine wx_split rfl rfl rfl (fun hb => ?_) (fun hb => ?_) <;> (try simp only [decide_eq_true_eq, decide_eq_false_iff_not, Bool.not_eq_true', Bool.not_eq_false', Int.not_lt, Int.not_le, Decidable.not_not, not_true_eq_false, not_false_eq_true, beq_self_eq_true, reduceCtorEq] at hb) <;> (try (exfalso; omega)))) | with_reducible refine wx_nil0 ?_ ?_)) | with_reducible exact obl_nil | with_reducible refine obl_cons ?_ ?_ | ((with_reducible refine ik_obs ?_); first | exact obs_nil | refine obs_skip rfl ?_ | refine obs_chkn rfl rfl (op_q rfl (op_ldAgg rfl at_A Tryz.underlying25 rfl zs25 (by rfl) rfl)) ?_) | with_reducible refine sq_norm ?_ | with_reducible refine wc_seq ?_ | with_reducible refine wc_skip ?_ | (refine wc_if rfl (fun hb => ?_) (fun hb => ?_) <;> (try simp only [decide_eq_true_eq, decide_eq_false_iff_not, Bool.not_eq_true', Bool.not_eq_false', Int.not_lt, Int.not_le, Decidable.not_not, not_true_eq_false, not_false_eq_true, beq_self_eq_true, reduceCtorEq] at hb) <;> (try (exfalso; omega))) | refine wc_drawB (id := 3) 13 [0, 1, 0, 7, 15, 31, 63, 127, 255, 63, 1023, 2047, 4095] [0, 1, 2, 3, 4, 5, 6, 7, 8, 9, 10, 11, 12] (by kernel_rfl) (by kernel_rfl) rfl rfl ?_)
    all_goals first
      | exact .inl ⟨rfl, (), within_lk ⟨rfl, rfl, trivial⟩, wf_A, gr_A, at_A⟩
  clear w0 gr0 x0 q11 q12 q13 q14 q15
  rintro _ g0 ⟨w0, gr0, x0⟩
  by_cases hn0 : n = 0
  · subst hn0
    repeat' (first | with_reducible refine wo_nil ?_ | ((with_reducible refine wo_any ?_); first | ((with_reducible refine ik_move ?_); refine wo_op rfl (op_move rfl) rfl rfl ?_) | ((with_reducible refine ik_assign ?_); refine wo_op rfl (op_assign rfl) rfl rfl ?_) | ((with_reducible refine ik_bin ?_); refine wo_op rfl (op_eql rfl rfl) rfl rfl ?_) | ((with_reducible refine ik_callb ?_); refine wo_op rfl (op_lenSl rfl Tryz.underlying26) rfl rfl ?_) | ((with_reducible refine ik_callF (f := 10) ?_); refine wo_op rfl (op_call rfl rfl (c10)) rfl rfl ?_)) | with_reducible refine sq_norm ?_ | with_reducible refine wc_seq ?_ | with_reducible refine wc_region ?_ | with_reducible refine wc_ret ?_ | with_reducible refine sq_ret ?_ | refine wc_ift rfl ?_)
    exact rq1 rfl ⟨rfl, gr_A⟩
  · obtain ⟨ad, i1, i3⟩ := slN_atG (s.grow gr0) Tryz.underlying26 zs45 (i := (0 : Int)) (q := 0) (by omega) rfl
    have hm := List.getElem_mem (by omega : 0 < ts.length)
    have ho := s.ok _ hm
    have hr1 := hr _ hm
    have hm1 := hnm _ hm
    obtain ⟨t, ht⟩ : ∃ t, ts[0]'(by omega) = t := ⟨_, rfl⟩
    rw [ht] at i3 ho hr1 hm1
    clear hm ht hr hnm hs
    obtain ⟨⟨nm, x, y, tx, ty, sh, nx, ny, px, py, ch, rf⟩, ta, tc⟩ := t
    obtain ⟨so⟩ := ho
    dsimp only [LnM.cells] at i3
    dsimp only at so hr1 hm1
    have q17 := fun (h' : H) (g : Grow h h') => c17 (nm := nm) (x := x) (y := y) (tx := tx) (ty := ty) (sh := sh) (nx := nx) (ny := ny) (px := px) (py := py) (ch := ch) (so.grow g) hr1
    have q16 := fun (h' : H) (a : Option Addr) (c : Nat) (s' : Sl G h' 1 (.slice a rf.length c) rf.length (rf.map (.int .i64))) (w' : Wf h') => c16 (nm := nm) (x := x) (y := y) (tx := tx) (ty := ty) (shi := sh) (nx := nx) (ny := ny) (px := px) (py := py) (chi := ch) s' hr1 w' hG
    have q18 := fun (h' : H) (g : Grow h h') (w' : Wf h') => c18 (nm := nm) (x := x) (y := y) (tx := tx) (ty := ty) (sh := sh) (nx := nx) (ny := ny) (px := px) (py := py) (ch := ch) (so.grow g) hr1 hm1 w'
    have q20 := fun (h' : H) (a : Option Addr) (c : Nat) (s' : Sl G h' 1 (.slice a rf.length c) rf.length (rf.map (.int .i64))) (w' : Wf h') => c20 (nm := nm) (x := x) (y := y) (tx := tx) (ty := ty) (sh := sh) (nx := nx) (ny := ny) (px := px) (py := py) (ch := ch) s' hr1 w' hG
    obtain ⟨E, hE⟩ : ∃ E, lnE nm x y tx ty sh nx ny px py ch rf = E := ⟨_, rfl⟩
    rw [hE] at q16 q18 q20
    have q22 := fun (P : List Pl) (hP : P.length < 1000000) (h' : H) (v : Value) (s : Sl G h' 4 v P.length (P.flatMap Pl.cells)) (w' : Wf h') => c22 s rfl hP w'
    have q21 := fun (P : List Pl) (hP : P.length < 1000000) (h' : H) (v v2 : Value) (s : Sl G h' 4 v P.length (P.flatMap Pl.cells)) (s2 : Sl G h' 4 v2 P.length (P.flatMap Pl.cells)) (w' : Wf h') => c21 s s2 rfl hP w'
    by_cases hz : E = 0
    · subst hz
      obtain ⟨sh, ch, rfl, rfl, _, _, bd⟩ := nums_lnok (lnE_inv hE).2.1
      clear hE
      have hS := bd.hS
      have hC := bd.hC
      have hlen := plsP_len (x := x) (y := y) (tx := tx) (ty := ty) (nx := nx) (ny := ny) (px := px) (py := py) (rf := rf) (ch := ch) sh
      have hb : sh * ch ≤ 64 * 16 := Nat.mul_le_mul (by omega) (by omega)
      have q19 := fun (h' : H) (g : Grow h h') (w' : Wf h') => c19 (nm := nm) (rf := rf) (so.grow g) hr1 bd w'
      have q16' := fun (h' : H) (a : Option Addr) (c : Nat) (s' : Sl G h' 1 (.slice a rf.length c) rf.length (rf.map (.int .i64))) (w' : Wf h') => (q16 h' a c s' w').mono (fun r h2 z => (by
        obtain ⟨pv, ps, e, sp, _, hps, hg⟩ := z
        rw [hps sh ch rfl rfl rfl] at sp
        exact ⟨pv, e, sp, hg⟩ : ∃ pv, r = .tuple #[pv, .int .i64 0] ∧ Sl G h2 4 pv (plsP x y tx ty nx ny px py rf ch sh).length ((plsP x y tx ty nx ny px py rf ch sh).flatMap Pl.cells) ∧ Grow h' h2))
      clear q16
      have q22 := q22 (plsP x y tx ty nx ny px py rf ch sh) (by omega)
      have q21 := q21 (plsP x y tx ty nx ny px py rf ch sh) (by omega)
      clear hlen hb bd
      generalize plsP x y tx ty nx ny px py rf ch sh = P at q16' q19 q21 q22
      repeat' (first | with_reducible refine wo_nil ?_ | ((with_reducible refine wo_any ?_); first | ((with_reducible refine ik_move ?_); refine wo_op rfl (op_move rfl) rfl rfl ?_) | ((with_reducible refine ik_assign ?_); refine wo_op rfl (op_assign rfl) rfl rfl ?_) | ((with_reducible refine ik_indexAddr ?_); refine wo_op rfl (op_indexAddr rfl rfl i1) rfl rfl ?_) | ((with_reducible refine ik_load ?_); refine wo_op rfl (op_ldLn rfl Tryz.underlying45 rfl zs45 (i3 _ gr_A).all) rfl rfl ?_) | ((with_reducible refine ik_pick ?_); refine wo_op rfl (op_pickt rfl rfl) rfl rfl ?_) | ((with_reducible refine ik_bin ?_); refine wo_op rfl (op_eql rfl rfl) rfl rfl ?_) | ((with_reducible refine ik_callb ?_); refine wo_op rfl (op_lenSl rfl Tryz.underlying26) rfl rfl ?_) | ((with_reducible refine ik_extract ?_); refine wo_op rfl (op_extract rfl rfl) rfl rfl ?_) | ((with_reducible refine ik_callv ?_); first | (refine wo_call rfl rfl rfl rfl (q17 _ gr_A) rfl rfl ?_; rintro _ _ ⟨⟨a', c', rfl, s'⟩, hq⟩; all_goals ((try (have hqn := hq.nx)); (try simp only [H.nx_push, H.nx_set, H.nx_bump] at hqn))) | (refine wo_call rfl rfl rfl rfl (q16' _ _ _ (s'.grow gr_A) wf_A) rfl rfl ?_; rintro _ _ ⟨pv, rfl, sp, hq⟩; all_goals ((try (have hqn := hq.nx)); (try simp only [H.nx_push, H.nx_set, H.nx_bump] at hqn))) | (refine wo_call rfl rfl rfl rfl (q18 _ gr_A wf_A) rfl rfl ?_; rintro _ _ ⟨rfl, hq⟩; all_goals ((try (have hqn := hq.nx)); (try simp only [H.nx_push, H.nx_set, H.nx_bump] at hqn))) | (refine wo_call rfl rfl rfl rfl (q19 _ gr_A wf_A) rfl rfl ?_; rintro _ _ ⟨sr, hq⟩; all_goals ((try (have hqn := hq.nx)); (try simp only [H.nx_push, H.nx_set, H.nx_bump] at hqn))) | (refine wo_call rfl rfl rfl rfl (q20 _ _ _ (s'.grow gr_A) wf_A) rfl rfl ?_; rintro _ _ ⟨rfl, hq⟩; all_goals ((try (have hqn := hq.nx)); (try simp only [H.nx_push, H.nx_set, H.nx_bump] at hqn)))) | ((with_reducible refine ik_g ?_); first | ((with_reducible refine ig_move ?_); refine wo_grun rfl rfl rfl (op_move rfl) rfl rfl ?_) | ((with_reducible refine ig_bin ?_); refine wo_grun rfl rfl rfl (op_eql rfl rfl) rfl rfl ?_) | ((with_reducible refine ig_callF (f := 10) ?_); refine wo_grun rfl rfl rfl (op_call rfl rfl (c10)) rfl rfl ?_) | ((with_reducible refine ig_callv ?_); first | (refine wo_gcall rfl rfl rfl rfl rfl rfl (q22 _ _ (sp.grow gr_A) wf_A) rfl rfl ?_; rintro _ _ ⟨s1, hq⟩; all_goals ((try (have hqn := hq.nx)); (try simp only [H.nx_push, H.nx_set, H.nx_bump] at hqn))) | (refine wo_gcall rfl rfl rfl rfl rfl rfl (q21 _ _ _ (s1.grow gr_A) (sr.grow gr_A) wf_A) rfl rfl ?_; rintro _ _ ⟨rfl, hq⟩; all_goals ((try (have hqn := hq.nx)); (try simp only [H.nx_push, H.nx_set, H.nx_bump] at hqn)))))) | with_reducible refine sq_norm ?_ | with_reducible refine wc_seq ?_ | with_reducible refine wc_region ?_ | with_reducible refine wc_skip ?_ | with_reducible refine wc_ret ?_ | refine wc_ift rfl ?_ | (refine wc_if rfl (fun hb => dead_A hb) (fun hb => ?_); (try simp only [decide_eq_true_eq, decide_eq_false_iff_not, Bool.not_eq_true', Bool.not_eq_false', Int.not_lt, Int.not_le, Decidable.not_not, not_true_eq_false, not_false_eq_true, beq_self_eq_true, reduceCtorEq] at hb)))
      all_goals exact rq1 rfl ⟨rfl, gr_A⟩
    · clear hE
      have q16' := fun (h' : H) (a : Option Addr) (c : Nat) (s' : Sl G h' 1 (.slice a rf.length c) rf.length (rf.map (.int .i64))) (w' : Wf h') => (q16 h' a c s' w').mono (fun r h2 z => (by
        obtain ⟨pv, ps, e, sp, hps, _, hg⟩ := z
        rw [hps hz] at sp
        exact ⟨pv, e, sp, hg⟩ : ∃ pv, r = .tuple #[pv, .int .i64 E] ∧ Sl G h2 4 pv ([] : List Pl).length (([] : List Pl).flatMap Pl.cells) ∧ Grow h' h2))
      clear q16
      have q22 := q22 [] (by decide)
      have q21 := q21 [] (by decide)
      repeat' (first | with_reducible refine wo_nil ?_ | ((with_reducible refine wo_any ?_); first | ((with_reducible refine ik_move ?_); refine wo_op rfl (op_move rfl) rfl rfl ?_) | ((with_reducible refine ik_assign ?_); refine wo_op rfl (op_assign rfl) rfl rfl ?_) | ((with_reducible refine ik_indexAddr ?_); refine wo_op rfl (op_indexAddr rfl rfl i1) rfl rfl ?_) | ((with_reducible refine ik_load ?_); refine wo_op rfl (op_ldLn rfl Tryz.underlying45 rfl zs45 (i3 _ gr_A).all) rfl rfl ?_) | ((with_reducible refine ik_pick ?_); refine wo_op rfl (op_pickt rfl rfl) rfl rfl ?_) | ((with_reducible refine ik_bin ?_); refine wo_op rfl (op_eql rfl rfl) rfl rfl ?_) | ((with_reducible refine ik_callb ?_); refine wo_op rfl (op_lenSl rfl Tryz.underlying26) rfl rfl ?_) | ((with_reducible refine ik_extract ?_); refine wo_op rfl (op_extract rfl rfl) rfl rfl ?_) | ((with_reducible refine ik_callv ?_); first | (refine wo_call rfl rfl rfl rfl (q17 _ gr_A) rfl rfl ?_; rintro _ _ ⟨⟨a', c', rfl, s'⟩, hq⟩; all_goals ((try (have hqn := hq.nx)); (try simp only [H.nx_push, H.nx_set, H.nx_bump] at hqn))) | (refine wo_call rfl rfl rfl rfl (q16' _ _ _ (s'.grow gr_A) wf_A) rfl rfl ?_; rintro _ _ ⟨pv, rfl, sp, hq⟩; all_goals ((try (have hqn := hq.nx)); (try simp only [H.nx_push, H.nx_set, H.nx_bump] at hqn))) | (refine wo_call rfl rfl rfl rfl (q18 _ gr_A wf_A) rfl rfl ?_; rintro _ _ ⟨rfl, hq⟩; all_goals ((try (have hqn := hq.nx)); (try simp only [H.nx_push, H.nx_set, H.nx_bump] at hqn))) | (refine wo_call rfl rfl rfl rfl (q20 _ _ _ (s'.grow gr_A) wf_A) rfl rfl ?_; rintro _ _ ⟨rfl, hq⟩; all_goals ((try (have hqn := hq.nx)); (try simp only [H.nx_push, H.nx_set, H.nx_bump] at hqn)))) | ((with_reducible refine ik_g ?_); first | ((with_reducible refine ig_move ?_); refine wo_grun rfl rfl rfl (op_move rfl) rfl rfl ?_) | ((with_reducible refine ig_bin ?_); refine wo_grun rfl rfl rfl (op_eql rfl rfl) rfl rfl ?_) | ((with_reducible refine ig_callF (f := 10) ?_); refine wo_grun rfl rfl rfl (op_call rfl rfl (c10)) rfl rfl ?_) | ((with_reducible refine ig_callv ?_); first | (refine wo_gcall rfl rfl rfl rfl rfl rfl (q22 _ _ (sp.grow gr_A) wf_A) rfl rfl ?_; rintro _ _ ⟨s1, hq⟩; all_goals ((try (have hqn := hq.nx)); (try simp only [H.nx_push, H.nx_set, H.nx_bump] at hqn))) | (refine wo_gcall rfl rfl rfl rfl rfl rfl (q21 _ _ _ (s1.grow gr_A) .nil wf_A) rfl rfl ?_; rintro _ _ ⟨rfl, hq⟩; all_goals ((try (have hqn := hq.nx)); (try simp only [H.nx_push, H.nx_set, H.nx_bump] at hqn)))) | (refine wo_gsplit rfl rfl rfl (fun hb => ?_) (fun hb => ?_) <;> (try simp only [decide_eq_true_eq, decide_eq_false_iff_not, Bool.not_eq_true', Bool.not_eq_false', Int.not_lt, Int.not_le, Decidable.not_not, not_true_eq_false, not_false_eq_true, beq_self_eq_true, reduceCtorEq] at hb) <;> (try (exfalso; omega))))) | with_reducible refine sq_norm ?_ | with_reducible refine wc_seq ?_ | with_reducible refine wc_region ?_ | with_reducible refine wc_skip ?_ | with_reducible refine wc_ret ?_ | (refine wc_if rfl (fun hb => ?_) (fun hb => ?_) <;> (try simp only [decide_eq_true_eq, decide_eq_false_iff_not, Bool.not_eq_true', Bool.not_eq_false', Int.not_lt, Int.not_le, Decidable.not_not, not_true_eq_false, not_false_eq_true, beq_self_eq_true, reduceCtorEq] at hb) <;> (try (exfalso; omega))))
      all_goals exact rq1 rfl ⟨rfl, gr_A⟩
end Go.Proofs.YtnkmencbnoipmaaGreatDoor
