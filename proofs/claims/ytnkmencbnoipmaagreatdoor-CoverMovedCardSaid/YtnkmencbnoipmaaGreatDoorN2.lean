/- Cover: the coverage and the folds by the program. -/
import Derived.Test.YtnkmencbnoipmaaGreatDoorN1
set_option linter.all false
/- The coverage by the program. -/
namespace Go.Proofs.YtnkmencbnoipmaaGreatDoor
open Go Go.Ab Go.Fl
attribute [local irreducible] SeqQ BlkQ LpQ RetQ Wc Wo WD WX Op1 Op1q Op1a Cf Cl From
attribute [local irreducible] Ieee.Format.order Ieee.Format.read Ieee.Format.nearest Ieee.Format.write Ieee.Format.mul Ieee.Format.div Ieee.Format.sqrt Ieee.Datum.order Ieee.Datum.integral K U rngE errN cntE cmpI indE ptE plaE firstNZ numsE lnE BigP isNameB nmE ascA errL chgV chgE griE clsE clsG sqD binI covP covV hit outI plsP rowP
set_option maxRecDepth 10000
variable {G : Base} {h : H}

structure CoB (h : H) (B3 B4 E B7 : Nat) : Prop where
  z : h.nx ≤ B3 ∧ h.nx ≤ B4 ∧ h.nx ≤ E ∧ h.nx ≤ B7
  n1 : B3 ≠ E
  n2 : B4 ≠ E
  n3 : B7 ≠ E
set_option maxHeartbeats 8000000 in
theorem c100 {ox oy w u p q : Int} {va v : Value} {m B N n : Nat} {cl : List Int} {ts : List LnM} (g : GrOk ox oy w u p q) (hB : p * q = (B : Int)) (hB1 : 1 ≤ B) (hB2 : B ≤ 256) (hN : B * m = N) (sc : Sl G h 1 va m (cl.map (.int .i64))) (hm1 : 1 ≤ m) (hm8 : m ≤ 8) (s : SlN G h v n ts) (hn : n ≤ 32) (hok : ∀ t ∈ ts, errL t.V = 0) (hr : ∀ t ∈ ts, t.V.rf.length < 1000000) (hw : Wf h) : Cf (mz G) (.func (.func 100) #[] #[]) [.agg ⟨[.int .i64 ox, .int .i64 oy, .int .i64 w, .int .i64 u, .int .i64 p, .int .i64 q]⟩, va, v] h fun r h' => OwI h.nx h' r (covV ox oy w u p q cl N (vsOf ts)) ∧ Grow h h' := by
  obtain ⟨ca, cc, rfl⟩ := sc.form
  obtain ⟨a0, c0, rfl⟩ := s.sl.form
  have hlen := s.len
  have hcl := sc.length
  simp at hcl
  have hNm : B * m ≤ 256 * 8 := Nat.mul_le_mul hB2 hm8
  have hmul : (B : Int) * (m : Int) = (N : Int) := by rw [← hN]; exact (Int.natCast_mul B m).symm
  have q140 := fun (h' : H) (w' : Wf h') => c140 (G := G) (h := h') g w'
  rw [hB] at q140
  rw [hN] at hNm
  refine cf_enter0 53 [.tmp 6] Tryz.func100 rfl rfl rfl rfl ?_
  repeat' (first | with_reducible refine wo_nil ?_ | ((with_reducible refine wo_any ?_); first | ((with_reducible refine ik_move ?_); refine wo_op rfl (op_move rfl) rfl rfl ?_) | ((with_reducible refine ik_assign ?_); refine wo_op rfl (op_assign rfl) rfl rfl ?_) | ((with_reducible refine ik_box ?_); first | refine wo_op rfl (op_boxAgg rfl zs32 rfl) rfl rfl ?_ | refine wo_op rfl (op_box1 rfl rfl zs41) rfl rfl ?_) | ((with_reducible refine ik_callb ?_); refine wo_op rfl (op_lenSl rfl Tryz.underlying35) rfl rfl ?_)) | ((with_reducible refine xk_any ?_); first | ((with_reducible refine xk_as0 ?_); first | ((with_reducible refine xk_makeSlice ?_); refine wx_a0 (wt_none rfl) rfl (oa_mkSlI N rfl rfl hmul Tryz.underlying41 zs3 zb3 zz3 rfl (by omega) (by omega)) rfl rfl ?_) | ((with_reducible refine xk_load ?_); first | refine wx_h0 (wt_none rfl) rfl (op_q rfl (op_ldAgg rfl at_A Tryz.underlying32 rfl zs32 rfl rfl)) rfl rfl rfl ?_ | refine wx_h0 (wt_none rfl) rfl (op_q rfl (op_ldAt rfl at_A Tryz.underlying41 rfl rfl)) rfl rfl rfl ?_) | ((with_reducible refine xk_callb ?_); refine wx_q (wt_none rfl) rfl rfl (op_q rfl (op_lenSl rfl Tryz.underlying41)) rfl rfl rfl ?_) | ((with_reducible refine xk_bin ?_); refine wx_q (wt_none rfl) rfl rfl (op_q rfl (op_mul' rfl rfl (w64 (by omega) (by omega)))) rfl rfl rfl ?_) | ((with_reducible refine xk_callv ?_); (refine wx_call0 (wt_none rfl) rfl rfl rfl rfl (q140 _ wf_A) rfl rfl ?_; rintro _ _ ⟨rfl, hq⟩; all_goals ((try (have hqn := hq.nx)); (try simp only [H.nx_push, H.nx_set, H.nx_bump] at hqn))))) | ((with_reducible refine xk_alloc ?_); refine wx_a (wt_none rfl) rfl rfl (oa_alloc zz41 zs41 rfl rfl rfl) rfl rfl rfl ?_) | refine wx_niln ?_ ?_ rfl rfl ?_) | with_reducible exact obl_nil | with_reducible refine obl_cons ?_ ?_ | ((with_reducible refine ik_obs ?_); first | exact obs_nil | refine obs_skip rfl ?_ | refine obs_chkn rfl rfl (op_q rfl (op_ldAgg rfl at_A Tryz.underlying32 rfl zs32 (by rfl) rfl)) ?_ | refine obs_chkn rfl rfl (op_q rfl (op_ldAt rfl at_A Tryz.underlying41 rfl (by rfl))) ?_) | with_reducible exact stk_nil | with_reducible refine stk_cons ?_ ?_ | ((with_reducible refine ik_stk ?_); first | exact stk_abs rfl rfl | exact stk_freeB rfl rfl wf_A gr_B) | with_reducible refine sq_norm ?_ | with_reducible refine wc_seq ?_ | with_reducible refine wc_region ?_ | with_reducible refine wc_block ?_ | refine wc_drawB (id := 1) 8 [0, 1, 0, 4, 15, 31, 0, 127] [0, 1, 2, 3, 4, 5, 6, 7] (by kernel_rfl) (by kernel_rfl) rfl rfl ?_ | ((with_reducible refine xk_any ?_); (with_reducible refine xk_store ?_); refine wx_e02 (wt_none rfl) rfl rfl rfl rfl (op_stIdx (o := 0) rfl rfl at_A rfl zs41 (by decide) rfl List.set_cons_zero) rfl ?_))
  refine wc_cut (ι := Nat × Nat × Nat × Nat) (fun b => [(3, .pointer (some ⟨b.1, 0, some 0⟩)), (4, .pointer (some ⟨b.2.1, 0, some 0⟩)), (7, .pointer (some ⟨b.2.2.2, 0, some 0⟩)), (19, .slice a0 n c0), (20, .int .i64 n), (21, .int .i64 0)]) (fun b h' => CoB h b.1 b.2.1 b.2.2.1 b.2.2.2 ∧ Wf h' ∧ Grow h h' ∧ At h' b.1 (.cells [.int .i64 ox, .int .i64 oy, .int .i64 w, .int .i64 u, .int .i64 p, .int .i64 q] 32 6 false) ∧ At h' b.2.1 (.cells [.slice ca m cc] 41 1 false) ∧ At h' b.2.2.2 (.cells [.slice (some ⟨b.2.2.1, 0, some 0⟩) N N] 41 1 false) ∧ At h' b.2.2.1 (.cells ((List.replicate N (0 : Int)).map (.int .i64)) 3 1 false)) (h.nx, h.nx + 1, ((h.push (.cells [.int .i64 ox, .int .i64 oy, .int .i64 w, .int .i64 u, .int .i64 p, .int .i64 q] 32 6 false)).push (.cells [.slice ca m cc] 41 1 false)).nx + 5, ((h.push (.cells [.int .i64 ox, .int .i64 oy, .int .i64 w, .int .i64 u, .int .i64 p, .int .i64 q] 32 6 false)).push (.cells [.slice ca m cc] 41 1 false)).nx + 6) (within_lk ⟨rfl, rfl, rfl, rfl, rfl, rfl, trivial⟩) ⟨⟨by simp only [H.nx_push]; omega, by simp only [H.nx_push]; omega, by simp only [H.nx_push]; omega, by simp only [H.nx_push]; omega⟩, wf_A, gr_A, by dsimp only; exact at_A, by dsimp only; exact at_A, by dsimp only; exact at_A, by rw [List.map_replicate]; dsimp only; exact at_A⟩ ?_
  clear q140 hw
  rintro ⟨B3, B4, E, B7⟩ h1 ⟨hb, w1, g1, a3, a4, a7, ae⟩
  dsimp only at hb a3 a4 a7 ae ⊢
  refine wc_loop (fun k => n - k) (fun k : Nat => [(3, .pointer (some ⟨B3, 0, some 0⟩)), (4, .pointer (some ⟨B4, 0, some 0⟩)), (7, .pointer (some ⟨B7, 0, some 0⟩)), (19, .slice a0 n c0), (20, .int .i64 n), (21, .int .i64 k)]) (fun k h' => (Wf h' ∧ Grow h h' ∧ At h' B3 (.cells [.int .i64 ox, .int .i64 oy, .int .i64 w, .int .i64 u, .int .i64 p, .int .i64 q] 32 6 false) ∧ At h' B4 (.cells [.slice ca m cc] 41 1 false) ∧ At h' B7 (.cells [.slice (some ⟨E, 0, some 0⟩) N N] 41 1 false) ∧ At h' E (.cells ((covV ox oy w u p q cl N (vsOf (ts.take k))).map (.int .i64)) 3 1 false)) ∧ k ≤ n) 0 (within_lk ⟨rfl, rfl, rfl, rfl, rfl, rfl, trivial⟩) ⟨⟨w1, g1, a3, a4, a7, by rw [show vsOf (ts.take 0) = [] from rfl, covV_nil]; exact ae⟩, Nat.zero_le _⟩ ?_
  clear w1 g1 a3 a4 a7 ae
  rintro k h1 ⟨⟨w1, g1, a3, a4, a7, ae⟩, hk⟩
  obtain ⟨⟨hb1, hb2, hb3, hb4⟩, n1, n2, n3⟩ := hb
  have l3 := a3.lt
  have l4 := a4.lt
  have l7 := a7.lt
  have le := ae.lt
  by_cases hlt : k < n
  · obtain ⟨ad, i1, i3⟩ := slN_at (s.grow g1) Tryz.underlying35 zs43 (i := (k : Int)) hlt rfl
    have ho := (s.grow g1).ok _ (List.getElem_mem (by omega : k < ts.length))
    have ho0 := s.ok _ (List.getElem_mem (by omega : k < ts.length))
    have hr1 := hr _ (List.getElem_mem (by omega : k < ts.length))
    have he1 := hok _ (List.getElem_mem (by omega : k < ts.length))
    have e1 : vsOf (ts.take (k + 1)) = vsOf (ts.take k) ++ [(ts[k]'(by omega)).V] := by
      unfold vsOf; rw [List.take_succ_eq_append_getElem (by omega), List.map_append, List.map_singleton]
    have hin0 : AllIn 32768 (covV ox oy w u p q cl N (vsOf (ts.take k))) := (covV_in (fun V hV => by
      unfold vsOf at hV
      obtain ⟨t, ht, rfl⟩ := List.mem_map.1 hV
      exact hok t (List.mem_of_mem_take ht))).le (by unfold vsOf; rw [List.length_map, List.length_take]; omega)
    have hl0 : (covV ox oy w u p q cl N (vsOf (ts.take k))).length = N := covV_len
    have e2 := covV_snoc (ox := ox) (oy := oy) (w := w) (u := u) (p := p) (q := q) (cl := cl) (N := N) (vs := vsOf (ts.take k)) (V := (ts[k]'(by omega)).V)
    rw [← e1] at e2
    obtain ⟨L0, hL0⟩ : ∃ L, covV ox oy w u p q cl N (vsOf (ts.take k)) = L := ⟨_, rfl⟩
    rw [hL0] at ae hin0 hl0 e2
    obtain ⟨t, ht⟩ : ∃ t, ts[k]'(by omega) = t := ⟨_, rfl⟩
    rw [ht] at i3 ho ho0 hr1 he1 e2
    obtain ⟨⟨nm, x, y, tx, ty, sh, nx, ny, px, py, ch, rf⟩, ta, tc⟩ := t
    obtain ⟨so⟩ := ho
    obtain ⟨so0⟩ := ho0
    dsimp only at i3 so so0 hr1 he1 e2
    rw [errL_eq] at he1
    obtain ⟨sh, ch, rfl, rfl, _, _, bd⟩ := nums_lnok (lnE_inv he1).2.1
    have hbig := (lnE_inv he1).2.2.2
    clear he1 hL0 ht e1 hok hr
    have hS := bd.hS
    have hC := bd.hC
    have q73 := fun (h' : H) => c73 (G := G) (h := h') (nm := nm) (x := x) (y := y) (tx := tx) (ty := ty) (sh := sh) (nx := nx) (ny := ny) (px := px) (py := py) (ch := ch) (a := ta) (n := rf.length) (c := tc) (rf := rf)
    repeat' (first | with_reducible refine wo_nil ?_ | ((with_reducible refine wo_any ?_); first | ((with_reducible refine ik_indexAddr ?_); refine wo_op rfl (op_indexAddr rfl rfl i1) rfl rfl ?_) | ((with_reducible refine ik_load ?_); first | refine wo_op rfl (op_ldLn rfl Tryz.underlying43 rfl zs43 i3.all) rfl rfl ?_ | refine wo_op rfl (op_ldAgg rfl at_A Tryz.underlying43 rfl zs43 rfl rfl) rfl rfl ?_) | ((with_reducible refine ik_bin ?_); refine wo_op rfl (op_lss rfl rfl) rfl rfl ?_) | ((with_reducible refine ik_alloc ?_); refine wo_op rfl (op_alloc zz43 zs43 rfl rfl rfl) rfl rfl ?_) | ((with_reducible refine ik_store ?_); refine wo_op0 rfl (op_stAgg rfl rfl at_A zs43 rfl rfl rfl rfl) rfl ?_) | ((with_reducible refine ik_callv ?_); (refine wo_call rfl rfl rfl rfl (q73 _) rfl rfl ?_; rintro _ _ ⟨rfl, rfl⟩; all_goals ((try (have hqn := hq.nx)); (try simp only [H.nx_push, H.nx_set, H.nx_bump] at hqn))))) | with_reducible refine sq_norm ?_ | with_reducible refine wc_seq ?_ | with_reducible refine wc_region ?_ | with_reducible refine wc_skip ?_ | with_reducible refine wc_block ?_ | (refine wc_if rfl (fun hb => ?_) (fun hb => ?_) <;> (try simp only [decide_eq_true_eq, decide_eq_false_iff_not, Bool.not_eq_true', Bool.not_eq_false', Int.not_lt, Int.not_le, Decidable.not_not, not_true_eq_false, not_false_eq_true, beq_self_eq_true, reduceCtorEq] at hb) <;> (try (exfalso; omega))))
    refine wc_cut (ι := Nat) (fun bb => [(3, .pointer (some ⟨B3, 0, some 0⟩)), (4, .pointer (some ⟨B4, 0, some 0⟩)), (7, .pointer (some ⟨B7, 0, some 0⟩)), (19, .slice a0 n c0), (20, .int .i64 n), (21, .int .i64 k), (26, plF bb)]) (fun bb h' => (Wf h' ∧ Grow h h' ∧ At h' B3 (.cells [.int .i64 ox, .int .i64 oy, .int .i64 w, .int .i64 u, .int .i64 p, .int .i64 q] 32 6 false) ∧ At h' B4 (.cells [.slice ca m cc] 41 1 false) ∧ At h' B7 (.cells [.slice (some ⟨E, 0, some 0⟩) N N] 41 1 false) ∧ At h' E (.cells (L0.map (.int .i64)) 3 1 false)) ∧ At h' bb (.cells (lnC nm x y tx ty sh nx ny px py ch ta rf.length tc) 43 12 false)) _ (within_lk ⟨rfl, rfl, rfl, rfl, rfl, rfl, rfl, trivial⟩) ⟨⟨wf_A, gr_A, at_A, at_A, at_A, at_A⟩, at_A⟩ ?_
    clear w1 a3 a4 a7 ae q73 i1 i3
    rintro bb h0 ⟨⟨w1, g0, a3, a4, a7, ae⟩, ab⟩
    have l3 := a3.lt
    have l4 := a4.lt
    have l7 := a7.lt
    have le := ae.lt
    have lb := ab.lt
    have g0n := g0.nx
    have nE : bb ≠ E := fun q => by
      subst q
      have := ab.get.symm.trans ae.get
      injection this with this
      injection this with _ this
      exact absurd this (by decide)
    refine wc_rangeFunc2 rfl fun e0 lp he hlp => ?_
    refine (c130 (N := h0.nx + 1) (nm := nm) (a := ta) (n := rf.length) (c := tc) (rf := rf) (fun i k g => (Wf g ∧ Grow h g ∧ h0.nx + 1 ≤ g.nx) ∧ At g bb (.cells (lnC nm x y tx ty sh nx ny px py ch ta rf.length tc) 43 12 false) ∧ At g h0.nx lp ∧ At g B3 (.cells [.int .i64 ox, .int .i64 oy, .int .i64 w, .int .i64 u, .int .i64 p, .int .i64 q] 32 6 false) ∧ At g B4 (.cells [.slice ca m cc] 41 1 false) ∧ At g B7 (.cells [.slice (some ⟨E, 0, some 0⟩) N N] 41 1 false) ∧ At g E (.cells ((covP ox oy w u p q cl L0 (outI x y tx ty nx ny px py rf ch i k)).map (.int .i64)) 3 1 false)) hr1 bd ?_ (by omega) ?_ ?_ ?_ ?_ ?_).mono ?_
    · rintro i k g ⟨⟨w, gr, nx'⟩, b', _⟩
      exact ⟨b', nx', w, so0.grow gr⟩
    · rintro i k g g' ⟨⟨w, gr, nx'⟩, yc1, yc2, yc3, yc4, yc7, ce⟩ st ww
      exact ⟨⟨ww, st.grow _ (by omega) gr, st.nx⟩, st.at' _ _ (.inl (by omega)) yc1, st.at' _ _ (.inl (by omega)) yc2, st.at' _ _ (.inl (by omega)) yc3, st.at' _ _ (.inl (by omega)) yc4, st.at' _ _ (.inl (by omega)) yc7, st.at' _ _ (.inl (by omega)) ce⟩
    · rintro i g hi ⟨q1, q2, q3, q4, q5, q6, q7⟩
      exact ⟨q1, q2, q3, q4, q5, q6, by rw [← outI_row]; exact q7⟩
    · rintro i k g hi hk hin ⟨q1, q2, q3, q4, q5, q6, q7⟩
      exact ⟨q1, q2, q3, q4, q5, q6, by rw [outI_in hin]; exact q7⟩
    · rintro i k g' hi hk hin ⟨⟨wg, gr, nx'⟩, yc1, yc2, yc3, yc4, yc7, ce⟩
      have grn := gr.nx
      have lc1 := yc1.lt
      have lc2 := yc2.lt
      have lc3 := yc3.lt
      have lc4 := yc4.lt
      have lc7 := yc7.lt
      have lce := ce.lt
      have hlen := outI_len (x := x) (y := y) (tx := tx) (ty := ty) (nx := nx) (ny := ny) (px := px) (py := py) (rf := rf) (ch := ch) (i := i) (k := k) (by omega) (by omega) (by omega)
      have nxt := outI_out (x := x) (y := y) (tx := tx) (ty := ty) (nx := nx) (ny := ny) (px := px) (py := py) (ch := ch) (k := k) hin
      obtain ⟨⟨ha, hb⟩, hc, hd⟩ := pl_in hbig hi hk
      obtain ⟨out, hout⟩ : ∃ l, (outI x y tx ty nx ny px py rf ch i k) = l := ⟨_, rfl⟩
      rw [hout] at nxt ce hlen
      obtain ⟨P, hP⟩ : ∃ P, plAt x y tx ty nx ny px py i k = P := ⟨_, rfl⟩
      rw [hP] at nxt ha hb hc hd
      have hln : (covP ox oy w u p q cl L0 out).length = N := by rw [covP_len]; exact hl0
      have hav := (covP_in (ox := ox) (oy := oy) (w := w) (u := u) (p := p) (q := q) (cl := cl) (ps := out) hin0).le (K := 65536) (by omega)
      have stp := covP_snoc (ox := ox) (oy := oy) (w := w) (u := u) (p := p) (q := q) (cl := cl) (l := L0) (ps := out) (P := P)
      rw [← nxt] at stp
      obtain ⟨L, hL⟩ : ∃ L, covP ox oy w u p q cl L0 out = L := ⟨_, rfl⟩
      rw [hL] at hln hav stp ce
      unfold stepP at stp
      rw [hcl] at stp
      unfold plAt at hP
      clear hout hL nxt hlen hin hbig
      generalize x + (i : Int) * tx = X at hP ⊢
      generalize y + (i : Int) * ty = Z at hP ⊢
      generalize X + 1 * nx + (k : Int) * px = U at hP ⊢
      generalize Z + 1 * ny + (k : Int) * py = V at hP ⊢
      subst hP
      dsimp only at ha hb hc hd stp
      have q108 := fun (h' : H) (w' : Wf h') => c108 (G := G) (h := h') g.o1 g.o2 g.w1 g.w2 g.u1 g.u2 g.p1 g.p2 g.q1 g.q2 ha hb hc hd w'
      have q110 := fun (h' : H) (r : Grow h h') (w' : Wf h') => c110 (sc.grow r) (by omega) ha hb hc hd w'
      have rb := bin_rng (a := X) (b := Z) (c := U) (d := V) g hB
      have rk := cls_rng0 cl (sqD X Z U V)
      rw [hcl] at rk
      obtain ⟨bn, hbn⟩ : ∃ b, binI ox oy w u p q X Z U V = b := ⟨_, rfl⟩
      obtain ⟨kn, hkn⟩ : ∃ b, clsG cl (sqD X Z U V) 0 = b := ⟨_, rfl⟩
      rw [hbn] at q108 rb stp
      rw [hkn] at q110 rk stp
      clear hbn hkn ha hb hc hd
      subst hlp
      refine cf_round yc2.get he rfl rfl ?_
      repeat' (first | with_reducible refine wo_nil ?_ | ((with_reducible refine wo_any ?_); first | ((with_reducible refine ik_alloc ?_); refine wo_op rfl (op_alloc zz81 zs81 rfl rfl rfl) rfl rfl ?_) | ((with_reducible refine ik_store ?_); refine wo_op0 rfl (op_stAgg rfl rfl at_A zs81 rfl rfl rfl rfl) rfl ?_)) | with_reducible refine wc_region ?_)
      refine ⟨rfl, _, _, _, _, _, At.get (b := h0.nx) (o := .loop .ready none e0 _ _ _) at_A, ?_⟩
      by_cases hh : 0 ≤ bn ∧ 0 ≤ kn
      · obtain ⟨hh1, hh2⟩ := hh
        obtain ⟨o, ho1, ho2⟩ := hit_idx hh1 hh2 rb.2 rk.2 hN
        have hm0 : 0 ≤ bn * (m : Int) := Int.mul_nonneg hh1 (by omega)
        rw [hit_at hh1 hh2 ho1] at stp
        have hgt := map_getI (l := L) (o := o) (by omega)
        have hav := hav.getD o
        have hst := map_setI (l := L) (o := o) (x := L.getD o 0 + 1)
        rw [← stp] at hst
        generalize L.getD o 0 = z at hgt hav hst
        repeat' (first | with_reducible refine wo_nil ?_ | ((with_reducible refine wo_any ?_); first | ((with_reducible refine ik_move ?_); refine wo_op rfl (op_move rfl) rfl rfl ?_) | ((with_reducible refine ik_indexAddr ?_); refine wo_op rfl (op_idxSl (b := E) (o := o) rfl rfl Tryz.underlying41 zs3 (by omega) (by omega) (by omega)) rfl rfl ?_) | ((with_reducible refine ik_load ?_); first | refine wo_op rfl (op_ldIdx (b := E) rfl at_A Tryz.underlying3 rfl hgt) rfl rfl ?_ | refine wo_op rfl (op_ldAt rfl at_A Tryz.underlying41 rfl rfl) rfl rfl ?_) | ((with_reducible refine ik_store ?_); refine wo_op0 rfl (op_stIdx (b := E) rfl rfl at_A rfl zs3 (by rw [List.length_map]; omega) rfl hst) rfl ?_) | ((with_reducible refine ik_callb ?_); refine wo_op rfl (op_lenSl rfl Tryz.underlying41) rfl rfl ?_) | ((with_reducible refine ik_bin ?_); first | refine wo_op rfl (op_mul' rfl rfl (w64 (by omega) (by omega))) rfl rfl ?_ | refine wo_op rfl (op_geq rfl rfl) rfl rfl ?_ | refine wo_op rfl (op_add' rfl rfl (w64 (by omega) (by omega))) rfl rfl ?_) | ((with_reducible refine ik_pick ?_); refine wo_op rfl (op_pickt rfl rfl) rfl rfl ?_) | ((with_reducible refine ik_g ?_); first | ((with_reducible refine ig_move ?_); refine wo_grun rfl rfl rfl (op_move rfl) rfl rfl ?_) | ((with_reducible refine ig_bin ?_); refine wo_grun rfl rfl rfl (op_geq rfl rfl) rfl rfl ?_) | (refine wo_gsplit rfl rfl rfl (fun hb => ?_) (fun hb => dead_A hb); (try simp only [decide_eq_true_eq, decide_eq_false_iff_not, Bool.not_eq_true', Bool.not_eq_false', Int.not_lt, Int.not_le, Decidable.not_not, not_true_eq_false, not_false_eq_true, beq_self_eq_true, reduceCtorEq] at hb)))) | ((with_reducible refine xk_any ?_); ((with_reducible refine xk_as0 ?_); first | ((with_reducible refine xk_assign ?_); refine wx_q (wt_none rfl) rfl rfl (op_q rfl (op_assign rfl)) rfl rfl rfl ?_) | ((with_reducible refine xk_load ?_); first | refine wx_h0 (wt_none rfl) rfl (op_q rfl (op_ldAgg rfl at_A Tryz.underlying32 rfl zs32 rfl rfl)) rfl rfl rfl ?_ | refine wx_h0 (wt_none rfl) rfl (op_q rfl (op_ldAt rfl at_A Tryz.underlying41 rfl rfl)) rfl rfl rfl ?_ | refine wx_h0 (wt_none rfl) rfl (op_q rfl (op_ldAgg rfl at_A Tryz.underlying81 rfl zs81 rfl rfl)) rfl rfl rfl ?_) | ((with_reducible refine xk_callv ?_); first | (refine wx_call0 (wt_none rfl) rfl rfl rfl rfl (q108 _ wf_A) rfl rfl ?_; rintro _ _ ⟨rfl, hq⟩; all_goals ((try (have hqn := hq.nx)); (try simp only [H.nx_push, H.nx_set, H.nx_bump] at hqn))) | (refine wx_call0 (wt_none rfl) rfl rfl rfl rfl (q110 _ gr_A wf_A) rfl rfl ?_; rintro _ _ ⟨rfl, hq⟩; all_goals ((try (have hqn := hq.nx)); (try simp only [H.nx_push, H.nx_set, H.nx_bump] at hqn)))) | with_reducible refine wx_nil0 ?_ ?_)) | with_reducible exact obl_nil | with_reducible refine obl_cons ?_ ?_ | ((with_reducible refine ik_obs ?_); first | exact obs_nil | refine obs_skip rfl ?_ | refine obs_chkn rfl rfl (op_q rfl (op_ldAgg rfl at_A Tryz.underlying32 rfl zs32 (by rfl) rfl)) ?_ | refine obs_chkn rfl rfl (op_q rfl (op_ldAt rfl at_A Tryz.underlying41 rfl (by rfl))) ?_ | refine obs_chkn rfl rfl (op_q rfl (op_ldAgg rfl at_A Tryz.underlying81 rfl zs81 (by rfl) rfl)) ?_) | with_reducible refine sq_norm ?_ | with_reducible refine wc_seq ?_ | with_reducible refine wc_region ?_ | with_reducible refine wc_block ?_ | with_reducible refine bq_norm ?_ | (refine wc_if rfl (fun hb => ?_) (fun hb => dead_A hb); (try simp only [decide_eq_true_eq, decide_eq_false_iff_not, Bool.not_eq_true', Bool.not_eq_false', Int.not_lt, Int.not_le, Decidable.not_not, not_true_eq_false, not_false_eq_true, beq_self_eq_true, reduceCtorEq] at hb)) | refine wc_drawB (id := 7) 8 [0, 0, 3, 0, 0, 31, 63, 127] [0, 1, 2, 3, 4, 5, 6, 7] (by kernel_rfl) (by kernel_rfl) rfl rfl ?_)
        refine ⟨_, _, _, _, _, _, At.get (b := h0.nx) (o := .loop .busy none e0 _ _ _) at_A, ⟨rfl, ⟨⟨wf_A, gr_A, ?_⟩, at_A, at_A, at_A, at_A, at_A, at_A⟩, ?_⟩⟩
        · simp only [H.nx_push, H.nx_set, H.nx_bump, H.nx_kill]; omega
        · exact fun b' o hb kp ha => by have lb := ha.lt; exact at_A
      · rw [hit_no hh] at stp
        by_cases h0b : 0 ≤ bn
        · have h0k : ¬0 ≤ kn := fun q => hh ⟨h0b, q⟩
          repeat' (first | with_reducible refine wo_nil ?_ | ((with_reducible refine wo_any ?_); first | ((with_reducible refine ik_move ?_); refine wo_op rfl (op_move rfl) rfl rfl ?_) | ((with_reducible refine ik_bin ?_); refine wo_op rfl (op_geq rfl rfl) rfl rfl ?_) | ((with_reducible refine ik_pick ?_); refine wo_op rfl (op_pickt rfl rfl) rfl rfl ?_) | ((with_reducible refine ik_g ?_); first | ((with_reducible refine ig_move ?_); refine wo_grun rfl rfl rfl (op_move rfl) rfl rfl ?_) | ((with_reducible refine ig_bin ?_); refine wo_grun rfl rfl rfl (op_geq rfl rfl) rfl rfl ?_) | (refine wo_gsplit rfl rfl rfl (fun hb => ?_) (fun hb => dead_A hb); (try simp only [decide_eq_true_eq, decide_eq_false_iff_not, Bool.not_eq_true', Bool.not_eq_false', Int.not_lt, Int.not_le, Decidable.not_not, not_true_eq_false, not_false_eq_true, beq_self_eq_true, reduceCtorEq] at hb)))) | ((with_reducible refine xk_any ?_); ((with_reducible refine xk_as0 ?_); first | ((with_reducible refine xk_assign ?_); refine wx_q (wt_none rfl) rfl rfl (op_q rfl (op_assign rfl)) rfl rfl rfl ?_) | ((with_reducible refine xk_load ?_); first | refine wx_h0 (wt_none rfl) rfl (op_q rfl (op_ldAgg rfl at_A Tryz.underlying32 rfl zs32 rfl rfl)) rfl rfl rfl ?_ | refine wx_h0 (wt_none rfl) rfl (op_q rfl (op_ldAt rfl at_A Tryz.underlying41 rfl rfl)) rfl rfl rfl ?_ | refine wx_h0 (wt_none rfl) rfl (op_q rfl (op_ldAgg rfl at_A Tryz.underlying81 rfl zs81 rfl rfl)) rfl rfl rfl ?_) | ((with_reducible refine xk_callv ?_); first | (refine wx_call0 (wt_none rfl) rfl rfl rfl rfl (q108 _ wf_A) rfl rfl ?_; rintro _ _ ⟨rfl, hq⟩; all_goals ((try (have hqn := hq.nx)); (try simp only [H.nx_push, H.nx_set, H.nx_bump] at hqn))) | (refine wx_call0 (wt_none rfl) rfl rfl rfl rfl (q110 _ gr_A wf_A) rfl rfl ?_; rintro _ _ ⟨rfl, hq⟩; all_goals ((try (have hqn := hq.nx)); (try simp only [H.nx_push, H.nx_set, H.nx_bump] at hqn)))) | with_reducible refine wx_nil0 ?_ ?_)) | with_reducible exact obl_nil | with_reducible refine obl_cons ?_ ?_ | ((with_reducible refine ik_obs ?_); first | exact obs_nil | refine obs_skip rfl ?_ | refine obs_chkn rfl rfl (op_q rfl (op_ldAgg rfl at_A Tryz.underlying32 rfl zs32 (by rfl) rfl)) ?_ | refine obs_chkn rfl rfl (op_q rfl (op_ldAt rfl at_A Tryz.underlying41 rfl (by rfl))) ?_ | refine obs_chkn rfl rfl (op_q rfl (op_ldAgg rfl at_A Tryz.underlying81 rfl zs81 (by rfl) rfl)) ?_) | with_reducible refine sq_norm ?_ | with_reducible refine wc_seq ?_ | with_reducible refine wc_region ?_ | with_reducible refine wc_skip ?_ | with_reducible refine wc_block ?_ | with_reducible refine bq_norm ?_ | (refine wc_if rfl (fun hb => dead_A hb) (fun hb => ?_); (try simp only [decide_eq_true_eq, decide_eq_false_iff_not, Bool.not_eq_true', Bool.not_eq_false', Int.not_lt, Int.not_le, Decidable.not_not, not_true_eq_false, not_false_eq_true, beq_self_eq_true, reduceCtorEq] at hb)) | refine wc_drawB (id := 7) 8 [0, 0, 3, 0, 0, 31, 63, 127] [0, 1, 2, 3, 4, 5, 6, 7] (by kernel_rfl) (by kernel_rfl) rfl rfl ?_)
          refine ⟨_, _, _, _, _, _, At.get (b := h0.nx) (o := .loop .busy none e0 _ _ _) at_A, ⟨rfl, ⟨⟨wf_A, gr_A, ?_⟩, at_A, at_A, at_A, at_A, at_A, by rw [stp]; exact at_A⟩, ?_⟩⟩
          · simp only [H.nx_push, H.nx_set, H.nx_bump, H.nx_kill]; omega
          · exact fun b' o hb kp ha => by have lb := ha.lt; exact at_A
        · repeat' (first | with_reducible refine wo_nil ?_ | ((with_reducible refine wo_any ?_); first | ((with_reducible refine ik_move ?_); refine wo_op rfl (op_move rfl) rfl rfl ?_) | ((with_reducible refine ik_bin ?_); refine wo_op rfl (op_geq rfl rfl) rfl rfl ?_) | ((with_reducible refine ik_pick ?_); refine wo_op rfl (op_pickf rfl rfl) rfl rfl ?_) | ((with_reducible refine ik_g ?_); first | refine wo_gskip rfl rfl rfl rfl rfl rfl ?_ | (refine wo_gsplit rfl rfl rfl (fun hb => dead_A hb) (fun hb => ?_); (try simp only [decide_eq_true_eq, decide_eq_false_iff_not, Bool.not_eq_true', Bool.not_eq_false', Int.not_lt, Int.not_le, Decidable.not_not, not_true_eq_false, not_false_eq_true, beq_self_eq_true, reduceCtorEq] at hb)))) | ((with_reducible refine xk_any ?_); ((with_reducible refine xk_as0 ?_); first | ((with_reducible refine xk_assign ?_); refine wx_q (wt_none rfl) rfl rfl (op_q rfl (op_assign rfl)) rfl rfl rfl ?_) | ((with_reducible refine xk_load ?_); first | refine wx_h0 (wt_none rfl) rfl (op_q rfl (op_ldAgg rfl at_A Tryz.underlying32 rfl zs32 rfl rfl)) rfl rfl rfl ?_ | refine wx_h0 (wt_none rfl) rfl (op_q rfl (op_ldAt rfl at_A Tryz.underlying41 rfl rfl)) rfl rfl rfl ?_ | refine wx_h0 (wt_none rfl) rfl (op_q rfl (op_ldAgg rfl at_A Tryz.underlying81 rfl zs81 rfl rfl)) rfl rfl rfl ?_) | ((with_reducible refine xk_callv ?_); first | (refine wx_call0 (wt_none rfl) rfl rfl rfl rfl (q108 _ wf_A) rfl rfl ?_; rintro _ _ ⟨rfl, hq⟩; all_goals ((try (have hqn := hq.nx)); (try simp only [H.nx_push, H.nx_set, H.nx_bump] at hqn))) | (refine wx_call0 (wt_none rfl) rfl rfl rfl rfl (q110 _ gr_A wf_A) rfl rfl ?_; rintro _ _ ⟨rfl, hq⟩; all_goals ((try (have hqn := hq.nx)); (try simp only [H.nx_push, H.nx_set, H.nx_bump] at hqn)))) | with_reducible refine wx_nil0 ?_ ?_)) | with_reducible exact obl_nil | with_reducible refine obl_cons ?_ ?_ | ((with_reducible refine ik_obs ?_); first | exact obs_nil | refine obs_skip rfl ?_ | refine obs_chkn rfl rfl (op_q rfl (op_ldAgg rfl at_A Tryz.underlying32 rfl zs32 (by rfl) rfl)) ?_ | refine obs_chkn rfl rfl (op_q rfl (op_ldAt rfl at_A Tryz.underlying41 rfl (by rfl))) ?_ | refine obs_chkn rfl rfl (op_q rfl (op_ldAgg rfl at_A Tryz.underlying81 rfl zs81 (by rfl) rfl)) ?_) | with_reducible refine sq_norm ?_ | with_reducible refine wc_seq ?_ | with_reducible refine wc_region ?_ | with_reducible refine wc_skip ?_ | with_reducible refine wc_block ?_ | with_reducible refine bq_norm ?_ | refine wc_iff rfl ?_ | refine wc_drawB (id := 7) 8 [0, 0, 3, 0, 0, 31, 63, 127] [0, 1, 2, 3, 4, 5, 6, 7] (by kernel_rfl) (by kernel_rfl) rfl rfl ?_)
          refine ⟨_, _, _, _, _, _, At.get (b := h0.nx) (o := .loop .busy none e0 _ _ _) at_A, ⟨rfl, ⟨⟨wf_A, gr_A, ?_⟩, at_A, at_A, at_A, at_A, at_A, by rw [stp]; exact at_A⟩, ?_⟩⟩
          · simp only [H.nx_push, H.nx_set, H.nx_bump, H.nx_kill]; omega
          · exact fun b' o hb kp ha => by have lb := ha.lt; exact at_A
    · exact ⟨⟨wf_A, gr_A, (by simp only [H.nx_push]; omega)⟩, at_A, at_A, at_A, at_A, at_A, by rw [outI_zero, covP_nil]; exact at_A⟩
    · rintro _ g' ⟨⟨wg, gr, nx'⟩, yc1, yc2, yc3, yc4, yc7, ce⟩
      have lc3 := yc3.lt
      have lc4 := yc4.lt
      have lc7 := yc7.lt
      have lce := ce.lt
      rw [outI_end] at ce
      change covV ox oy w u p q cl N (vsOf (ts.take (k + 1))) = covP ox oy w u p q cl L0 (plsP x y tx ty nx ny px py rf ch sh) at e2
      rw [← e2] at ce
      subst hlp
      refine ⟨_, _, _, _, _, _, yc2.get, by simp, ?_⟩
      repeat' (first | with_reducible refine wo_nil ?_ | ((with_reducible refine wo_any ?_); first | ((with_reducible refine ik_move ?_); refine wo_op rfl (op_move rfl) rfl rfl ?_) | ((with_reducible refine ik_bin ?_); refine wo_op rfl (op_add' rfl rfl (w64 (by omega) (by omega))) rfl rfl ?_)) | with_reducible refine sq_norm ?_ | with_reducible refine wc_region ?_ | with_reducible refine bq_norm ?_)
      exact lq_norm (k + 1) (by omega) (within_lk ⟨rfl, rfl, rfl, rfl, rfl, rfl, trivial⟩) ⟨⟨wf_A, gr_A, at_A, at_A, at_A, at_A⟩, by omega⟩
  · have hkn : k = n := by omega
    subst hkn
    rw [List.take_of_length_le (by omega)] at ae
    repeat' (first | with_reducible refine wo_nil ?_ | ((with_reducible refine wo_any ?_); first | ((with_reducible refine ik_assign ?_); refine wo_op rfl (op_assign rfl) rfl rfl ?_) | ((with_reducible refine ik_load ?_); refine wo_op rfl (op_ldAt rfl at_A Tryz.underlying41 rfl rfl) rfl rfl ?_) | ((with_reducible refine ik_bin ?_); refine wo_op rfl (op_lss rfl rfl) rfl rfl ?_)) | with_reducible refine sq_norm ?_ | with_reducible refine wc_seq ?_ | with_reducible refine wc_region ?_ | with_reducible refine wc_ret ?_ | with_reducible refine wc_exit ?_ | with_reducible refine sq_exit ?_ | with_reducible refine lq_exit ?_ | refine bq_eq rfl ?_ | (refine wc_if rfl (fun hb => ?_) (fun hb => ?_) <;> (try simp only [decide_eq_true_eq, decide_eq_false_iff_not, Bool.not_eq_true', Bool.not_eq_false', Int.not_lt, Int.not_le, Decidable.not_not, not_true_eq_false, not_false_eq_true, beq_self_eq_true, reduceCtorEq] at hb) <;> (try (exfalso; omega))))
    refine rq1 rfl ⟨⟨E, by omega, by rw [covV_len], ae⟩, gr_A⟩
end Go.Proofs.YtnkmencbnoipmaaGreatDoor

/- The folds by the program. -/
namespace Go.Proofs.YtnkmencbnoipmaaGreatDoor
open Go Go.Ab Go.Fl
attribute [local irreducible] SeqQ BlkQ LpQ RetQ Wc Wo WD WX Op1 Op1q Op1a Cf Cl From
attribute [local irreducible] Ieee.Format.order Ieee.Format.read Ieee.Format.nearest Ieee.Format.write Ieee.Format.mul Ieee.Format.div Ieee.Format.sqrt Ieee.Datum.order Ieee.Datum.integral K U rngE errN cntE cmpI indE ptE plaE firstNZ numsE lnE BigP isNameB nmE ascA errL chgV chgE griE clsE clsG sqD binI covP covV hit outI plsP rowP
set_option maxRecDepth 10000
variable {G : Base} {h : H}

def fsum (l : List Int) (m b : Nat) : Nat → Int
  | 0 => 0
  | t + 1 => fsum l m b t + l.getD (b * m + t) 0
def part (l : List Int) (m b t c : Nat) : Int := fsum l m c (if c < b then m else if c = b then t else 0)
def partL (l : List Int) (m B b t : Nat) : List Int := (List.range B).map (part l m b t)
def foldL (l : List Int) (m B : Nat) : List Int := partL l m B B 0
theorem partL_len {l : List Int} {m B b t : Nat} : (partL l m B b t).length = B := by simp [partL]
theorem foldL_len {l : List Int} {m B : Nat} : (foldL l m B).length = B := partL_len
theorem partL_getD {l : List Int} {m B b t c : Nat} (hc : c < B) : (partL l m B b t).getD c 0 = part l m b t c := by
  rw [← getElem_getD (by rw [partL_len]; exact hc)]; simp [partL]
theorem part_get {l : List Int} {m B b t : Nat} (hb : b < B) : (partL l m B b t).getD b 0 = fsum l m b t := by
  rw [partL_getD hb]; unfold part; rw [if_neg (by omega), if_pos rfl]
theorem partL_zero {l : List Int} {m B : Nat} : partL l m B 0 0 = List.replicate B 0 := by
  refine List.eq_replicate_iff.2 ⟨partL_len, fun x hx => ?_⟩
  obtain ⟨c, hc, rfl⟩ := List.mem_map.1 hx
  unfold part
  rw [if_neg (by omega)]
  split <;> rfl
theorem partL_row {l : List Int} {m B b : Nat} : partL l m B b m = partL l m B (b + 1) 0 := by
  refine List.map_congr_left fun c hc => ?_
  unfold part
  by_cases h1 : c < b
  · rw [if_pos h1, if_pos (by omega)]
  · by_cases h2 : c = b
    · rw [if_neg h1, if_pos h2, if_pos (by omega)]
    · rw [if_neg h1, if_neg h2, if_neg (by omega)]
      split <;> rfl
theorem partL_set {l : List Int} {m B b t : Nat} : (partL l m B b t).set b (fsum l m b t + l.getD (b * m + t) 0) = partL l m B b (t + 1) := by
  refine List.ext_getElem (by rw [List.length_set, partL_len, partL_len]) fun i h1 h2 => ?_
  rw [List.getElem_set]
  by_cases e : b = i
  · subst e
    rw [if_pos rfl]
    simp only [partL, List.getElem_map, List.getElem_range]
    unfold part
    rw [if_neg (by omega), if_pos rfl]
    rfl
  · rw [if_neg e]
    simp only [partL, List.getElem_map, List.getElem_range]
    unfold part
    by_cases h3 : i < b
    · rw [if_pos h3, if_pos h3]
    · rw [if_neg h3, if_neg h3, if_neg (by omega), if_neg (by omega)]
theorem fsum_in {l : List Int} {m b M : Nat} (h : AllIn M l) : ∀ t, 0 ≤ fsum l m b t ∧ fsum l m b t ≤ (M : Int) * t
  | 0 => by simp [fsum]
  | t + 1 => by
    have ih := fsum_in (m := m) (b := b) h t
    have := h.getD (b * m + t)
    have e : (M : Int) * ((t + 1 : Nat) : Int) = (M : Int) * t + M := by rw [Int.natCast_add, Int.mul_add]; simp
    rw [e, fsum]
    omega
theorem row_le {b B m t : Nat} (hb : b < B) (ht : t < m) : b * m + t < B * m := by
  have := Nat.mul_le_mul_right m (show b + 1 ≤ B by omega)
  rw [Nat.succ_mul] at this
  omega
set_option maxHeartbeats 8000000 in
theorem c101 {ox oy w u p q : Int} {va v : Value} {m B N n : Nat} {cl : List Int} {ts : List LnM} (g : GrOk ox oy w u p q) (hB : p * q = (B : Int)) (hB1 : 1 ≤ B) (hB2 : B ≤ 256) (hN : B * m = N) (sc : Sl G h 1 va m (cl.map (.int .i64))) (hm1 : 1 ≤ m) (hm8 : m ≤ 8) (s : SlN G h v n ts) (hn : n ≤ 32) (hok : ∀ t ∈ ts, errL t.V = 0) (hr : ∀ t ∈ ts, t.V.rf.length < 1000000) (hw : Wf h) : Cf (mz G) (.func (.func 101) #[] #[]) [.agg ⟨[.int .i64 ox, .int .i64 oy, .int .i64 w, .int .i64 u, .int .i64 p, .int .i64 q]⟩, va, v] h fun r h' => OwI h.nx h' r (foldL (covV ox oy w u p q cl N (vsOf ts)) m B) ∧ Grow h h' := by
  have q100 := fun (h' : H) (r : Grow h h') (w' : Wf h') => c100 g hB hB1 hB2 hN (sc.grow r) hm1 hm8 (s.grow r) hn hok hr w'
  have q140 := fun (h' : H) (w' : Wf h') => c140 (G := G) (h := h') g w'
  rw [hB] at q140
  have hC0 := covV_in (ox := ox) (oy := oy) (w := w) (u := u) (p := p) (q := q) (cl := cl) (N := N) (vs := vsOf ts) (fun V hV => by
    unfold vsOf at hV
    obtain ⟨t, ht, rfl⟩ := List.mem_map.1 hV
    exact hok t ht)
  have hC := hC0.le (K := 32768) (by have := s.len; unfold vsOf; rw [List.length_map]; omega)
  have hCl : (covV ox oy w u p q cl N (vsOf ts)).length = N := covV_len
  clear hC0
  have hNm : B * m ≤ 256 * 8 := Nat.mul_le_mul hB2 hm8
  generalize covV ox oy w u p q cl N (vsOf ts) = C at q100 hC hCl ⊢
  obtain ⟨ca, cc, rfl⟩ := sc.form
  clear sc s hok hr
  subst hCl
  refine cf_enter0 46 [.tmp 6] Tryz.func101 rfl rfl rfl rfl ?_
  repeat' (first | with_reducible refine wo_nil ?_ | ((with_reducible refine wo_any ?_); first | ((with_reducible refine ik_move ?_); refine wo_op rfl (op_move rfl) rfl rfl ?_) | ((with_reducible refine ik_assign ?_); refine wo_op rfl (op_assign rfl) rfl rfl ?_) | ((with_reducible refine ik_makeSlice ?_); refine wo_op rfl (op_mkSlI B rfl rfl rfl Tryz.underlying41 zs3 zb3 zz3 rfl (by omega) (by omega)) rfl rfl ?_) | ((with_reducible refine ik_box ?_); refine wo_op rfl (op_boxAgg rfl zs32 rfl) rfl rfl ?_) | ((with_reducible refine ik_load ?_); refine wo_op rfl (op_ldAgg rfl at_A Tryz.underlying32 rfl zs32 rfl rfl) rfl rfl ?_) | ((with_reducible refine ik_callv ?_); first | (refine wo_call rfl rfl rfl rfl (q100 _ gr_A wf_A) rfl rfl ?_; rintro _ _ ⟨⟨e1, hb1, rfl, ae1⟩, hq1⟩; all_goals ((try (have hqn := hq.nx)); (try simp only [H.nx_push, H.nx_set, H.nx_bump] at hqn))) | (refine wo_call rfl rfl rfl rfl (q140 _ wf_A) rfl rfl ?_; rintro _ _ ⟨rfl, hq⟩; all_goals ((try (have hqn := hq.nx)); (try simp only [H.nx_push, H.nx_set, H.nx_bump] at hqn))))) | with_reducible refine sq_norm ?_ | with_reducible refine wc_seq ?_ | with_reducible refine wc_region ?_ | with_reducible refine wc_block ?_)
  rename_i hA hB' hqA hqnA hC'
  refine wc_cut (ι := Nat × Nat × Nat) (fun b => [(1, .slice ca m cc), (3, .pointer (some ⟨b.1, 0, some 0⟩)), (7, .slice (some ⟨b.2.1, 0, some 0⟩) C.length C.length), (8, .slice (some ⟨b.2.2, 0, some 0⟩) B B), (19, .int .i64 B), (20, .int .i64 0)]) (fun b h' => (h.nx ≤ b.1 ∧ h.nx ≤ b.2.1 ∧ h.nx ≤ b.2.2 ∧ b.1 ≠ b.2.2 ∧ b.2.1 ≠ b.2.2) ∧ Wf h' ∧ Grow h h' ∧ At h' b.1 (.cells [.int .i64 ox, .int .i64 oy, .int .i64 w, .int .i64 u, .int .i64 p, .int .i64 q] 32 6 false) ∧ At h' b.2.1 (.cells (C.map (.int .i64)) 3 1 false) ∧ At h' b.2.2 (.cells ((List.replicate B (0 : Int)).map (.int .i64)) 3 1 false)) (h.nx, e1, hB'.nx) (within_lk ⟨rfl, rfl, rfl, rfl, rfl, rfl, trivial⟩) ?_ ?_
  · have l1 := ae1.lt
    simp only [H.nx_push] at hb1
    refine ⟨⟨Nat.le_refl _, by dsimp only; omega, by dsimp only; omega, by dsimp only; omega, by dsimp only; omega⟩, wf_A, gr_A, by dsimp only; exact at_A, by dsimp only; exact at_A, by rw [List.map_replicate]; dsimp only; exact at_A⟩
  clear q140 q100 hw ae1 hb1 hq1
  rintro ⟨B3, E1, E2⟩ h1 ⟨⟨z1, z2, z3, z4, z5⟩, w1, g1, a3, a1, a2⟩
  dsimp only at z1 z2 z3 z4 z5 a3 a1 a2 ⊢
  refine wc_loop (fun b => B - b) (fun b : Nat => [(1, .slice ca m cc), (3, .pointer (some ⟨B3, 0, some 0⟩)), (7, .slice (some ⟨E1, 0, some 0⟩) C.length C.length), (8, .slice (some ⟨E2, 0, some 0⟩) B B), (19, .int .i64 B), (20, .int .i64 b)]) (fun b h' => (Wf h' ∧ Grow h h' ∧ At h' B3 (.cells [.int .i64 ox, .int .i64 oy, .int .i64 w, .int .i64 u, .int .i64 p, .int .i64 q] 32 6 false) ∧ At h' E1 (.cells (C.map (.int .i64)) 3 1 false) ∧ At h' E2 (.cells ((partL C m B b 0).map (.int .i64)) 3 1 false)) ∧ b ≤ B) 0 (within_lk ⟨rfl, rfl, rfl, rfl, rfl, rfl, trivial⟩) ⟨⟨w1, g1, a3, a1, by rw [partL_zero]; exact a2⟩, Nat.zero_le _⟩ ?_
  clear w1 g1 a3 a1 a2
  rintro b h1 ⟨⟨w1, g1, a3, a1, a2⟩, hb⟩
  by_cases hlt : b < B
  · repeat' (first | with_reducible refine wo_nil ?_ | ((with_reducible refine wo_any ?_); first | ((with_reducible refine ik_move ?_); refine wo_op rfl (op_move rfl) rfl rfl ?_) | ((with_reducible refine ik_assign ?_); refine wo_op rfl (op_assign rfl) rfl rfl ?_) | ((with_reducible refine ik_bin ?_); refine wo_op rfl (op_lss rfl rfl) rfl rfl ?_) | ((with_reducible refine ik_callb ?_); refine wo_op rfl (op_lenSl rfl Tryz.underlying41) rfl rfl ?_)) | with_reducible refine sq_norm ?_ | with_reducible refine wc_seq ?_ | with_reducible refine wc_region ?_ | with_reducible refine wc_skip ?_ | with_reducible refine wc_block ?_ | (refine wc_if rfl (fun hb => ?_) (fun hb => ?_) <;> (try simp only [decide_eq_true_eq, decide_eq_false_iff_not, Bool.not_eq_true', Bool.not_eq_false', Int.not_lt, Int.not_le, Decidable.not_not, not_true_eq_false, not_false_eq_true, beq_self_eq_true, reduceCtorEq] at hb) <;> (try (exfalso; omega))))
    refine wc_loop (fun t => m - t) (fun t : Nat => [(1, .slice ca m cc), (3, .pointer (some ⟨B3, 0, some 0⟩)), (7, .slice (some ⟨E1, 0, some 0⟩) C.length C.length), (8, .slice (some ⟨E2, 0, some 0⟩) B B), (19, .int .i64 B), (20, .int .i64 b), (9, .int .i64 b), (24, .int .i64 m), (25, .int .i64 t)]) (fun t h' => (Wf h' ∧ Grow h h' ∧ At h' B3 (.cells [.int .i64 ox, .int .i64 oy, .int .i64 w, .int .i64 u, .int .i64 p, .int .i64 q] 32 6 false) ∧ At h' E1 (.cells (C.map (.int .i64)) 3 1 false) ∧ At h' E2 (.cells ((partL C m B b t).map (.int .i64)) 3 1 false)) ∧ t ≤ m) 0 (within_lk ⟨rfl, rfl, rfl, rfl, rfl, rfl, rfl, rfl, rfl, trivial⟩) ⟨⟨w1, g1, a3, a1, a2⟩, Nat.zero_le _⟩ ?_
    clear w1 g1 a3 a1 a2
    rintro t h1 ⟨⟨w1, g1, a3, a1, a2⟩, ht⟩
    by_cases htm : t < m
    · have l1 := a1.lt
      have l2 := a2.lt
      have l3 := a3.lt
      have hrow := row_le hlt htm
      obtain ⟨R, hR⟩ : ∃ R : Nat, b * m = R := ⟨_, rfl⟩
      have hR' : (b : Int) * (m : Int) = (R : Int) := by rw [← hR]; exact (Int.natCast_mul b m).symm
      have f1 := fsum_in (m := m) (b := b) hC t
      have f2 := hC.getD (b * m + t)
      have hst := map_setI (l := partL C m B b t) (o := b) (x := fsum C m b t + C.getD (b * m + t) 0)
      rw [partL_set] at hst
      have hg1 := map_getI (l := partL C m B b t) (o := b) (by rw [partL_len]; exact hlt)
      rw [part_get hlt] at hg1
      have hg2 := map_getI (l := C) (o := b * m + t) (by omega)
      rw [hR] at hg2 hst f2 hrow
      generalize fsum C m b t = x at f1 hst hg1
      generalize C.getD (R + t) 0 = y at f2 hst hg2
      have hln : (partL C m B b t).length = B := partL_len
      generalize partL C m B b t = P1 at a2 hst hg1 hln
      have f3 : (32768 : Int) * (t : Int) ≤ 32768 * 8 := by omega
      repeat' (first | with_reducible refine wo_nil ?_ | ((with_reducible refine wo_any ?_); first | ((with_reducible refine ik_move ?_); refine wo_op rfl (op_move rfl) rfl rfl ?_) | ((with_reducible refine ik_assign ?_); refine wo_op rfl (op_assign rfl) rfl rfl ?_) | ((with_reducible refine ik_bin ?_); first | refine wo_op rfl (op_lss rfl rfl) rfl rfl ?_ | refine wo_op rfl (op_add' rfl rfl (w64 (by omega) (by omega))) rfl rfl ?_)) | ((with_reducible refine xk_any ?_); ((with_reducible refine xk_as0 ?_); first | ((with_reducible refine xk_move ?_); refine wx_q (wt_none rfl) rfl rfl (op_q rfl (op_move rfl)) rfl rfl rfl ?_) | ((with_reducible refine xk_indexAddr ?_); first | refine wx_q (wt_none rfl) rfl rfl (op_q rfl (op_idxSl (b := E2) (o := b) rfl rfl Tryz.underlying41 zs3 (by omega) (by omega) (by omega))) rfl rfl rfl ?_ | refine wx_q (wt_none rfl) rfl rfl (op_q rfl (op_idxSl (b := E1) (o := R + t) rfl rfl Tryz.underlying41 zs3 (by omega) (by omega) (by omega))) rfl rfl rfl ?_) | ((with_reducible refine xk_load ?_); first | refine wx_h0 (wt_none rfl) rfl (op_q rfl (op_ldIdx (b := E2) rfl at_A Tryz.underlying3 rfl hg1)) rfl rfl rfl ?_ | refine wx_h0 (wt_none rfl) rfl (op_q rfl (op_ldIdx (b := E1) rfl at_A Tryz.underlying3 rfl hg2)) rfl rfl rfl ?_) | ((with_reducible refine xk_store ?_); refine wx_ee0 (wt_none rfl) rfl rfl (op_stIdx (b := E2) rfl rfl at_A rfl zs3 (by rw [List.length_map]; omega) rfl hst) rfl ?_) | ((with_reducible refine xk_bin ?_); first | refine wx_q (wt_none rfl) rfl rfl (op_q rfl (op_mul' rfl rfl (w64 (by omega) (by omega)))) rfl rfl rfl ?_ | refine wx_q (wt_none rfl) rfl rfl (op_q rfl (op_add' rfl rfl (w64 (by omega) (by omega)))) rfl rfl rfl ?_) | ((with_reducible refine xk_callb ?_); refine wx_q (wt_none rfl) rfl rfl (op_q rfl (op_lenSl rfl Tryz.underlying41)) rfl rfl rfl ?_) | with_reducible refine wx_nil0 ?_ ?_)) | with_reducible exact obl_nil | with_reducible refine obl_cons ?_ ?_ | ((with_reducible refine ik_obs ?_); first | exact obs_nil | refine obs_skip rfl ?_ | refine obs_chkn rfl rfl (op_q rfl (op_ldIdx (b := E2) rfl at_A Tryz.underlying3 rfl hg1)) ?_ | refine obs_chkn rfl rfl (op_q rfl (op_ldIdx (b := E1) rfl at_A Tryz.underlying3 rfl hg2)) ?_) | with_reducible refine sq_norm ?_ | with_reducible refine wc_seq ?_ | with_reducible refine wc_region ?_ | with_reducible refine wc_skip ?_ | with_reducible refine wc_block ?_ | with_reducible refine bq_norm ?_ | (refine wc_if rfl (fun hb => ?_) (fun hb => ?_) <;> (try simp only [decide_eq_true_eq, decide_eq_false_iff_not, Bool.not_eq_true', Bool.not_eq_false', Int.not_lt, Int.not_le, Decidable.not_not, not_true_eq_false, not_false_eq_true, beq_self_eq_true, reduceCtorEq] at hb) <;> (try (exfalso; omega))) | refine wc_drawB (id := 9) 16 [0, 0, 3, 7, 0, 0, 0, 64, 224, 0, 992, 2032, 4080, 8191, 16383, 32767] [0, 1, 2, 3, 4, 5, 6, 7, 8, 9, 10, 11, 12, 13, 14, 15] (by kernel_rfl) (by kernel_rfl) rfl rfl ?_)
      exact lq_norm (t + 1) (by omega) (within_lk ⟨rfl, rfl, rfl, rfl, rfl, rfl, rfl, rfl, rfl, trivial⟩) ⟨⟨wf_A, gr_A, at_A, at_A, at_A⟩, by omega⟩
    · have htn : t = m := by omega
      subst htn
      rw [partL_row] at a2
      repeat' (first | with_reducible refine wo_nil ?_ | ((with_reducible refine wo_any ?_); first | ((with_reducible refine ik_move ?_); refine wo_op rfl (op_move rfl) rfl rfl ?_) | ((with_reducible refine ik_bin ?_); first | refine wo_op rfl (op_lss rfl rfl) rfl rfl ?_ | refine wo_op rfl (op_add' rfl rfl (w64 (by omega) (by omega))) rfl rfl ?_)) | with_reducible refine sq_norm ?_ | with_reducible refine wc_seq ?_ | with_reducible refine wc_region ?_ | with_reducible refine wc_exit ?_ | with_reducible refine bq_norm ?_ | with_reducible refine sq_exit ?_ | with_reducible refine lq_exit ?_ | refine bq_eq rfl ?_ | (refine wc_if rfl (fun hb => ?_) (fun hb => ?_) <;> (try simp only [decide_eq_true_eq, decide_eq_false_iff_not, Bool.not_eq_true', Bool.not_eq_false', Int.not_lt, Int.not_le, Decidable.not_not, not_true_eq_false, not_false_eq_true, beq_self_eq_true, reduceCtorEq] at hb) <;> (try (exfalso; omega))))
      exact lq_norm (b + 1) (by omega) (within_lk ⟨rfl, rfl, rfl, rfl, rfl, rfl, trivial⟩) ⟨⟨wf_A, gr_A, at_A, at_A, at_A⟩, by omega⟩
  · have hbn : b = B := by omega
    subst hbn
    repeat' (first | with_reducible refine wo_nil ?_ | ((with_reducible refine wo_any ?_); first | ((with_reducible refine ik_move ?_); refine wo_op rfl (op_move rfl) rfl rfl ?_) | ((with_reducible refine ik_assign ?_); refine wo_op rfl (op_assign rfl) rfl rfl ?_) | ((with_reducible refine ik_bin ?_); refine wo_op rfl (op_lss rfl rfl) rfl rfl ?_)) | with_reducible refine sq_norm ?_ | with_reducible refine wc_seq ?_ | with_reducible refine wc_region ?_ | with_reducible refine wc_ret ?_ | with_reducible refine wc_exit ?_ | with_reducible refine sq_exit ?_ | with_reducible refine lq_exit ?_ | refine bq_eq rfl ?_ | (refine wc_if rfl (fun hb => ?_) (fun hb => ?_) <;> (try simp only [decide_eq_true_eq, decide_eq_false_iff_not, Bool.not_eq_true', Bool.not_eq_false', Int.not_lt, Int.not_le, Decidable.not_not, not_true_eq_false, not_false_eq_true, beq_self_eq_true, reduceCtorEq] at hb) <;> (try (exfalso; omega))))
    exact rq1 rfl ⟨⟨E2, z3, by rw [foldL_len], a2⟩, gr_A⟩
end Go.Proofs.YtnkmencbnoipmaaGreatDoor
