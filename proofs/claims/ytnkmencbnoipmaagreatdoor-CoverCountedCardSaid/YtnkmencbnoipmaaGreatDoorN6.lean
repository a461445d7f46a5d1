/- Cover: bins and classes of places without an error; the edges of a bin. -/
import Derived.Test.YtnkmencbnoipmaaGreatDoorL2
set_option linter.all false
/- Bin and Class of places without an error; a line's number of places. -/
namespace Go.Proofs.YtnkmencbnoipmaaGreatDoor
open Go Go.Ab Go.Fl
attribute [local irreducible] SeqQ BlkQ LpQ RetQ Wc Wo WD WX Op1 Op1q Op1a Cf Cl From
attribute [local irreducible] Ieee.Format.order Ieee.Format.read Ieee.Format.nearest Ieee.Format.write Ieee.Format.mul Ieee.Format.div Ieee.Format.sqrt Ieee.Datum.order Ieee.Datum.integral K U rngE errN cntE cmpI indE ptE plaE firstNZ numsE lnE BigP isNameB nmE ascA errL chgV chgE griE clsE clsG sqD binI covP covV hit outI plsP rowP linsE surE wanE foldL needL gapI covR fldR gapR
set_option maxRecDepth 10000
variable {G : Base} {h : H}

set_option maxHeartbeats 4000000 in
theorem c47g {ox oy w u p q a b c d : Int} (hg : griE ox oy w u p q = 0) (hp : plaE a b c d = 0) (hw : Wf h) : Cf (mz G) (.func (.func 47) #[] #[]) [.agg ⟨[.int .i64 ox, .int .i64 oy, .int .i64 w, .int .i64 u, .int .i64 p, .int .i64 q]⟩, .agg ⟨[.int .i64 a, .int .i64 b, .int .i64 c, .int .i64 d]⟩] h fun r h' => r = .tuple #[.int .i64 (binI ox oy w u p q a b c d), .int .i64 0] ∧ Grow h h' := by
  have q37 := fun (h' : H) (w' : Wf h') => c11 (G := G) (h := h') (a := ox) (b := oy) (w := w) (u := u) (p := p) (q := q) w'
  have q38 := fun (h' : H) (w' : Wf h') => c81 (G := G) (h := h') (a := a) (b := b) (c := c) (d := d) w'
  rw [hg] at q37
  rw [hp] at q38
  have q36 := fun (h' : H) (v : Value) (s : Sl G h' 1 v 2 (([0, 0] : List Int).map (.int .i64))) => c63 s (by omega)
  rw [show firstNZ [0, 0] = 0 by rw [firstNZ_skip, sing_nz]] at q36
  have g := gri_ok hg
  obtain ⟨⟨ha, hb⟩, hc, hd⟩ := pla_in hp
  have q39 := fun (h' : H) (w' : Wf h') => c108 (G := G) (h := h') g.o1 g.o2 g.w1 g.w2 g.u1 g.u2 g.p1 g.p2 g.q1 g.q2 ha hb hc hd w'
  refine cf_enter0 19 [.tmp 4, .tmp 5] Tryz.func47 rfl rfl rfl rfl ?_
  repeat' (first | with_reducible refine wo_nil ?_ | ((with_reducible refine wo_any ?_); first | ((with_reducible refine ik_move ?_); refine wo_op rfl (op_move rfl) rfl rfl ?_) | ((with_reducible refine ik_assign ?_); refine wo_op rfl (op_assign rfl) rfl rfl ?_) | ((with_reducible refine ik_box ?_); first | refine wo_op rfl (op_boxAgg rfl zs32 rfl) rfl rfl ?_ | refine wo_op rfl (op_boxAgg rfl zs81 rfl) rfl rfl ?_) | ((with_reducible refine ik_load ?_); first | refine wo_op rfl (op_ldAgg rfl at_A Tryz.underlying32 rfl zs32 rfl rfl) rfl rfl ?_ | refine wo_op rfl (op_ldAgg rfl at_A Tryz.underlying81 rfl zs81 rfl rfl) rfl rfl ?_) | ((with_reducible refine ik_bin ?_); refine wo_op rfl (op_neq rfl rfl) rfl rfl ?_) | ((with_reducible refine ik_callv ?_); (refine wo_call rfl rfl rfl rfl (q39 _ wf_A) rfl rfl ?_; rintro _ _ ⟨rfl, hq⟩; all_goals ((try (have hqn := hq.nx)); (try simp only [H.nx_push, H.nx_set, H.nx_bump] at hqn))))) | ((with_reducible refine xk_any ?_); first | ((with_reducible refine xk_as0 ?_); first | ((with_reducible refine xk_load ?_); first | refine wx_h0 (wt_none rfl) rfl (op_q rfl (op_ldAgg rfl at_A Tryz.underlying32 rfl zs32 rfl rfl)) rfl rfl rfl ?_ | refine wx_h0 (wt_none rfl) rfl (op_q rfl (op_ldAgg rfl at_A Tryz.underlying81 rfl zs81 rfl rfl)) rfl rfl rfl ?_) | ((with_reducible refine xk_buildSlice ?_); refine wx_a0 (wt_none rfl) rfl (oa_buildSlice rfl Tryz.underlying185 zs30 zz30 rfl rfl) rfl rfl ?_) | ((with_reducible refine xk_callv ?_); first | (refine wx_call0 (wt_none rfl) rfl rfl rfl rfl (q37 _ wf_A) rfl rfl ?_; rintro _ _ ⟨rfl, hq⟩; all_goals ((try (have hqn := hq.nx)); (try simp only [H.nx_push, H.nx_set, H.nx_bump] at hqn))) | (refine wx_call0 (wt_none rfl) rfl rfl rfl rfl (q38 _ wf_A) rfl rfl ?_; rintro _ _ ⟨rfl, hq⟩; all_goals ((try (have hqn := hq.nx)); (try simp only [H.nx_push, H.nx_set, H.nx_bump] at hqn))))) | ((with_reducible refine xk_assign ?_); refine wx_q (wt_none rfl) rfl rfl (op_q rfl (op_assign rfl)) rfl rfl rfl ?_) | ((with_reducible refine xk_callv ?_); ((with_reducible refine xk_as1 ?_); refine wx_e1 (wt_none rfl) rfl rfl rfl (op_call rfl rfl (q36 _ _ (Sl.ofAt (show At _ _ (.cells [.int .i64 0, .int .i64 0] 30 1 false) from at_A) rfl (Nat.le_refl _)))) rfl rfl ?_)) | refine wx_niln ?_ ?_ rfl rfl ?_) | with_reducible exact obl_nil | with_reducible refine obl_cons ?_ ?_ | ((with_reducible refine ik_obs ?_); first | exact obs_nil | refine obs_skip rfl ?_ | refine obs_chkn rfl rfl (op_q rfl (op_ldAgg rfl at_A Tryz.underlying32 rfl zs32 (by rfl) rfl)) ?_ | refine obs_chkn rfl rfl (op_q rfl (op_ldAgg rfl at_A Tryz.underlying81 rfl zs81 (by rfl) rfl)) ?_) | with_reducible exact stk_nil | with_reducible refine stk_cons ?_ ?_ | ((with_reducible refine ik_stk ?_); first | exact stk_abs rfl rfl | exact stk_freeB rfl rfl wf_A gr_B) | with_reducible refine sq_norm ?_ | with_reducible refine wc_seq ?_ | with_reducible refine wc_region ?_ | with_reducible refine wc_skip ?_ | with_reducible refine wc_ret ?_ | refine wc_iff rfl ?_ | refine wc_drawB (id := 1) 7 [0, 1, 0, 7, 15, 31, 63] [0, 1, 2, 3, 4, 5, 6] (by kernel_rfl) (by kernel_rfl) rfl rfl ?_)
  exact rq2 rfl rfl ⟨rfl, gr_A⟩
set_option maxHeartbeats 4000000 in
theorem c48g {v : Value} {n : Nat} {l : List Int} {a b c d : Int} (s : Sl G h 1 v n (l.map (.int .i64))) (hn : n < 1000000) (hl : clsE l = 0) (hp : plaE a b c d = 0) (hw : Wf h) : Cf (mz G) (.func (.func 48) #[] #[]) [v, .agg ⟨[.int .i64 a, .int .i64 b, .int .i64 c, .int .i64 d]⟩] h fun r h' => r = .tuple #[.int .i64 (clsG l (sqD a b c d) 0), .int .i64 0] ∧ Grow h h' := by
  obtain ⟨x, cc, rfl⟩ := s.form
  have q40 := fun (h' : H) (g : Grow h h') => c109 (s.grow g) hn
  have q38 := fun (h' : H) (w' : Wf h') => c81 (G := G) (h := h') (a := a) (b := b) (c := c) (d := d) w'
  rw [hl] at q40
  rw [hp] at q38
  have q36 := fun (h' : H) (v : Value) (s : Sl G h' 1 v 2 (([0, 0] : List Int).map (.int .i64))) => c63 s (by omega)
  rw [show firstNZ [0, 0] = 0 by rw [firstNZ_skip, sing_nz]] at q36
  obtain ⟨⟨ha, hb⟩, hc, hd⟩ := pla_in hp
  have q41 := fun (h' : H) (g : Grow h h') (w' : Wf h') => c110 (s.grow g) hn ha hb hc hd w'
  refine cf_enter0 19 [.tmp 4, .tmp 5] Tryz.func48 rfl rfl rfl rfl ?_
  repeat' (first | with_reducible refine wo_nil ?_ | ((with_reducible refine wo_any ?_); first | ((with_reducible refine ik_move ?_); refine wo_op rfl (op_move rfl) rfl rfl ?_) | ((with_reducible refine ik_assign ?_); refine wo_op rfl (op_assign rfl) rfl rfl ?_) | ((with_reducible refine ik_box ?_); refine wo_op rfl (op_boxAgg rfl zs81 rfl) rfl rfl ?_) | ((with_reducible refine ik_load ?_); refine wo_op rfl (op_ldAgg rfl at_A Tryz.underlying81 rfl zs81 rfl rfl) rfl rfl ?_) | ((with_reducible refine ik_bin ?_); refine wo_op rfl (op_neq rfl rfl) rfl rfl ?_) | ((with_reducible refine ik_callv ?_); (refine wo_call rfl rfl rfl rfl (q41 _ gr_A wf_A) rfl rfl ?_; rintro _ _ ⟨rfl, hq⟩; all_goals ((try (have hqn := hq.nx)); (try simp only [H.nx_push, H.nx_set, H.nx_bump] at hqn))))) | ((with_reducible refine xk_any ?_); first | ((with_reducible refine xk_as0 ?_); first | ((with_reducible refine xk_move ?_); refine wx_q (wt_none rfl) rfl rfl (op_q rfl (op_move rfl)) rfl rfl rfl ?_) | ((with_reducible refine xk_load ?_); refine wx_h0 (wt_none rfl) rfl (op_q rfl (op_ldAgg rfl at_A Tryz.underlying81 rfl zs81 rfl rfl)) rfl rfl rfl ?_) | ((with_reducible refine xk_buildSlice ?_); refine wx_a0 (wt_none rfl) rfl (oa_buildSlice rfl Tryz.underlying185 zs30 zz30 rfl rfl) rfl rfl ?_) | ((with_reducible refine xk_callv ?_); first | refine wx_ee (wt_none rfl) rfl rfl (op_call rfl rfl (q40 _ gr_A)) rfl rfl ?_ | (refine wx_call0 (wt_none rfl) rfl rfl rfl rfl (q38 _ wf_A) rfl rfl ?_; rintro _ _ ⟨rfl, hq⟩; all_goals ((try (have hqn := hq.nx)); (try simp only [H.nx_push, H.nx_set, H.nx_bump] at hqn))))) | ((with_reducible refine xk_assign ?_); refine wx_q (wt_none rfl) rfl rfl (op_q rfl (op_assign rfl)) rfl rfl rfl ?_) | ((with_reducible refine xk_callv ?_); ((with_reducible refine xk_as1 ?_); refine wx_e1 (wt_none rfl) rfl rfl rfl (op_call rfl rfl (q36 _ _ (Sl.ofAt (show At _ _ (.cells [.int .i64 0, .int .i64 0] 30 1 false) from at_A) rfl (Nat.le_refl _)))) rfl rfl ?_)) | refine wx_niln ?_ ?_ rfl rfl ?_) | with_reducible exact obl_nil | with_reducible refine obl_cons ?_ ?_ | ((with_reducible refine ik_obs ?_); first | exact obs_nil | refine obs_skip rfl ?_ | refine obs_chkn rfl rfl (op_q rfl (op_ldAgg rfl at_A Tryz.underlying81 rfl zs81 (by rfl) rfl)) ?_) | with_reducible exact stk_nil | with_reducible refine stk_cons ?_ ?_ | ((with_reducible refine ik_stk ?_); first | exact stk_abs rfl rfl | exact stk_freeB rfl rfl wf_A gr_B) | with_reducible refine sq_norm ?_ | with_reducible refine wc_seq ?_ | with_reducible refine wc_region ?_ | with_reducible refine wc_skip ?_ | with_reducible refine wc_ret ?_ | refine wc_iff rfl ?_ | refine wc_drawB (id := 1) 7 [0, 1, 0, 7, 15, 31, 63] [0, 1, 2, 3, 4, 5, 6] (by kernel_rfl) (by kernel_rfl) rfl rfl ?_)
  exact rq2 rfl rfl ⟨rfl, gr_A⟩
set_option maxHeartbeats 4000000 in
theorem c46 {ox oy w u p q : Int} {va v : Value} {m n : Nat} {cl : List Int} {ts : List LnM} {W : Int} (sc : Sl G h 1 va m (cl.map (.int .i64))) (hm : m ≤ maxLen) (s : SlN G h v n ts) (hn : n ≤ maxLen) (hw : Wf h) (hG : ∀ a v, laidBase a = some v → G a = some v) : Cf (mz G) (.func (.func 46) #[] #[]) [.agg ⟨[.int .i64 ox, .int .i64 oy, .int .i64 w, .int .i64 u, .int .i64 p, .int .i64 q, va, v, .int .i64 W]⟩] h fun r h' => ((r = .bool true ∧ wanE ox oy w u p q cl (vsOf ts) W = 0 ∧ m ≤ 9 ∧ n ≤ 33 ∧ ∀ t ∈ ts, t.V.rf.length ≤ 10 ∧ t.V.nm.size ≤ 40) ∨ r = .bool false) ∧ Grow h h' := by
  obtain ⟨ca, cc, rfl⟩ := sc.form
  obtain ⟨la, lc, rfl⟩ := s.sl.form
  have q35 := fun (h' : H) (r : Grow h h') (w' : Wf h') => c35 (ox := ox) (oy := oy) (w := w) (u := u) (p := p) (q := q) (W := W) (sc.grow r) hm (s.grow r) hn w'
  have q41 := fun (hs : m ≤ 9 ∧ n ≤ 33 ∧ ∀ t ∈ ts, t.V.rf.length ≤ 10 ∧ t.V.nm.size ≤ 40) (h' : H) (r : Grow h h') (w' : Wf h') => c41 (ox := ox) (oy := oy) (w := w) (u := u) (p := p) (q := q) (W := W) (sc.grow r) (by omega) (s.grow r) (by omega) (fun t ht => by have := hs.2.2 t ht; omega) (fun t ht => by have := hs.2.2 t ht; omega) w' hG
  generalize wanE ox oy w u p q cl (vsOf ts) W = E at q41 ⊢
  refine cf_enter0 17 [.tmp 2] Tryz.func46 rfl rfl rfl rfl ?_
  repeat' (first | with_reducible refine wo_nil ?_ | ((with_reducible refine wo_any ?_); first | ((with_reducible refine ik_move ?_); refine wo_op rfl (op_move rfl) rfl rfl ?_) | ((with_reducible refine ik_assign ?_); refine wo_op rfl (op_assign rfl) rfl rfl ?_) | ((with_reducible refine ik_load ?_); refine wo_op rfl (op_ldAgg rfl at_A Tryz.underlying69 rfl zs69 rfl rfl) rfl rfl ?_) | ((with_reducible refine ik_box ?_); refine wo_op rfl (op_boxAgg rfl zs69 rfl) rfl rfl ?_) | ((with_reducible refine ik_pick ?_); first | refine wo_op rfl (op_pickt rfl rfl) rfl rfl ?_ | refine wo_op rfl (op_pickf rfl rfl) rfl rfl ?_) | ((with_reducible refine ik_callv ?_); (refine wo_call rfl rfl rfl rfl (q35 _ gr_A wf_A) rfl rfl ?_; rintro _ _ ⟨(⟨rfl, hs⟩ | rfl), hq⟩; all_goals ((try (have hqn := hq.nx)); (try simp only [H.nx_push, H.nx_set, H.nx_bump] at hqn)))) | ((with_reducible refine ik_g ?_); first | refine wo_gskip rfl rfl rfl rfl rfl rfl ?_ | ((with_reducible refine ig_load ?_); first | refine wo_grun rfl rfl rfl (op_ldAgg (b := h.nx) (off := 0) rfl at_A Tryz.underlying25 rfl zs25 rfl rfl) rfl rfl ?_ | refine wo_grun rfl rfl rfl (op_ldAt (b := h.nx) (off := 6) rfl at_A Tryz.underlying41 rfl rfl) rfl rfl ?_ | refine wo_grun rfl rfl rfl (op_ldAt (b := h.nx) (off := 7) rfl at_A Tryz.underlying26 rfl rfl) rfl rfl ?_ | refine wo_grun rfl rfl rfl (op_ldAt (b := h.nx) (off := 8) rfl at_A Tryz.underlying3 rfl rfl) rfl rfl ?_) | ((with_reducible refine ig_fieldAddr ?_); first | refine wo_grun rfl rfl rfl (op_fieldAddr (o := 0) rfl Tryz.underlying69 rfl zs25 rfl) rfl rfl ?_ | refine wo_grun rfl rfl rfl (op_fieldAddr (o := 6) rfl Tryz.underlying69 rfl zs41 rfl) rfl rfl ?_ | refine wo_grun rfl rfl rfl (op_fieldAddr (o := 7) rfl Tryz.underlying69 rfl zs26 rfl) rfl rfl ?_ | refine wo_grun rfl rfl rfl (op_fieldAddr (o := 8) rfl Tryz.underlying69 rfl zs3 rfl) rfl rfl ?_) | ((with_reducible refine ig_bin ?_); refine wo_grun rfl rfl rfl (op_eql rfl rfl) rfl rfl ?_) | ((with_reducible refine ig_callv ?_); (refine wo_gcall rfl rfl rfl rfl rfl rfl (q41 hs _ gr_A wf_A) rfl rfl ?_; rintro _ _ ⟨rfl, hq⟩; all_goals ((try (have hqn := hq.nx)); (try simp only [H.nx_push, H.nx_set, H.nx_bump] at hqn)))))) | with_reducible refine sq_norm ?_ | with_reducible refine wc_seq ?_ | with_reducible refine wc_region ?_ | with_reducible refine wc_ret ?_)
  all_goals first
    | exact rq1 rfl ⟨.inr rfl, gr_A⟩
    | (refine rq1 rfl ⟨?_, gr_A⟩
       by_cases hz : E = 0
       · rw [decide_eq_true hz]; exact .inl ⟨rfl, hz, hs⟩
       · rw [decide_eq_false hz]; exact .inr rfl)
    | trace_state
/-! the number of places -/
def below (rf : List Int) (i : Int) : Nat := (rf.filter fun x => decide (x < i)).length
theorem below_step : ∀ {rf : List Int} {i : Int}, rf.Pairwise (· < ·) → below rf (i + 1) = below rf i + (if i ∈ rf then 1 else 0)
  | [], i, _ => rfl
  | x :: l, i, h => by
    obtain ⟨h1, h2⟩ := List.pairwise_cons.1 h
    have ih := below_step (i := i) h2
    unfold below at ih ⊢
    by_cases q1 : x < i
    · rw [List.filter_cons_of_pos (by simpa using (by omega : x < i + 1)), List.filter_cons_of_pos (by simpa using q1), List.length_cons, List.length_cons, ih]
      have : (i ∈ x :: l) ↔ i ∈ l := by
        rw [List.mem_cons]
        exact ⟨fun q => q.elim (fun e => by omega) id, .inr⟩
      simp only [this]
      omega
    · by_cases q2 : x = i
      · subst q2
        have e1 : l.filter (fun y => decide (y < x + 1)) = [] := List.filter_eq_nil_iff.2 fun y hy => by have := h1 y hy; simpa using (by omega : ¬y < x + 1)
        have e2 : l.filter (fun y => decide (y < x)) = [] := List.filter_eq_nil_iff.2 fun y hy => by have := h1 y hy; simpa using (by omega : ¬y < x)
        rw [List.filter_cons_of_pos (by simpa using (by omega : x < x + 1)), List.filter_cons_of_neg (by simp), e1, e2, if_pos (List.mem_cons_self ..)]
        rfl
      · rw [List.filter_cons_of_neg (by simpa using (by omega : ¬x < i + 1)), List.filter_cons_of_neg (by simpa using q1), ih]
        have : (i ∈ x :: l) ↔ i ∈ l := by
          rw [List.mem_cons]
          exact ⟨fun q => q.elim (fun e => by omega) id, .inr⟩
        simp only [this]
theorem below_le {rf : List Int} (h : rf.Pairwise (· < ·)) (h0 : ∀ x ∈ rf, 0 ≤ x) : ∀ i : Nat, below rf i ≤ i
  | 0 => by
    have : rf.filter (fun x => decide (x < ((0 : Nat) : Int))) = [] := List.filter_eq_nil_iff.2 fun y hy => by have := h0 y hy; simpa using (by omega : ¬y < 0)
    unfold below; rw [this]; exact Nat.le_refl _
  | i + 1 => by
    have ih := below_le h h0 i
    have e := below_step (i := (i : Int)) h
    rw [show ((i + 1 : Nat) : Int) = (i : Int) + 1 by omega, e]
    split <;> omega
theorem rowP_length {x y tx ty nx ny px py : Int} {rf : List Int} {ch i : Nat} : (rowP x y tx ty nx ny px py rf ch i).length = if (i : Int) ∈ rf then 0 else ch := by
  unfold rowP
  by_cases h : (i : Int) ∈ rf
  · rw [if_pos (decide_eq_true h), if_pos h]; rfl
  · rw [if_neg (by simpa using h), if_neg h]; simp
theorem plsP_length {x y tx ty nx ny px py : Int} {rf : List Int} {ch : Nat} (h : rf.Pairwise (· < ·)) (h0 : ∀ x ∈ rf, 0 ≤ x) : ∀ i : Nat, (plsP x y tx ty nx ny px py rf ch i).length + below rf i * ch = i * ch
  | 0 => by
    have := below_le h h0 0
    have e : below rf ((0 : Nat) : Int) = 0 := by omega
    rw [e]
    simp [plsP]
  | i + 1 => by
    have ih := plsP_length (x := x) (y := y) (tx := tx) (ty := ty) (nx := nx) (ny := ny) (px := px) (py := py) (ch := ch) h h0 i
    have e := below_step (i := (i : Int)) h
    rw [plsP_next, List.length_append, rowP_length, show ((i + 1 : Nat) : Int) = (i : Int) + 1 by omega, e, Nat.add_mul, Nat.succ_mul]
    split
    · rw [Nat.one_mul]; omega
    · rw [Nat.zero_mul]; omega
theorem below_all {rf : List Int} {i : Int} (h : ∀ x ∈ rf, x < i) : below rf i = rf.length := by
  unfold below
  rw [List.filter_eq_self.2 fun x hx => by simpa using h x hx]
theorem ind_facts {l : List Int} {m : Int} (h : indE l m = 0) : l.Pairwise (· < ·) ∧ (∀ x ∈ l, 0 ≤ x) ∧ ∀ x ∈ l, x < m := by
  have q := ind_mem h
  refine ⟨asc_pair fun i hi h0 => (q i hi).2 h0, fun x hx => ?_, fun x hx => ?_⟩
  · obtain ⟨i, hi, rfl⟩ := List.getElem_of_mem hx
    rw [getElem_getD hi]; exact (q i hi).1.1
  · obtain ⟨i, hi, rfl⟩ := List.getElem_of_mem hx
    rw [getElem_getD hi]; exact (q i hi).1.2
theorem pls_count {x y tx ty nx ny px py : Int} {rf : List Int} {ch sh : Nat} (h : indE rf sh = 0) : ((plsP x y tx ty nx ny px py rf ch sh).length : Int) = ((sh : Int) - (rf.length : Int)) * (ch : Int) ∧ rf.length ≤ sh := by
  obtain ⟨h1, h2, h3⟩ := ind_facts h
  have e := plsP_length (x := x) (y := y) (tx := tx) (ty := ty) (nx := nx) (ny := ny) (px := px) (py := py) (ch := ch) h1 h2 sh
  have b := below_le h1 h2 sh
  rw [below_all h3] at e b
  refine ⟨?_, b⟩
  rw [Int.sub_mul, ← Int.natCast_mul, ← Int.natCast_mul]
  omega
theorem plsV_pla {V : LnV} (h : errL V = 0) : ∀ P ∈ plsV V, plaE P.x P.y P.u P.v = 0 := by
  obtain ⟨nm, x, y, tx, ty, sh, nx, ny, px, py, ch, rf⟩ := V
  rw [errL_eq] at h
  have hb := (lnE_inv h).2.2.2
  intro P hP
  unfold plsV plsP at hP
  obtain ⟨i, hi, hP⟩ := List.mem_flatMap.1 hP
  unfold rowP at hP
  split at hP
  · simp at hP
  · obtain ⟨k, hk, rfl⟩ := List.mem_map.1 hP
    exact Classical.byContradiction fun q => hb (by unfold BigP; exact ⟨i, k, List.mem_range.1 hi, List.mem_range.1 hk, q⟩)
/-! gaps -/
theorem gapI_mem : ∀ {l : List Int} {k b : Nat}, ((b : Int) ∈ gapI l k) ↔ ∃ i, i < l.length ∧ b = k + i ∧ 0 < l.getD i 0
  | [], k, b => by simp [gapI]
  | x :: l, k, b => by
    have ih := gapI_mem (l := l) (k := k + 1) (b := b)
    have key : (∃ i, i < (x :: l).length ∧ b = k + i ∧ 0 < (x :: l).getD i 0) ↔ (b = k ∧ 0 < x) ∨ ∃ i, i < l.length ∧ b = k + 1 + i ∧ 0 < l.getD i 0 := by
      constructor
      · rintro ⟨i, h1, h2, h3⟩
        cases i with
        | zero => exact .inl ⟨h2, by simpa using h3⟩
        | succ i => exact .inr ⟨i, by simpa using h1, by omega, by simpa using h3⟩
      · rintro (⟨h1, h2⟩ | ⟨i, h1, h2, h3⟩)
        · exact ⟨0, by simp, h1, by simpa using h2⟩
        · exact ⟨i + 1, by simpa using h1, by omega, by simpa using h3⟩
    rw [key, ← ih, gapI]
    by_cases hx : 0 < x
    · rw [if_pos hx, List.mem_cons]
      constructor
      · rintro (h | h)
        · exact .inl ⟨by omega, hx⟩
        · exact .inr h
      · rintro (h | h)
        · exact .inl (by omega)
        · exact .inr h
    · rw [if_neg hx]
      exact ⟨.inr, fun h => h.elim (fun q => absurd q.2 hx) id⟩
theorem gap_need {l : List Int} {W : Int} {b : Nat} (hb : b < l.length) : decide ((b : Int) ∈ gapI (needL l W) 0) = decide (l.getD b 0 < W) := by
  refine decide_eq_decide.2 (gapI_mem.trans ?_)
  have e : ∀ i, i < l.length → (needL l W).getD i 0 = max 0 (W - l.getD i 0) := fun i hi => by
    rw [← getElem_getD (by rw [needL_len]; exact hi), ← getElem_getD hi]
    simp [needL]
  constructor
  · rintro ⟨i, h1, h2, h3⟩
    rw [needL_len] at h1
    rw [e i h1] at h3
    have : i = b := by omega
    subst this
    omega
  · intro h
    exact ⟨b, by rw [needL_len]; exact hb, by omega, by rw [e b hb]; omega⟩
end Go.Proofs.YtnkmencbnoipmaaGreatDoor

/- A bin's edges. -/
namespace Go.Proofs.YtnkmencbnoipmaaGreatDoor
open Go Go.Ab Go.Fl
attribute [local irreducible] SeqQ BlkQ LpQ RetQ Wc Wo WD WX Op1 Op1q Op1a Cf Cl From
attribute [local irreducible] Ieee.Format.order Ieee.Format.read Ieee.Format.nearest Ieee.Format.write Ieee.Format.mul Ieee.Format.div Ieee.Format.sqrt Ieee.Datum.order Ieee.Datum.integral K U rngE errN cntE cmpI indE ptE plaE firstNZ numsE lnE BigP isNameB nmE ascA errL chgV chgE griE clsE clsG sqD covP covV hit outI plsP rowP linsE surE wanE foldL needL gapI covR fldR gapR
set_option maxRecDepth 10000
variable {G : Base} {h : H}

structure EdgeOk (ox oy w u a b c d : Int) (C R : Nat) : Prop where
  c1 : C < 16
  r1 : R < 16
  cw : 0 ≤ (C : Int) * w ∧ (C : Int) * w ≤ 160000
  ru : 0 ≤ (R : Int) * u ∧ (R : Int) * u ≤ 160000
  x1 : 0 ≤ a + c - 2 * (ox + (C : Int) * w)
  x2 : a + c - 2 * (ox + (C : Int) * w) < 2 * w
  y1 : 0 ≤ b + d - 2 * (oy + (R : Int) * u)
  y2 : b + d - 2 * (oy + (R : Int) * u) < 2 * u
theorem bin_edge {ox oy w u p q a b c d : Int} (g : GrOk ox oy w u p q) (h : 0 ≤ binI ox oy w u p q a b c d) : ∃ (bn P C R : Nat), binI ox oy w u p q a b c d = (bn : Int) ∧ p = (P : Int) ∧ 0 < P ∧ bn % P = C ∧ bn / P = R ∧ EdgeOk ox oy w u a b c d C R := by
  have w1 := g.w1
  have u1 := g.u1
  have w2 := g.w2
  have u2 := g.u2
  have p1 := g.p1
  have p2 := g.p2
  have q2 := g.q2
  unfold binI at h ⊢
  obtain ⟨C, hC⟩ : ∃ C, (a + c - 2 * ox) / (2 * w) = C := ⟨_, rfl⟩
  obtain ⟨R, hR⟩ : ∃ R, (b + d - 2 * oy) / (2 * u) = R := ⟨_, rfl⟩
  rw [hC, hR] at h ⊢
  obtain ⟨C1, C2⟩ := flo (by omega) hC
  obtain ⟨R1, R2⟩ := flo (by omega) hR
  by_cases hin : inB R C p q
  · rw [if_pos hin]
    obtain ⟨z1, z2, z3, z4⟩ := hin
    obtain ⟨P, rfl⟩ : ∃ P : Nat, p = P := ⟨p.toNat, by omega⟩
    obtain ⟨Cn, rfl⟩ : ∃ P : Nat, C = P := ⟨C.toNat, by omega⟩
    obtain ⟨Rn, rfl⟩ : ∃ P : Nat, R = P := ⟨R.toNat, by omega⟩
    have hc : Cn < P := by omega
    refine ⟨Rn * P + Cn, P, Cn, Rn, ?_, rfl, by omega, ?_, ?_, ⟨by omega, by omega, mul_small (p := P) w1 w2 (by omega), mul_small (p := P) u1 u2 (by omega), by omega, by omega, by omega, by omega⟩⟩
    · rw [Int.natCast_add, Int.natCast_mul]
    · rw [Nat.add_comm, Nat.add_mul_mod_self_right, Nat.mod_eq_of_lt hc]
    · rw [Nat.add_comm, Nat.add_mul_div_right _ _ (by omega), Nat.div_eq_of_lt hc, Nat.zero_add]
  · rw [if_neg hin] at h
    omega
end Go.Proofs.YtnkmencbnoipmaaGreatDoor
