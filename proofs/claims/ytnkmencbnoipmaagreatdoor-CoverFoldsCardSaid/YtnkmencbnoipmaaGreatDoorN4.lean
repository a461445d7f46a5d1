/- Cover: the errors of a survey, the coverage by the reference. -/
import Derived.Test.YtnkmencbnoipmaaGreatDoorN3
import Derived.Test.YtnkmencbnoipmaaGreatDoorN1
import Derived.Test.YtnkmencbnoipmaaGreatDoorM1
import Derived.Test.YtnkmencbnoipmaaGreatDoorM2
set_option linter.all false
/- The survey's errors and the coverage by the reference. -/
namespace Go.Proofs.YtnkmencbnoipmaaGreatDoor
open Go Go.Ab Go.Fl
attribute [local irreducible] SeqQ BlkQ LpQ RetQ Wc Wo WD WX Op1 Op1q Op1a Cf Cl From
attribute [local irreducible] Ieee.Format.order Ieee.Format.read Ieee.Format.nearest Ieee.Format.write Ieee.Format.mul Ieee.Format.div Ieee.Format.sqrt Ieee.Datum.order Ieee.Datum.integral K U rngE errN cntE cmpI indE ptE plaE firstNZ numsE lnE BigP isNameB nmE ascA errL chgV chgE griE clsE clsG sqD binI covP covV hit outI plsP rowP linsE foldL surE
set_option maxRecDepth 10000
variable {G : Base} {h : H}

theorem c40 {ox oy w u p q : Int} {va v : Value} {m n : Nat} {cl : List Int} {ts : List LnM} (sc : Sl G h 1 va m (cl.map (.int .i64))) (hm : m < 1000000) (s : SlN G h v n ts) (hn : n < 1000000) (hr : ∀ t ∈ ts, t.V.rf.length < 1000000) (hnm : ∀ t ∈ ts, t.V.nm.size ≤ 1000000) (hw : Wf h) (hG : ∀ a v, laidBase a = some v → G a = some v) : Cf (mz G) (.func (.func 40) #[] #[]) [.agg ⟨[.int .i64 ox, .int .i64 oy, .int .i64 w, .int .i64 u, .int .i64 p, .int .i64 q]⟩, va, v] h fun r h' => r = .int .i64 (surE ox oy w u p q cl (vsOf ts)) ∧ Grow h h' := by
  have q11 := fun (h' : H) (w' : Wf h') => c12 (G := G) (h := h') (a := ox) (b := oy) (w := w) (u := u) (p := p) (q := q) w'
  have q109 := fun (h' : H) (r : Grow h h') (w' : Wf h') => c104 (sc.grow r) hm w'
  have q13 := fun (h' : H) (r : Grow h h') (w' : Wf h') => c15 (s.grow r) hn hr hnm w' hG
  rw [show (if 32 < n then (5 : Int) else linsE (vsOf ts) []) = linsN (vsOf ts) by unfold linsN; rw [vsOf_len, s.len]] at q13
  have qf := fun (h' : H) (v : Value) (s : Sl G h' 1 v 3 ([griE ox oy w u p q, clsE cl, linsN (vsOf ts)].map (.int .i64))) => c66 s (by omega)
  rw [show firstNZ [griE ox oy w u p q, clsE cl, linsN (vsOf ts)] = surE ox oy w u p q cl (vsOf ts) by unfold surE; rfl] at qf
  generalize surE ox oy w u p q cl (vsOf ts) = E at qf ⊢
  refine cf_enter0 15 [.tmp 6] Tryz.func40 rfl rfl rfl rfl ?_
  repeat' (first | with_reducible refine wo_nil ?_ | ((with_reducible refine wo_any ?_); first | ((with_reducible refine ik_move ?_); refine wo_op rfl (op_move rfl) rfl rfl ?_) | ((with_reducible refine ik_assign ?_); refine wo_op rfl (op_assign rfl) rfl rfl ?_) | ((with_reducible refine ik_box ?_); refine wo_op rfl (op_boxAgg rfl zs25 rfl) rfl rfl ?_) | ((with_reducible refine ik_load ?_); refine wo_op rfl (op_ldAgg rfl at_A Tryz.underlying25 rfl zs25 rfl rfl) rfl rfl ?_) | ((with_reducible refine ik_buildSlice ?_); refine wo_op rfl (op_buildSl rfl Tryz.underlying41 zs3 zz3 rfl rfl) rfl rfl ?_) | ((with_reducible refine ik_callv ?_); first | refine wo_op rfl (op_call rfl rfl (qf _ _ (Sl.ofAt (show At _ _ (.cells [.int .i64 (griE ox oy w u p q), .int .i64 (clsE cl), .int .i64 (linsN (vsOf ts))] 3 1 false) from at_A) rfl (Nat.le_refl _)))) rfl rfl ?_ | (refine wo_call rfl rfl rfl rfl (q11 _ wf_A) rfl rfl ?_; rintro _ _ ⟨rfl, hq⟩; all_goals ((try (have hqn := hq.nx)); (try simp only [H.nx_push, H.nx_set, H.nx_bump] at hqn))) | (refine wo_call rfl rfl rfl rfl (q109 _ gr_A wf_A) rfl rfl ?_; rintro _ _ ⟨rfl, hq⟩; all_goals ((try (have hqn := hq.nx)); (try simp only [H.nx_push, H.nx_set, H.nx_bump] at hqn))) | (refine wo_call rfl rfl rfl rfl (q13 _ gr_A wf_A) rfl rfl ?_; rintro _ _ ⟨rfl, hq⟩; all_goals ((try (have hqn := hq.nx)); (try simp only [H.nx_push, H.nx_set, H.nx_bump] at hqn))))) | with_reducible refine sq_norm ?_ | with_reducible refine wc_seq ?_ | with_reducible refine wc_region ?_ | with_reducible refine wc_ret ?_)
  exact rq1 rfl ⟨rfl, gr_A⟩
theorem c41 {ox oy w u p q : Int} {va v : Value} {m n : Nat} {cl : List Int} {ts : List LnM} {W : Int} (sc : Sl G h 1 va m (cl.map (.int .i64))) (hm : m < 1000000) (s : SlN G h v n ts) (hn : n < 1000000) (hr : ∀ t ∈ ts, t.V.rf.length < 1000000) (hnm : ∀ t ∈ ts, t.V.nm.size ≤ 1000000) (hw : Wf h) (hG : ∀ a v, laidBase a = some v → G a = some v) : Cf (mz G) (.func (.func 41) #[] #[]) [.agg ⟨[.int .i64 ox, .int .i64 oy, .int .i64 w, .int .i64 u, .int .i64 p, .int .i64 q]⟩, va, v, .int .i64 W] h fun r h' => r = .int .i64 (wanE ox oy w u p q cl (vsOf ts) W) ∧ Grow h h' := by
  have q40 := fun (h' : H) (r : Grow h h') (w' : Wf h') => c40 (ox := ox) (oy := oy) (w := w) (u := u) (p := p) (q := q) (sc.grow r) hm (s.grow r) hn hr hnm w' hG
  have qf := fun (h' : H) (v : Value) (s : Sl G h' 1 v 2 ([surE ox oy w u p q cl (vsOf ts), rngE W 1 1000].map (.int .i64))) => c66 s (by omega)
  rw [show firstNZ [surE ox oy w u p q cl (vsOf ts), rngE W 1 1000] = wanE ox oy w u p q cl (vsOf ts) W from rfl] at qf
  refine cf_enter0 17 [.tmp 8] Tryz.func41 rfl rfl rfl rfl ?_
  repeat' (first | with_reducible refine wo_nil ?_ | ((with_reducible refine wo_any ?_); first | ((with_reducible refine ik_move ?_); refine wo_op rfl (op_move rfl) rfl rfl ?_) | ((with_reducible refine ik_assign ?_); refine wo_op rfl (op_assign rfl) rfl rfl ?_) | ((with_reducible refine ik_box ?_); refine wo_op rfl (op_boxAgg rfl zs25 rfl) rfl rfl ?_) | ((with_reducible refine ik_load ?_); refine wo_op rfl (op_ldAgg rfl at_A Tryz.underlying25 rfl zs25 rfl rfl) rfl rfl ?_) | ((with_reducible refine ik_buildSlice ?_); refine wo_op rfl (op_buildSl rfl Tryz.underlying41 zs3 zz3 rfl rfl) rfl rfl ?_) | ((with_reducible refine ik_callF (f := 68) ?_); refine wo_op rfl (op_call rfl rfl (c68 _ _ _)) rfl rfl ?_) | ((with_reducible refine ik_callv ?_); first | refine wo_op rfl (op_call rfl rfl (qf _ _ (Sl.ofAt (show At _ _ (.cells [.int .i64 (surE ox oy w u p q cl (vsOf ts)), .int .i64 (rngE W 1 1000)] 3 1 false) from at_A) rfl (Nat.le_refl _)))) rfl rfl ?_ | (refine wo_call rfl rfl rfl rfl (q40 _ gr_A wf_A) rfl rfl ?_; rintro _ _ ⟨rfl, hq⟩; all_goals ((try (have hqn := hq.nx)); (try simp only [H.nx_push, H.nx_set, H.nx_bump] at hqn))))) | with_reducible refine sq_norm ?_ | with_reducible refine wc_seq ?_ | with_reducible refine wc_region ?_ | with_reducible refine wc_ret ?_)
  exact rq1 rfl ⟨rfl, gr_A⟩
theorem Sl.set_at {es es' n b : Nat} {wv : Value} {L c c' : List Value} {e : TypeId} {f : Bool} (sl : Sl G h es wv n L) (hB : At h b (.cells c e es' f)) (ne : es ≠ es') : Sl G (h.set b (.cells c' e es' f)) es wv n L := by
  cases sl with
  | nil => exact .nil
  | end' b o => exact .end' b o
  | mem a _ cc _ hl hc hnc ho =>
    have hne : a.spot = some 0 → a.block ≠ b := fun q e => by
      obtain ⟨c1, e1, s1, hg⟩ := ho q
      rw [e, hB.get] at hg
      injection hg with hg
      injection hg with _ _ hg _
      exact ne hg.symm
    have gk : ∀ m, m ≠ b → (h.set b (.cells c' e es' f)).get m = h.get m := fun m hm => by rw [H.get_set, if_neg hm]
    refine .mem a n cc L hl ⟨fun q => hc.lt q, fun i v q => ?_, hc.spot, fun q => ?_⟩ hnc fun q => ?_
    · have := hc.get i v q
      unfold acell at this ⊢
      rcases hc.spot with hs | hs
      · simp only [aadd, hs] at this ⊢; exact this
      · simp only [aadd, hs] at this ⊢
        rw [gk _ (hne hs)]; exact this
    · rw [gk _ (hne q)]; exact hc.own q
    · rw [gk _ (hne q)]; exact ho q
set_option maxHeartbeats 8000000 in
theorem c42 {ox oy w u p q : Int} {va v : Value} {m B N n : Nat} {cl : List Int} {ts : List LnM} (g : GrOk ox oy w u p q) (hB : p * q = (B : Int)) (hB1 : 1 ≤ B) (hB2 : B ≤ 256) (hN : B * m = N) (sc : Sl G h 1 va m (cl.map (.int .i64))) (hm1 : 1 ≤ m) (hm8 : m ≤ 8) (s : SlN G h v n ts) (hn : n ≤ 32) (hok : ∀ t ∈ ts, errL t.V = 0) (hr : ∀ t ∈ ts, t.V.rf.length < 1000000) (hw : Wf h) : Cf (mz G) (.func (.func 42) #[] #[]) [.agg ⟨[.int .i64 ox, .int .i64 oy, .int .i64 w, .int .i64 u, .int .i64 p, .int .i64 q]⟩, va, v] h fun r h' => OwI h.nx h' r (covV ox oy w u p q cl N (vsOf ts)) ∧ Grow h h' := by
  obtain ⟨ca, cc, rfl⟩ := sc.form
  obtain ⟨a0, c0, rfl⟩ := s.sl.form
  have hlen := s.len
  have hcl := sc.length
  simp at hcl
  have hNm : B * m ≤ 256 * 8 := Nat.mul_le_mul hB2 hm8
  have hmul : (B : Int) * (m : Int) = (N : Int) := by rw [← hN]; exact (Int.natCast_mul B m).symm
  have hmul' : p * q * (m : Int) = (N : Int) := by rw [hB]; exact hmul
  rw [hN] at hNm
  refine cf_enter0 69 [.tmp 6] Tryz.func42 rfl rfl rfl rfl ?_
  repeat' (first | with_reducible refine wo_nil ?_ | ((with_reducible refine wo_any ?_); first | ((with_reducible refine ik_move ?_); refine wo_op rfl (op_move rfl) rfl rfl ?_) | ((with_reducible refine ik_assign ?_); refine wo_op rfl (op_assign rfl) rfl rfl ?_) | ((with_reducible refine ik_makeSlice ?_); refine wo_op rfl (op_mkSlI N rfl rfl hmul' Tryz.underlying41 zs3 zb3 zz3 rfl (by omega) (by omega)) rfl rfl ?_) | ((with_reducible refine ik_box ?_); refine wo_op rfl (op_boxAgg rfl zs25 rfl) rfl rfl ?_) | ((with_reducible refine ik_fieldAddr ?_); first | refine wo_op rfl (op_fieldAddr (o := 4) rfl Tryz.underlying25 rfl zs3 rfl) rfl rfl ?_ | refine wo_op rfl (op_fieldAddr (o := 5) rfl Tryz.underlying25 rfl zs3 rfl) rfl rfl ?_) | ((with_reducible refine ik_load ?_); refine wo_op rfl (op_ldAt rfl at_A Tryz.underlying3 rfl rfl) rfl rfl ?_) | ((with_reducible refine ik_bin ?_); refine wo_op rfl (op_mul' rfl rfl (w64 (by omega) (by omega))) rfl rfl ?_) | ((with_reducible refine ik_callb ?_); refine wo_op rfl (op_lenSl rfl Tryz.underlying41) rfl rfl ?_)) | with_reducible refine sq_norm ?_ | with_reducible refine wc_seq ?_ | with_reducible refine wc_region ?_ | with_reducible refine wc_block ?_)
  refine wc_cut (ι := Nat × Nat) (fun b => [(1, .slice ca m cc), (2, .slice a0 n c0), (3, .pointer (some ⟨b.1, 0, some 0⟩)), (7, .slice (some ⟨b.2, 0, some 0⟩) N N), (8, .int .i64 0)]) (fun b h' => (h.nx ≤ b.1 ∧ h.nx ≤ b.2 ∧ b.1 ≠ b.2) ∧ Wf h' ∧ Grow h h' ∧ At h' b.1 (.cells [.int .i64 ox, .int .i64 oy, .int .i64 w, .int .i64 u, .int .i64 p, .int .i64 q] 25 6 false) ∧ At h' b.2 (.cells ((List.replicate N (0 : Int)).map (.int .i64)) 3 1 false)) (h.nx, h.nx + 1) (within_lk ⟨rfl, rfl, rfl, rfl, rfl, trivial⟩) ⟨⟨Nat.le_refl _, by dsimp only; omega, by dsimp only; omega⟩, wf_A, gr_A, by dsimp only; exact at_A, by rw [List.map_replicate]; dsimp only; exact at_A⟩ ?_
  clear hw
  rintro ⟨B3, E⟩ h1 ⟨⟨z1, z2, z3⟩, w1, g1, a3, ae⟩
  dsimp only at z1 z2 z3 a3 ae ⊢
  refine wc_loop (fun k => n - k) (fun k : Nat => [(1, .slice ca m cc), (2, .slice a0 n c0), (3, .pointer (some ⟨B3, 0, some 0⟩)), (7, .slice (some ⟨E, 0, some 0⟩) N N), (8, .int .i64 k)]) (fun k h' => (Wf h' ∧ Grow h h' ∧ At h' B3 (.cells [.int .i64 ox, .int .i64 oy, .int .i64 w, .int .i64 u, .int .i64 p, .int .i64 q] 25 6 false) ∧ At h' E (.cells ((covV ox oy w u p q cl N (vsOf (ts.take k))).map (.int .i64)) 3 1 false)) ∧ k ≤ n) 0 (within_lk ⟨rfl, rfl, rfl, rfl, rfl, trivial⟩) ⟨⟨w1, g1, a3, by rw [show vsOf (ts.take 0) = [] from rfl, covV_nil]; exact ae⟩, Nat.zero_le _⟩ ?_
  clear w1 g1 a3 ae
  rintro k h1 ⟨⟨w1, g1, a3, ae⟩, hk⟩
  have l3 := a3.lt
  have le := ae.lt
  by_cases hlt : k < n
  · obtain ⟨ad, i1, i3⟩ := slN_at (s.grow g1) Tryz.underlying26 zs45 (i := (k : Int)) hlt rfl
    have ho := (s.grow g1).ok _ (List.getElem_mem (by omega : k < ts.length))
    have hr1 := hr _ (List.getElem_mem (by omega : k < ts.length))
    have he1 := hok _ (List.getElem_mem (by omega : k < ts.length))
    have e1 : vsOf (ts.take (k + 1)) = vsOf (ts.take k) ++ [(ts[k]'(by omega)).V] := by
      unfold vsOf; rw [List.take_succ_eq_append_getElem (by omega), List.map_append, List.map_singleton]
    have hin0 : AllIn 32768 (covV ox oy w u p q cl N (vsOf (ts.take k))) := (covV_in (fun V hV => by
      unfold vsOf at hV
      obtain ⟨t, ht, rfl⟩ := List.mem_map.1 hV
      exact hok t (List.mem_of_mem_take ht))).le (by unfold vsOf; rw [List.length_map, List.length_take]; omega)
    have hl0 : (covV ox oy w u p q cl N (vsOf (ts.take k))).length = N := covV_len
    have e2 := covV_snoc (ox := ox) (oy := oy) (w := w) (u := u) (p := p) (q := q) (cl := cl) (N := N) (vs := vsOf (ts.take k)) (V := (ts[k]'(by omega)).V)
    rw [← e1] at e2
    have hpl := plsV_len he1
    have hpi := plsV_in he1
    generalize covV ox oy w u p q cl N (vsOf (ts.take k)) = L0 at ae hin0 hl0 e2
    obtain ⟨t, ht⟩ : ∃ t, ts[k]'(by omega) = t := ⟨_, rfl⟩
    rw [ht] at i3 ho hr1 he1 e2 hpl hpi
    obtain ⟨⟨nm, x, y, tx, ty, sh, nx, ny, px, py, ch, rf⟩, ta, tc⟩ := t
    obtain ⟨so⟩ := ho
    dsimp only [LnM.cells] at i3
    dsimp only at so hr1 he1 e2 hpl hpi
    rw [errL_eq] at he1
    obtain ⟨sh, ch, rfl, rfl, _, _, bd⟩ := nums_lnok (lnE_inv he1).2.1
    clear he1 ht e1 hok hr
    have hS := bd.hS
    have hC := bd.hC
    have q19 := fun (h' : H) (r : Grow h1 h') (w' : Wf h') => c19 (nm := nm) (so.grow r) hr1 bd w'
    change covV ox oy w u p q cl N (vsOf (ts.take (k + 1))) = covP ox oy w u p q cl L0 (plsP x y tx ty nx ny px py rf ch sh) at e2
    change (plsP x y tx ty nx ny px py rf ch sh).length ≤ 1024 at hpl
    change ∀ P ∈ plsP x y tx ty nx ny px py rf ch sh, PlIn P at hpi
    generalize plsP x y tx ty nx ny px py rf ch sh = ps at q19 e2 hpl hpi
    repeat' (first | with_reducible refine wo_nil ?_ | ((with_reducible refine wo_any ?_); first | ((with_reducible refine ik_move ?_); refine wo_op rfl (op_move rfl) rfl rfl ?_) | ((with_reducible refine ik_assign ?_); refine wo_op rfl (op_assign rfl) rfl rfl ?_) | ((with_reducible refine ik_indexAddr ?_); refine wo_op rfl (op_indexAddr rfl rfl i1) rfl rfl ?_) | ((with_reducible refine ik_load ?_); refine wo_op rfl (op_ldLn rfl Tryz.underlying45 rfl zs45 i3.all) rfl rfl ?_) | ((with_reducible refine ik_bin ?_); refine wo_op rfl (op_lss rfl rfl) rfl rfl ?_) | ((with_reducible refine ik_callb ?_); refine wo_op rfl (op_lenSl rfl Tryz.underlying26) rfl rfl ?_) | ((with_reducible refine ik_callv ?_); (refine wo_call rfl rfl rfl rfl (q19 _ gr_A wf_A) rfl rfl ?_; rintro _ _ ⟨sp, hq⟩; all_goals ((try (have hqn := hq.nx)); (try simp only [H.nx_push, H.nx_set, H.nx_bump] at hqn))))) | with_reducible refine sq_norm ?_ | with_reducible refine wc_seq ?_ | with_reducible refine wc_region ?_ | with_reducible refine wc_skip ?_ | with_reducible refine wc_block ?_ | (refine wc_if rfl (fun hb => ?_) (fun hb => dead_A hb); (try simp only [decide_eq_true_eq, decide_eq_false_iff_not, Bool.not_eq_true', Bool.not_eq_false', Int.not_lt, Int.not_le, Decidable.not_not, not_true_eq_false, not_false_eq_true, beq_self_eq_true, reduceCtorEq] at hb)))
    rename_i vv _
    obtain ⟨pa, pc, rfl⟩ := sp.form
    refine wc_cut (ι := Unit) (fun _ => [(1, .slice ca m cc), (2, .slice a0 n c0), (3, .pointer (some ⟨B3, 0, some 0⟩)), (7, .slice (some ⟨E, 0, some 0⟩) N N), (8, .int .i64 k), (9, .slice pa ps.length pc), (10, .int .i64 0)]) (fun _ h' => Wf h' ∧ Grow h h' ∧ At h' B3 (.cells [.int .i64 ox, .int .i64 oy, .int .i64 w, .int .i64 u, .int .i64 p, .int .i64 q] 25 6 false) ∧ At h' E (.cells (L0.map (.int .i64)) 3 1 false) ∧ Sl G h' 4 (.slice pa ps.length pc) ps.length (ps.flatMap Pl.cells)) () (within_lk ⟨rfl, rfl, rfl, rfl, rfl, rfl, rfl, trivial⟩) ⟨wf_A, gr_A, at_A, at_A, sp⟩ ?_
    clear w1 g1 a3 ae sp so q19 i1 i3 hq
    rintro _ h2 ⟨w1, g1, a3, ae, sp⟩
    refine wc_loop (fun j => ps.length - j) (fun j : Nat => [(1, .slice ca m cc), (2, .slice a0 n c0), (3, .pointer (some ⟨B3, 0, some 0⟩)), (7, .slice (some ⟨E, 0, some 0⟩) N N), (8, .int .i64 k), (9, .slice pa ps.length pc), (10, .int .i64 j)]) (fun j h' => (Wf h' ∧ Grow h h' ∧ At h' B3 (.cells [.int .i64 ox, .int .i64 oy, .int .i64 w, .int .i64 u, .int .i64 p, .int .i64 q] 25 6 false) ∧ At h' E (.cells ((covP ox oy w u p q cl L0 (ps.take j)).map (.int .i64)) 3 1 false) ∧ Sl G h' 4 (.slice pa ps.length pc) ps.length (ps.flatMap Pl.cells)) ∧ j ≤ ps.length) 0 (within_lk ⟨rfl, rfl, rfl, rfl, rfl, rfl, rfl, trivial⟩) ⟨⟨w1, g1, a3, by rw [List.take_zero, covP_nil]; exact ae, sp⟩, Nat.zero_le _⟩ ?_
    clear w1 g1 a3 ae sp
    rintro j h1 ⟨⟨w1, g1, a3, ae, sp⟩, hj⟩
    have l3 := a3.lt
    have le := ae.lt
    by_cases hjt : j < ps.length
    · obtain ⟨ad, i1, i3⟩ := slP_at sp rfl Tryz.underlying47 zs126 (i := (j : Int)) hjt rfl
      obtain ⟨⟨ha, hb⟩, hc, hd⟩ := hpi _ (List.getElem_mem hjt)
      have hln : (covP ox oy w u p q cl L0 (ps.take j)).length = N := by rw [covP_len]; exact hl0
      have hav := (covP_in (ox := ox) (oy := oy) (w := w) (u := u) (p := p) (q := q) (cl := cl) (ps := ps.take j) hin0).le (K := 65536) (by rw [List.length_take]; omega)
      have stp := covP_snoc (ox := ox) (oy := oy) (w := w) (u := u) (p := p) (q := q) (cl := cl) (l := L0) (ps := ps.take j) (P := ps[j])
      rw [← List.take_succ_eq_append_getElem hjt] at stp
      generalize covP ox oy w u p q cl L0 (ps.take j) = L at hln hav stp ae
      obtain ⟨P, hP⟩ : ∃ P, ps[j] = P := ⟨_, rfl⟩
      rw [hP] at i3 ha hb hc hd stp
      obtain ⟨X, Z, U, V⟩ := P
      unfold stepP at stp
      rw [hcl] at stp
      dsimp only [Pl.cells] at i3
      dsimp only at ha hb hc hd stp
      have q105 := fun (h' : H) (w' : Wf h') => c105 (G := G) (h := h') g.o1 g.o2 g.w1 g.w2 g.u1 g.u2 g.p1 g.p2 g.q1 g.q2 ha hb hc hd w'
      have q106 := fun (h' : H) (r : Grow h h') (w' : Wf h') => c106 (sc.grow r) (by omega) ha hb hc hd w'
      have rb := bin_rng (a := X) (b := Z) (c := U) (d := V) g hB
      have rk := cls_rng0 cl (sqD X Z U V)
      rw [hcl] at rk
      obtain ⟨bn, hbn⟩ : ∃ b, binI ox oy w u p q X Z U V = b := ⟨_, rfl⟩
      obtain ⟨kn, hkn⟩ : ∃ b, clsG cl (sqD X Z U V) 0 = b := ⟨_, rfl⟩
      rw [hbn] at q105 rb stp
      rw [hkn] at q106 rk stp
      clear hbn hkn ha hb hc hd hP
      by_cases hh : 0 ≤ bn ∧ 0 ≤ kn
      · obtain ⟨hh1, hh2⟩ := hh
        obtain ⟨o, ho1, ho2⟩ := hit_idx hh1 hh2 rb.2 rk.2 hN
        have hm0 : 0 ≤ bn * (m : Int) := Int.mul_nonneg hh1 (by omega)
        rw [hit_at hh1 hh2 ho1] at stp
        have hgt := map_getI (l := L) (o := o) (by omega)
        have hav := hav.getD o
        have hst := map_setI (l := L) (o := o) (x := L.getD o 0 + 1)
        rw [← stp] at hst
        generalize L.getD o 0 = z at hgt hav hst
        repeat' (first | with_reducible refine wo_nil ?_ | ((with_reducible refine wo_any ?_); first | ((with_reducible refine ik_move ?_); refine wo_op rfl (op_move rfl) rfl rfl ?_) | ((with_reducible refine ik_assign ?_); refine wo_op rfl (op_assign rfl) rfl rfl ?_) | ((with_reducible refine ik_indexAddr ?_); refine wo_op rfl (op_idxSl (b := E) (o := o) rfl rfl Tryz.underlying41 zs3 (by omega) (by omega) (by omega)) rfl rfl ?_) | ((with_reducible refine ik_load ?_); refine wo_op rfl (op_ldIdx (b := E) rfl at_A Tryz.underlying3 rfl hgt) rfl rfl ?_) | ((with_reducible refine ik_store ?_); refine wo_op0 rfl (op_stIdx (b := E) rfl rfl at_A rfl zs3 (by rw [List.length_map]; omega) rfl hst) rfl ?_) | ((with_reducible refine ik_bin ?_); first | refine wo_op rfl (op_mul' rfl rfl (w64 (by omega) (by omega))) rfl rfl ?_ | refine wo_op rfl (op_lss rfl rfl) rfl rfl ?_ | refine wo_op rfl (op_geq rfl rfl) rfl rfl ?_ | refine wo_op rfl (op_add' rfl rfl (w64 (by omega) (by omega))) rfl rfl ?_) | ((with_reducible refine ik_callb ?_); first | refine wo_op rfl (op_lenSl rfl Tryz.underlying41) rfl rfl ?_ | refine wo_op rfl (op_lenSl rfl Tryz.underlying47) rfl rfl ?_) | ((with_reducible refine ik_pick ?_); refine wo_op rfl (op_pickt rfl rfl) rfl rfl ?_) | ((with_reducible refine ik_g ?_); first | ((with_reducible refine ig_move ?_); refine wo_grun rfl rfl rfl (op_move rfl) rfl rfl ?_) | ((with_reducible refine ig_bin ?_); refine wo_grun rfl rfl rfl (op_geq rfl rfl) rfl rfl ?_) | (refine wo_gsplit rfl rfl rfl (fun hb => ?_) (fun hb => dead_A hb); (try simp only [decide_eq_true_eq, decide_eq_false_iff_not, Bool.not_eq_true', Bool.not_eq_false', Int.not_lt, Int.not_le, Decidable.not_not, not_true_eq_false, not_false_eq_true, beq_self_eq_true, reduceCtorEq] at hb)))) | ((with_reducible refine xk_any ?_); ((with_reducible refine xk_as0 ?_); first | ((with_reducible refine xk_move ?_); refine wx_q (wt_none rfl) rfl rfl (op_q rfl (op_move rfl)) rfl rfl rfl ?_) | ((with_reducible refine xk_assign ?_); refine wx_q (wt_none rfl) rfl rfl (op_q rfl (op_assign rfl)) rfl rfl rfl ?_) | ((with_reducible refine xk_indexAddr ?_); refine wx_q (wt_none rfl) rfl rfl (op_q rfl (op_indexAddr rfl rfl i1)) rfl rfl rfl ?_) | ((with_reducible refine xk_load ?_); first | refine wx_h0 (wt_none rfl) rfl (op_q rfl (op_ldLn rfl Tryz.underlying126 rfl zs126 (i3 _ gr_A).all)) rfl rfl rfl ?_ | refine wx_h0 (wt_none rfl) rfl (op_q rfl (op_ldAgg rfl at_A Tryz.underlying25 rfl zs25 rfl rfl)) rfl rfl rfl ?_) | ((with_reducible refine xk_callv ?_); first | (refine wx_call0 (wt_none rfl) rfl rfl rfl rfl (q105 _ wf_A) rfl rfl ?_; rintro _ _ ⟨rfl, hq⟩; all_goals ((try (have hqn := hq.nx)); (try simp only [H.nx_push, H.nx_set, H.nx_bump] at hqn))) | (refine wx_call0 (wt_none rfl) rfl rfl rfl rfl (q106 _ gr_A wf_A) rfl rfl ?_; rintro _ _ ⟨rfl, hq⟩; all_goals ((try (have hqn := hq.nx)); (try simp only [H.nx_push, H.nx_set, H.nx_bump] at hqn)))) | with_reducible refine wx_nil0 ?_ ?_)) | with_reducible exact obl_nil | with_reducible refine obl_cons ?_ ?_ | ((with_reducible refine ik_obs ?_); first | exact obs_nil | refine obs_skip rfl ?_ | refine obs_chkn rfl rfl (op_q rfl (op_ldLn rfl Tryz.underlying126 rfl zs126 (i3 _ gr_A).all)) ?_ | refine obs_chkn rfl rfl (op_q rfl (op_ldAgg rfl at_A Tryz.underlying25 rfl zs25 (by rfl) rfl)) ?_) | with_reducible refine sq_norm ?_ | with_reducible refine wc_seq ?_ | with_reducible refine wc_region ?_ | with_reducible refine wc_skip ?_ | with_reducible refine wc_block ?_ | with_reducible refine bq_norm ?_ | (refine wc_if rfl (fun hb => ?_) (fun hb => dead_A hb); (try simp only [decide_eq_true_eq, decide_eq_false_iff_not, Bool.not_eq_true', Bool.not_eq_false', Int.not_lt, Int.not_le, Decidable.not_not, not_true_eq_false, not_false_eq_true, beq_self_eq_true, reduceCtorEq] at hb)) | refine wc_drawB (id := 9) 14 [0, 0, 0, 6, 14, 31, 0, 0, 0, 384, 896, 2047, 4095, 8191] [0, 1, 2, 3, 4, 5, 6, 7, 8, 9, 10, 11, 12, 13] (by kernel_rfl) (by kernel_rfl) rfl rfl ?_)
        exact lq_norm (j + 1) (by omega) (within_lk ⟨rfl, rfl, rfl, rfl, rfl, rfl, rfl, trivial⟩) ⟨⟨wf_A, gr_A, at_A, at_A, Sl.set_at (sp.grow (show Grow h1 _ from gr_A)) (show At _ E (.cells (L.map (.int .i64)) 3 1 false) from at_A) (by decide)⟩, by omega⟩
      · rw [hit_no hh] at stp
        by_cases h0b : 0 ≤ bn
        · have h0k : ¬0 ≤ kn := fun q => hh ⟨h0b, q⟩
          repeat' (first | with_reducible refine wo_nil ?_ | ((with_reducible refine wo_any ?_); first | ((with_reducible refine ik_move ?_); refine wo_op rfl (op_move rfl) rfl rfl ?_) | ((with_reducible refine ik_assign ?_); refine wo_op rfl (op_assign rfl) rfl rfl ?_) | ((with_reducible refine ik_bin ?_); first | refine wo_op rfl (op_lss rfl rfl) rfl rfl ?_ | refine wo_op rfl (op_geq rfl rfl) rfl rfl ?_ | refine wo_op rfl (op_add' rfl rfl (w64 (by omega) (by omega))) rfl rfl ?_) | ((with_reducible refine ik_callb ?_); refine wo_op rfl (op_lenSl rfl Tryz.underlying47) rfl rfl ?_) | ((with_reducible refine ik_pick ?_); refine wo_op rfl (op_pickt rfl rfl) rfl rfl ?_) | ((with_reducible refine ik_g ?_); first | ((with_reducible refine ig_move ?_); refine wo_grun rfl rfl rfl (op_move rfl) rfl rfl ?_) | ((with_reducible refine ig_bin ?_); refine wo_grun rfl rfl rfl (op_geq rfl rfl) rfl rfl ?_) | (refine wo_gsplit rfl rfl rfl (fun hb => ?_) (fun hb => dead_A hb); (try simp only [decide_eq_true_eq, decide_eq_false_iff_not, Bool.not_eq_true', Bool.not_eq_false', Int.not_lt, Int.not_le, Decidable.not_not, not_true_eq_false, not_false_eq_true, beq_self_eq_true, reduceCtorEq] at hb)))) | ((with_reducible refine xk_any ?_); ((with_reducible refine xk_as0 ?_); first | ((with_reducible refine xk_move ?_); refine wx_q (wt_none rfl) rfl rfl (op_q rfl (op_move rfl)) rfl rfl rfl ?_) | ((with_reducible refine xk_assign ?_); refine wx_q (wt_none rfl) rfl rfl (op_q rfl (op_assign rfl)) rfl rfl rfl ?_) | ((with_reducible refine xk_indexAddr ?_); refine wx_q (wt_none rfl) rfl rfl (op_q rfl (op_indexAddr rfl rfl i1)) rfl rfl rfl ?_) | ((with_reducible refine xk_load ?_); first | refine wx_h0 (wt_none rfl) rfl (op_q rfl (op_ldLn rfl Tryz.underlying126 rfl zs126 (i3 _ gr_A).all)) rfl rfl rfl ?_ | refine wx_h0 (wt_none rfl) rfl (op_q rfl (op_ldAgg rfl at_A Tryz.underlying25 rfl zs25 rfl rfl)) rfl rfl rfl ?_) | ((with_reducible refine xk_callv ?_); first | (refine wx_call0 (wt_none rfl) rfl rfl rfl rfl (q105 _ wf_A) rfl rfl ?_; rintro _ _ ⟨rfl, hq⟩; all_goals ((try (have hqn := hq.nx)); (try simp only [H.nx_push, H.nx_set, H.nx_bump] at hqn))) | (refine wx_call0 (wt_none rfl) rfl rfl rfl rfl (q106 _ gr_A wf_A) rfl rfl ?_; rintro _ _ ⟨rfl, hq⟩; all_goals ((try (have hqn := hq.nx)); (try simp only [H.nx_push, H.nx_set, H.nx_bump] at hqn)))) | with_reducible refine wx_nil0 ?_ ?_)) | with_reducible exact obl_nil | with_reducible refine obl_cons ?_ ?_ | ((with_reducible refine ik_obs ?_); first | exact obs_nil | refine obs_skip rfl ?_ | refine obs_chkn rfl rfl (op_q rfl (op_ldLn rfl Tryz.underlying126 rfl zs126 (i3 _ gr_A).all)) ?_ | refine obs_chkn rfl rfl (op_q rfl (op_ldAgg rfl at_A Tryz.underlying25 rfl zs25 (by rfl) rfl)) ?_) | with_reducible refine sq_norm ?_ | with_reducible refine wc_seq ?_ | with_reducible refine wc_region ?_ | with_reducible refine wc_skip ?_ | with_reducible refine wc_block ?_ | with_reducible refine bq_norm ?_ | (refine wc_if rfl (fun hb => dead_A hb) (fun hb => ?_); (try simp only [decide_eq_true_eq, decide_eq_false_iff_not, Bool.not_eq_true', Bool.not_eq_false', Int.not_lt, Int.not_le, Decidable.not_not, not_true_eq_false, not_false_eq_true, beq_self_eq_true, reduceCtorEq] at hb)) | (refine wc_if rfl (fun hb => ?_) (fun hb => dead_A hb); (try simp only [decide_eq_true_eq, decide_eq_false_iff_not, Bool.not_eq_true', Bool.not_eq_false', Int.not_lt, Int.not_le, Decidable.not_not, not_true_eq_false, not_false_eq_true, beq_self_eq_true, reduceCtorEq] at hb)) | refine wc_drawB (id := 9) 14 [0, 0, 0, 6, 14, 31, 0, 0, 0, 384, 896, 2047, 4095, 8191] [0, 1, 2, 3, 4, 5, 6, 7, 8, 9, 10, 11, 12, 13] (by kernel_rfl) (by kernel_rfl) rfl rfl ?_)
          exact lq_norm (j + 1) (by omega) (within_lk ⟨rfl, rfl, rfl, rfl, rfl, rfl, rfl, trivial⟩) ⟨⟨wf_A, gr_A, at_A, by rw [stp]; exact at_A, sp.grow (show Grow h1 _ from gr_A)⟩, by omega⟩
        · repeat' (first | with_reducible refine wo_nil ?_ | ((with_reducible refine wo_any ?_); first | ((with_reducible refine ik_move ?_); refine wo_op rfl (op_move rfl) rfl rfl ?_) | ((with_reducible refine ik_assign ?_); refine wo_op rfl (op_assign rfl) rfl rfl ?_) | ((with_reducible refine ik_bin ?_); first | refine wo_op rfl (op_lss rfl rfl) rfl rfl ?_ | refine wo_op rfl (op_geq rfl rfl) rfl rfl ?_ | refine wo_op rfl (op_add' rfl rfl (w64 (by omega) (by omega))) rfl rfl ?_) | ((with_reducible refine ik_callb ?_); refine wo_op rfl (op_lenSl rfl Tryz.underlying47) rfl rfl ?_) | ((with_reducible refine ik_pick ?_); refine wo_op rfl (op_pickf rfl rfl) rfl rfl ?_) | ((with_reducible refine ik_g ?_); first | refine wo_gskip rfl rfl rfl rfl rfl rfl ?_ | (refine wo_gsplit rfl rfl rfl (fun hb => dead_A hb) (fun hb => ?_); (try simp only [decide_eq_true_eq, decide_eq_false_iff_not, Bool.not_eq_true', Bool.not_eq_false', Int.not_lt, Int.not_le, Decidable.not_not, not_true_eq_false, not_false_eq_true, beq_self_eq_true, reduceCtorEq] at hb)))) | ((with_reducible refine xk_any ?_); ((with_reducible refine xk_as0 ?_); first | ((with_reducible refine xk_move ?_); refine wx_q (wt_none rfl) rfl rfl (op_q rfl (op_move rfl)) rfl rfl rfl ?_) | ((with_reducible refine xk_assign ?_); refine wx_q (wt_none rfl) rfl rfl (op_q rfl (op_assign rfl)) rfl rfl rfl ?_) | ((with_reducible refine xk_indexAddr ?_); refine wx_q (wt_none rfl) rfl rfl (op_q rfl (op_indexAddr rfl rfl i1)) rfl rfl rfl ?_) | ((with_reducible refine xk_load ?_); first | refine wx_h0 (wt_none rfl) rfl (op_q rfl (op_ldLn rfl Tryz.underlying126 rfl zs126 (i3 _ gr_A).all)) rfl rfl rfl ?_ | refine wx_h0 (wt_none rfl) rfl (op_q rfl (op_ldAgg rfl at_A Tryz.underlying25 rfl zs25 rfl rfl)) rfl rfl rfl ?_) | ((with_reducible refine xk_callv ?_); first | (refine wx_call0 (wt_none rfl) rfl rfl rfl rfl (q105 _ wf_A) rfl rfl ?_; rintro _ _ ⟨rfl, hq⟩; all_goals ((try (have hqn := hq.nx)); (try simp only [H.nx_push, H.nx_set, H.nx_bump] at hqn))) | (refine wx_call0 (wt_none rfl) rfl rfl rfl rfl (q106 _ gr_A wf_A) rfl rfl ?_; rintro _ _ ⟨rfl, hq⟩; all_goals ((try (have hqn := hq.nx)); (try simp only [H.nx_push, H.nx_set, H.nx_bump] at hqn)))) | with_reducible refine wx_nil0 ?_ ?_)) | with_reducible exact obl_nil | with_reducible refine obl_cons ?_ ?_ | ((with_reducible refine ik_obs ?_); first | exact obs_nil | refine obs_skip rfl ?_ | refine obs_chkn rfl rfl (op_q rfl (op_ldLn rfl Tryz.underlying126 rfl zs126 (i3 _ gr_A).all)) ?_ | refine obs_chkn rfl rfl (op_q rfl (op_ldAgg rfl at_A Tryz.underlying25 rfl zs25 (by rfl) rfl)) ?_) | with_reducible refine sq_norm ?_ | with_reducible refine wc_seq ?_ | with_reducible refine wc_region ?_ | with_reducible refine wc_skip ?_ | with_reducible refine wc_block ?_ | with_reducible refine bq_norm ?_ | refine wc_iff rfl ?_ | (refine wc_if rfl (fun hb => ?_) (fun hb => dead_A hb); (try simp only [decide_eq_true_eq, decide_eq_false_iff_not, Bool.not_eq_true', Bool.not_eq_false', Int.not_lt, Int.not_le, Decidable.not_not, not_true_eq_false, not_false_eq_true, beq_self_eq_true, reduceCtorEq] at hb)) | refine wc_drawB (id := 9) 14 [0, 0, 0, 6, 14, 31, 0, 0, 0, 384, 896, 2047, 4095, 8191] [0, 1, 2, 3, 4, 5, 6, 7, 8, 9, 10, 11, 12, 13] (by kernel_rfl) (by kernel_rfl) rfl rfl ?_)
          exact lq_norm (j + 1) (by omega) (within_lk ⟨rfl, rfl, rfl, rfl, rfl, rfl, rfl, trivial⟩) ⟨⟨wf_A, gr_A, at_A, by rw [stp]; exact at_A, sp.grow (show Grow h1 _ from gr_A)⟩, by omega⟩
    · have hjn : j = ps.length := by omega
      subst hjn
      rw [List.take_length, ← e2] at ae
      repeat' (first | with_reducible refine wo_nil ?_ | ((with_reducible refine wo_any ?_); first | ((with_reducible refine ik_move ?_); refine wo_op rfl (op_move rfl) rfl rfl ?_) | ((with_reducible refine ik_assign ?_); refine wo_op rfl (op_assign rfl) rfl rfl ?_) | ((with_reducible refine ik_bin ?_); first | refine wo_op rfl (op_lss rfl rfl) rfl rfl ?_ | refine wo_op rfl (op_add' rfl rfl (w64 (by omega) (by omega))) rfl rfl ?_) | ((with_reducible refine ik_callb ?_); refine wo_op rfl (op_lenSl rfl Tryz.underlying47) rfl rfl ?_)) | with_reducible refine sq_norm ?_ | with_reducible refine wc_seq ?_ | with_reducible refine wc_region ?_ | with_reducible refine wc_exit ?_ | with_reducible refine bq_norm ?_ | with_reducible refine sq_exit ?_ | with_reducible refine lq_exit ?_ | refine bq_eq rfl ?_ | (refine wc_if rfl (fun hb => ?_) (fun hb => ?_) <;> (try simp only [decide_eq_true_eq, decide_eq_false_iff_not, Bool.not_eq_true', Bool.not_eq_false', Int.not_lt, Int.not_le, Decidable.not_not, not_true_eq_false, not_false_eq_true, beq_self_eq_true, reduceCtorEq] at hb) <;> (try (exfalso; omega))))
      exact lq_norm (k + 1) (by omega) (within_lk ⟨rfl, rfl, rfl, rfl, rfl, trivial⟩) ⟨⟨wf_A, gr_A, at_A, at_A⟩, by omega⟩
  · have hkn : k = n := by omega
    subst hkn
    rw [List.take_of_length_le (by omega)] at ae
    repeat' (first | with_reducible refine wo_nil ?_ | ((with_reducible refine wo_any ?_); first | ((with_reducible refine ik_move ?_); refine wo_op rfl (op_move rfl) rfl rfl ?_) | ((with_reducible refine ik_assign ?_); refine wo_op rfl (op_assign rfl) rfl rfl ?_) | ((with_reducible refine ik_bin ?_); refine wo_op rfl (op_lss rfl rfl) rfl rfl ?_) | ((with_reducible refine ik_callb ?_); refine wo_op rfl (op_lenSl rfl Tryz.underlying26) rfl rfl ?_)) | with_reducible refine sq_norm ?_ | with_reducible refine wc_seq ?_ | with_reducible refine wc_region ?_ | with_reducible refine wc_ret ?_ | with_reducible refine wc_exit ?_ | with_reducible refine sq_exit ?_ | with_reducible refine lq_exit ?_ | refine bq_eq rfl ?_ | (refine wc_if rfl (fun hb => ?_) (fun hb => ?_) <;> (try simp only [decide_eq_true_eq, decide_eq_false_iff_not, Bool.not_eq_true', Bool.not_eq_false', Int.not_lt, Int.not_le, Decidable.not_not, not_true_eq_false, not_false_eq_true, beq_self_eq_true, reduceCtorEq] at hb) <;> (try (exfalso; omega))))
    refine rq1 rfl ⟨⟨E, by omega, by rw [covV_len], ae⟩, gr_A⟩
end Go.Proofs.YtnkmencbnoipmaaGreatDoor
