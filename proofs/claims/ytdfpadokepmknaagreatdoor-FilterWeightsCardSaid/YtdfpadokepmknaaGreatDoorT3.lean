/- Gains; spikes by the reference. -/
import Derived.Test.YtdfpadokepmknaaGreatDoorH1
import Derived.Test.YtdfpadokepmknaaGreatDoorT2
set_option linter.all false
/- Lists with weights that grow, by the program and by the reference. -/
namespace Go.Proofs.YtdfpadokepmknaaGreatDoor
open Go Go.Ab Go.Fl
attribute [local irreducible] SeqQ BlkQ LpQ RetQ Wc Wo WD WX Op1 Op1q Op1a Cf Cl From
attribute [local irreducible] Ieee.Format.order Ieee.Format.read Ieee.Format.nearest Ieee.Format.write Ieee.Format.mul Ieee.Format.div Ieee.Datum.order Ieee.Datum.integral smpE smp smpW K J U sumN lchk tchk trE hdrE appL undL undA undI wr ghoL rnd mulL dghL dghA rngE notN innL lowN lowD madeE pairE subL subF firstNZ
set_option maxRecDepth 10000
variable {G : Base} {h : H}

def gaiF (l : List Int) (f d : Int) (i : Nat) : Int := rnd (l.getD i 0 * ((i : Int) + f)) d
def gaiL (l : List Int) (f d : Int) : List Int := (List.range l.length).map (gaiF l f d)
theorem gai_prod {l : List Int} (hl : ∀ z ∈ l, z.natAbs ≤ 16384) {f : Int} (h0 : 0 ≤ f) (h1 : f ≤ 1024) {i : Nat} (hi : i < 1024) : (l.getD i 0 * ((i : Int) + f)).natAbs ≤ 16384 * 2048 :=
  prod_bound (getD_bound hl i) (by omega)
theorem gaiL_bound {l : List Int} (hl : ∀ z ∈ l, z.natAbs ≤ 16384) (hn : l.length ≤ 1024) {f d : Int} (h0 : 0 ≤ f) (h1 : f ≤ 1024) (hd : 0 < d) (hd2 : d ≤ 1024) : ∀ z ∈ gaiL l f d, z.natAbs ≤ 1000000000000 := fun z hz => by
  unfold gaiL at hz
  obtain ⟨i, hi, rfl⟩ := List.mem_map.1 hz
  have hi := List.mem_range.1 hi
  unfold gaiF
  have := gai_prod hl h0 h1 (i := i) (by omega)
  have := rnd_le (a := l.getD i 0 * ((i : Int) + f)) hd
  omega
set_option maxHeartbeats 2000000 in
theorem c54 {v : Value} {n : Nat} {l : List Int} {f d : Int} (s : Sl G h 1 v n (l.map (.int .i64))) (hn : n ≤ 1024) (hl0 : ∀ z ∈ l, z.natAbs ≤ 16384) (h0 : 0 ≤ f) (h1 : f ≤ 1024) (d0 : 1 ≤ d) (d1 : d ≤ 1024) (hw : Wf h) :
    Cf (mz G) (.func (.func 54) #[] #[]) [v, .int .i64 f, .int .i64 d] h fun r h' => (∃ a c, r = .slice a n c ∧ Sl G h' 1 (.slice a n c) n ((gaiL l f d).map (.int .i64))) ∧ Grow h h' := by
  obtain ⟨b, c, rfl⟩ := s.form
  have hl := s.length
  simp at hl
  have hg : gaiL l f d = (List.range n).map (gaiF l f d) := by unfold gaiL; rw [hl]
  rw [hg]
  refine cf_enter0 29 [.tmp 6] Tryz.func54 rfl rfl rfl rfl ?_
  repeat' (first | with_reducible refine wo_nil ?_ | ((with_reducible refine wo_any ?_); ((with_reducible refine ik_assign ?_); refine wo_op rfl (op_assign rfl) rfl rfl ?_)) | with_reducible refine sq_norm ?_ | with_reducible refine wc_seq ?_ | with_reducible refine wc_region ?_ | with_reducible refine wc_block ?_)
  refine wc_loop (fun p : Nat × Value => n - p.1) (fun p => [(0, .slice b n c), (1, .int .i64 f), (2, .int .i64 d), (7, p.2), (8, .int .i64 (p.1 : Nat))]) (fun p h' => (Wf h' ∧ Ow h h' 3 1 p.2 p.1 (((List.range p.1).map (gaiF l f d)).map (.int .i64))) ∧ p.1 ≤ n) (0, .slice none 0 0) (within_lk ⟨rfl, rfl, rfl, rfl, rfl, trivial⟩) ⟨⟨hw, .nil (.refl _)⟩, Nat.zero_le _⟩ ?_
  rintro ⟨i, r⟩ h1' ⟨⟨w1, ow⟩, hi⟩
  simp only at ow hi ⊢
  by_cases hlt : i < n
  · obtain ⟨d1', i1, i3⟩ := slI_at (s.grow ow.grow) (i := (i : Int)) (q := i) hlt rfl
    have hp := gai_prod hl0 h0 h1 (i := i) (by omega)
    have hF : gaiF l f d i = rnd (l.getD i 0 * ((i : Int) + f)) d := rfl
    obtain ⟨x, hx⟩ : ∃ x, l.getD i 0 = x := ⟨_, rfl⟩
    rw [hx] at i3 hF hp
    have o1 : IntKind.wrap .i64 (x * ((i : Int) + f)) = x * ((i : Int) + f) := w64 (by omega) (by omega)
    have q93 := fun h' : H => c93 (G := G) (h := h') (a := x * ((i : Int) + f)) (b := d) (by omega) (by omega) (by omega)
    obtain ⟨R, hR⟩ : ∃ R, rnd (x * ((i : Int) + f)) d = R := ⟨_, rfl⟩
    rw [hR] at hF q93
    obtain ⟨r2, h3, hap, ow3, _, hwf, _⟩ := append_ow (M := mz G) (st := 22) (xt := 22) (h := h1'.push (.cells [.int .i64 R] 3 1 false)) (new := [.int .i64 R]) (m := 1) Tryz.underlying22 Tryz.underlying22 rfl zs3 zb3 zz3 rfl (ow.next ((Grow.refl _).push _)) (Sl.ofAt (At.new _ _) rfl (Nat.le_refl _)) rfl (by omega)
    rw [← hF, rowI_step (gaiF l f d) i] at ow3
    repeat' (first | with_reducible refine wo_nil ?_ | ((with_reducible refine wo_any ?_); first | ((with_reducible refine ik_move ?_); refine wo_op rfl (op_move rfl) rfl rfl ?_) | ((with_reducible refine ik_assign ?_); refine wo_op rfl (op_assign rfl) rfl rfl ?_) | ((with_reducible refine ik_indexAddr ?_); refine wo_op rfl (op_indexAddr rfl rfl i1) rfl rfl ?_) | ((with_reducible refine ik_load ?_); refine wo_op rfl (op_ldCell rfl Tryz.underlying3 rfl i3) rfl rfl ?_) | ((with_reducible refine ik_bin ?_); first | refine wo_op rfl (op_mul' rfl rfl o1) rfl rfl ?_ | refine wo_op rfl (op_lss rfl rfl) rfl rfl ?_ | refine wo_op rfl (op_add' rfl rfl (w64 (by omega) (by omega))) rfl rfl ?_) | ((with_reducible refine ik_callb ?_); first | refine wo_op rfl (op_append rfl rfl hap) rfl rfl ?_ | refine wo_op rfl (op_lenSl rfl Tryz.underlying22) rfl rfl ?_) | ((with_reducible refine ik_buildSlice ?_); refine wo_op rfl (op_buildSl rfl Tryz.underlying22 zs3 zz3 rfl rfl) rfl rfl ?_) | ((with_reducible refine ik_callv ?_); refine wo_op rfl (op_call rfl rfl (q93 _)) rfl rfl ?_)) | with_reducible refine sq_norm ?_ | with_reducible refine wc_seq ?_ | with_reducible refine wc_region ?_ | with_reducible refine wc_skip ?_ | with_reducible refine wc_block ?_ | with_reducible refine bq_norm ?_ | (refine wc_if rfl (fun hb => ?_) (fun hb => dead_A hb); (try simp only [decide_eq_true_eq, decide_eq_false_iff_not, Bool.not_eq_true', Bool.not_eq_false', Int.not_lt, Int.not_le, Decidable.not_not, not_true_eq_false, not_false_eq_true, beq_self_eq_true, reduceCtorEq] at hb)))
    exact lq_norm (i + 1, r2) (by simp only; omega) (within_lk ⟨rfl, rfl, rfl, rfl, rfl, trivial⟩) ⟨⟨hwf wf_A, ow3⟩, by simp only; omega⟩
  · have hin : i = n := by omega
    subst hin
    have hs := ow.sl (G := G)
    obtain ⟨a2, c2, rfl⟩ := hs.form
    repeat' (first | with_reducible refine wo_nil ?_ | ((with_reducible refine wo_any ?_); first | ((with_reducible refine ik_move ?_); refine wo_op rfl (op_move rfl) rfl rfl ?_) | ((with_reducible refine ik_assign ?_); refine wo_op rfl (op_assign rfl) rfl rfl ?_) | ((with_reducible refine ik_callb ?_); refine wo_op rfl (op_lenSl rfl Tryz.underlying22) rfl rfl ?_) | ((with_reducible refine ik_bin ?_); refine wo_op rfl (op_lss rfl rfl) rfl rfl ?_)) | with_reducible refine sq_norm ?_ | with_reducible refine wc_seq ?_ | with_reducible refine wc_region ?_ | with_reducible refine wc_ret ?_ | with_reducible refine wc_exit ?_ | with_reducible refine sq_exit ?_ | with_reducible refine lq_exit ?_ | refine bq_eq rfl ?_ | (refine wc_if rfl (fun hb => ?_) (fun hb => ?_) <;> (try simp only [decide_eq_true_eq, decide_eq_false_iff_not, Bool.not_eq_true', Bool.not_eq_false', Int.not_lt, Int.not_le, Decidable.not_not, not_true_eq_false, not_false_eq_true, beq_self_eq_true, reduceCtorEq] at hb) <;> (try (exfalso; omega))))
    exact rq1 rfl ⟨⟨_, _, rfl, hs⟩, ow.grow⟩
set_option maxHeartbeats 4000000 in
theorem c52 {v : Value} {n : Nat} {l : List Nat} (f d : Int) (u : Sl G h 1 v n (l.map (.float .f32))) (hn : n < 1000000) (hw : Wf h) (hG : ∀ a v, laidBase a = some v → G a = some v) :
    Cf (mz G) (.func (.func 52) #[] #[]) [v, .int .i64 f, .int .i64 d] h fun r h' => MadeF G h' r n (madeE (firstNZ [lchk l, rngE f 0 1024, rngE d 1 1024]) (gaiL (l.map smp) f d)) (gaiL (l.map smp) f d) ∧ Grow h h' := by
  obtain ⟨b, c, rfl⟩ := u.form
  have hl := u.length
  simp at hl
  have q73 := fun (h' : H) (g : Grow h h') (w' : Wf h') => c73 (u.grow g) hn w' hG
  have q89 := fun (h : H) => c89 (G := G) (h := h) f 0 1024
  have r89 := fun (h : H) => c89 (G := G) (h := h) d 1 1024
  have q72 := fun (h' : H) (v : Value) (s : Sl G h' 1 v 3 ([lchk l, rngE f 0 1024, rngE d 1 1024].map (.int .i64))) => c72 s (by omega)
  obtain ⟨e1, he1⟩ : ∃ e, lchk l = e := ⟨_, rfl⟩
  obtain ⟨e2, he2⟩ : ∃ e, rngE f 0 1024 = e := ⟨_, rfl⟩
  obtain ⟨e3, he3⟩ : ∃ e, rngE d 1 1024 = e := ⟨_, rfl⟩
  obtain ⟨E, hE⟩ : ∃ e, firstNZ [e1, e2, e3] = e := ⟨_, rfl⟩
  rw [he1] at q73
  rw [he2] at q89
  rw [he3] at r89
  rw [he1, he2, he3, hE] at q72
  rw [he1, he2, he3, hE]
  by_cases hz : E = 0
  · have z := firstNZ_zero (hE.trans hz)
    subst hz
    obtain ⟨k1, k2⟩ := lchk_ok (he1.trans (z e1 (by simp)))
    have hf := rng_ok (he2.trans (z e2 (by simp)))
    have hd := rng_ok (he3.trans (z e3 (by simp)))
    have sb := smp_bound k2
    have hX : (l.map smp).length = n := by simpa using hl
    obtain ⟨X, hXX⟩ : ∃ L, l.map smp = L := ⟨_, rfl⟩
    have q76 := fun (h' : H) (g : Grow h h') (w' : Wf h') => c76o (u.grow g) hn k2 w'
    rw [hXX] at sb hX q76 ⊢
    have hbd := gaiL_bound sb (by omega) hf.1 hf.2 (show 0 < d by omega) hd.2
    have hLn : (gaiL X f d).length = n := by simp [gaiL, hX]
    have hg : gaiL X f d = (List.range n).map (gaiF X f d) := by unfold gaiL; rw [hX]
    refine cf_enter0 47 [.tmp 6, .tmp 7] Tryz.func52 rfl rfl rfl rfl ?_
    repeat' (first | with_reducible refine wo_nil ?_ | ((with_reducible refine wo_any ?_); first | ((with_reducible refine ik_move ?_); refine wo_op rfl (op_move rfl) rfl rfl ?_) | ((with_reducible refine ik_assign ?_); refine wo_op rfl (op_assign rfl) rfl rfl ?_) | ((with_reducible refine ik_buildSlice ?_); refine wo_op rfl (op_buildSl rfl Tryz.underlying163 zs29 zz29 rfl rfl) rfl rfl ?_) | ((with_reducible refine ik_bin ?_); refine wo_op rfl (op_neq rfl rfl) rfl rfl ?_) | ((with_reducible refine ik_callb ?_); refine wo_op rfl (op_lenSl rfl Tryz.underlying22) rfl rfl ?_) | ((with_reducible refine ik_callv ?_); first | refine wo_op rfl (op_call rfl rfl (q89 _)) rfl rfl ?_ | refine wo_op rfl (op_call rfl rfl (r89 _)) rfl rfl ?_ | refine wo_op rfl (op_call rfl rfl (q72 _ _ (Sl.ofAt (show At _ _ (.cells [.int .i64 e1, .int .i64 e2, .int .i64 e3] 29 1 false) from at_A) rfl (Nat.le_refl _)))) rfl rfl ?_ | (refine wo_call rfl rfl rfl rfl (q73 _ gr_A wf_A) rfl rfl ?_; rintro _ _ ⟨rfl, hq⟩; all_goals ((try (have hqn := hq.nx)); (try simp only [H.nx_push, H.nx_set, H.nx_bump] at hqn))) | (refine wo_call rfl rfl rfl rfl (q76 _ gr_A wf_A) rfl rfl ?_; rintro _ _ ⟨⟨rfl, at9⟩, hq⟩; all_goals ((try (have hqn := hq.nx)); (try simp only [H.nx_push, H.nx_set, H.nx_bump] at hqn))))) | with_reducible refine sq_norm ?_ | with_reducible refine wc_seq ?_ | with_reducible refine wc_region ?_ | with_reducible refine wc_skip ?_ | with_reducible refine wc_block ?_ | refine wc_iff rfl ?_)
    refine wc_cut (ι := Nat) (fun i => [(0, .slice b n c), (1, .int .i64 f), (2, .int .i64 d), (9, .slice (some ⟨i, 0, some 0⟩) n n), (25, .slice (some ⟨i, 0, some 0⟩) n n), (26, .int .i64 n), (27, .int .i64 0)]) (fun i h' => (Wf h' ∧ Grow h h') ∧ h.nx ≤ i ∧ At h' i (.cells (X.map (.int .i64)) 3 1 false)) _ (within_lk ⟨rfl, rfl, rfl, rfl, rfl, rfl, rfl, trivial⟩) ⟨⟨wf_A, gr_A⟩, ne_A, at_A⟩ ?_
    rintro B g0 ⟨⟨wg, gg⟩, hB, aB⟩
    have eX : (List.range n).map (fun k => if k < 0 then gaiF X f d k else X.getD k 0) = X := by
      have := take_row X
      rw [hX] at this
      simpa using this
    refine wc_loop (fun i => n - i) (fun i : Nat => [(1, .int .i64 f), (2, .int .i64 d), (9, .slice (some ⟨B, 0, some 0⟩) n n), (25, .slice (some ⟨B, 0, some 0⟩) n n), (26, .int .i64 n), (27, .int .i64 i)])
      (fun i h' => ((Wf h' ∧ Grow h h') ∧ At h' B (.cells (((List.range n).map (fun k => if k < i then gaiF X f d k else X.getD k 0)).map (.int .i64)) 3 1 false)) ∧ i ≤ n) 0 (within_lk ⟨rfl, rfl, rfl, rfl, rfl, rfl, trivial⟩) ⟨⟨⟨wg, gg⟩, by rw [eX]; exact aB⟩, Nat.zero_le _⟩ ?_
    clear wg gg aB
    rintro i h3 ⟨⟨⟨w3, g3⟩, a9⟩, hi⟩
    have l9 := a9.lt
    by_cases hlt : i < n
    · have v8 := row_get (f := fun k => if k < i then gaiF X f d k else X.getD k 0) (n := n) (o := i) hlt
      rw [if_neg (by omega)] at v8
      have hp := gai_prod sb hf.1 hf.2 (i := i) (by omega)
      have hF : gaiF X f d i = rnd (X.getD i 0 * ((i : Int) + f)) d := rfl
      have hset := row_set (n := n) (o := i) (u := gaiF X f d i) (f := fun k => if k < i then gaiF X f d k else X.getD k 0) (g := fun k => if k < i + 1 then gaiF X f d k else X.getD k 0) (by rw [if_pos (by omega)]) (fun k hk => by
        by_cases q : k < i
        · rw [if_pos q, if_pos (by omega)]
        · rw [if_neg q, if_neg (by omega)])
      obtain ⟨x, hx⟩ : ∃ x, X.getD i 0 = x := ⟨_, rfl⟩
      obtain ⟨R, hR⟩ : ∃ x, gaiF X f d i = x := ⟨_, rfl⟩
      rw [hx] at v8 hF hp
      rw [hR] at hF hset
      have o1 : IntKind.wrap .i64 (x * ((i : Int) + f)) = x * ((i : Int) + f) := w64 (by omega) (by omega)
      have q95 := fun h' : H => c95 (G := G) (h := h') (a := x * ((i : Int) + f)) (b := d) (by omega) (by omega) (by omega)
      rw [← hF] at q95
      repeat' (first | with_reducible refine wo_nil ?_ | ((with_reducible refine wo_any ?_); first | ((with_reducible refine ik_move ?_); refine wo_op rfl (op_move rfl) rfl rfl ?_) | ((with_reducible refine ik_assign ?_); refine wo_op rfl (op_assign rfl) rfl rfl ?_) | ((with_reducible refine ik_indexAddr ?_); refine wo_op rfl (op_idxSl (o := i) rfl rfl Tryz.underlying22 zs3 (by omega) (by omega) (by omega)) rfl rfl ?_) | ((with_reducible refine ik_load ?_); refine wo_op rfl (op_ldIdx rfl at_A Tryz.underlying3 rfl v8) rfl rfl ?_) | ((with_reducible refine ik_bin ?_); first | refine wo_op rfl (op_mul' rfl rfl o1) rfl rfl ?_ | refine wo_op rfl (op_lss rfl rfl) rfl rfl ?_ | refine wo_op rfl (op_add' rfl rfl (w64 (by omega) (by omega))) rfl rfl ?_) | ((with_reducible refine ik_store ?_); refine wo_op0 rfl (op_stIdx rfl rfl at_A rfl zs3 (by simp; omega) rfl hset) rfl ?_) | ((with_reducible refine ik_callv ?_); refine wo_op rfl (op_call rfl rfl (q95 _)) rfl rfl ?_)) | with_reducible refine sq_norm ?_ | with_reducible refine wc_seq ?_ | with_reducible refine wc_region ?_ | with_reducible refine wc_skip ?_ | with_reducible refine wc_block ?_ | with_reducible refine bq_norm ?_ | (refine wc_if rfl (fun hb => ?_) (fun hb => ?_) <;> (try simp only [decide_eq_true_eq, decide_eq_false_iff_not, Bool.not_eq_true', Bool.not_eq_false', Int.not_lt, Int.not_le, Decidable.not_not, not_true_eq_false, not_false_eq_true, beq_self_eq_true, reduceCtorEq] at hb) <;> (try (exfalso; omega))))
      exact lq_norm (i + 1) (by omega) (within_lk ⟨rfl, rfl, rfl, rfl, rfl, rfl, trivial⟩) ⟨⟨⟨wf_A, gr_A⟩, at_A⟩, by omega⟩
    · have hin : i = n := by omega
      subst hin
      have e : (List.range i).map (fun k => if k < i then gaiF X f d k else X.getD k 0) = gaiL X f d := by
        rw [hg]
        exact List.map_congr_left fun k hk => by rw [if_pos (List.mem_range.1 hk)]
      rw [e] at a9
      repeat' (first | with_reducible refine wo_nil ?_ | ((with_reducible refine wo_any ?_); first | ((with_reducible refine ik_move ?_); refine wo_op rfl (op_move rfl) rfl rfl ?_) | ((with_reducible refine ik_assign ?_); refine wo_op rfl (op_assign rfl) rfl rfl ?_) | ((with_reducible refine ik_bin ?_); refine wo_op rfl (op_lss rfl rfl) rfl rfl ?_) | ((with_reducible refine ik_extract ?_); refine wo_op rfl (op_extract rfl rfl) rfl rfl ?_) | ((with_reducible refine ik_callF (f := 74) ?_); (refine wo_call rfl rfl rfl rfl (c74m (Sl.ofAt a9 (by simp [hLn]) (Nat.le_refl _)) (by omega) wf_A hbd) rfl rfl ?_; rintro _ _ ⟨⟨U1, E1, rfl, mf⟩, hq⟩; all_goals ((try (have hqn := hq.nx)); (try simp only [H.nx_push, H.nx_set, H.nx_bump] at hqn))))) | with_reducible refine sq_norm ?_ | with_reducible refine wc_seq ?_ | with_reducible refine wc_region ?_ | with_reducible refine wc_ret ?_ | with_reducible refine wc_exit ?_ | with_reducible refine sq_exit ?_ | with_reducible refine lq_exit ?_ | refine bq_eq rfl ?_ | (refine wc_if rfl (fun hb => ?_) (fun hb => ?_) <;> (try simp only [decide_eq_true_eq, decide_eq_false_iff_not, Bool.not_eq_true', Bool.not_eq_false', Int.not_lt, Int.not_le, Decidable.not_not, not_true_eq_false, not_false_eq_true, beq_self_eq_true, reduceCtorEq] at hb) <;> (try (exfalso; omega))))
      exact rq2 rfl rfl ⟨mf, gr_A⟩
  · refine cf_enter0 47 [.tmp 6, .tmp 7] Tryz.func52 rfl rfl rfl rfl ?_
    repeat' (first | with_reducible refine wo_nil ?_ | ((with_reducible refine wo_any ?_); first | ((with_reducible refine ik_move ?_); refine wo_op rfl (op_move rfl) rfl rfl ?_) | ((with_reducible refine ik_assign ?_); refine wo_op rfl (op_assign rfl) rfl rfl ?_) | ((with_reducible refine ik_buildSlice ?_); refine wo_op rfl (op_buildSl rfl Tryz.underlying163 zs29 zz29 rfl rfl) rfl rfl ?_) | ((with_reducible refine ik_bin ?_); refine wo_op rfl (op_neq rfl rfl) rfl rfl ?_) | ((with_reducible refine ik_callv ?_); first | refine wo_op rfl (op_call rfl rfl (q89 _)) rfl rfl ?_ | refine wo_op rfl (op_call rfl rfl (r89 _)) rfl rfl ?_ | refine wo_op rfl (op_call rfl rfl (q72 _ _ (Sl.ofAt (show At _ _ (.cells [.int .i64 e1, .int .i64 e2, .int .i64 e3] 29 1 false) from at_A) rfl (Nat.le_refl _)))) rfl rfl ?_ | (refine wo_call rfl rfl rfl rfl (q73 _ gr_A wf_A) rfl rfl ?_; rintro _ _ ⟨rfl, hq⟩; all_goals ((try (have hqn := hq.nx)); (try simp only [H.nx_push, H.nx_set, H.nx_bump] at hqn))))) | with_reducible refine sq_norm ?_ | with_reducible refine wc_seq ?_ | with_reducible refine wc_region ?_ | with_reducible refine wc_ret ?_ | with_reducible refine sq_ret ?_ | (refine wc_if rfl (fun hb => ?_) (fun hb => ?_) <;> (try simp only [decide_eq_true_eq, decide_eq_false_iff_not, Bool.not_eq_true', Bool.not_eq_false', Int.not_lt, Int.not_le, Decidable.not_not, not_true_eq_false, not_false_eq_true, beq_self_eq_true, reduceCtorEq] at hb) <;> (try (exfalso; omega))))
    refine rq2 rfl rfl ⟨.inl ?_, gr_A⟩
    unfold madeE
    rw [if_pos hz]
    exact ⟨hz, rfl⟩
end Go.Proofs.YtdfpadokepmknaaGreatDoor

/- Spikes by the reference: medians of three. -/
namespace Go.Proofs.YtdfpadokepmknaaGreatDoor
open Go Go.Ab Go.Fl
attribute [local irreducible] SeqQ BlkQ LpQ RetQ Wc Wo WD WX Op1 Op1q Op1a Cf Cl From
attribute [local irreducible] Ieee.Format.order Ieee.Format.read Ieee.Format.nearest Ieee.Format.write Ieee.Format.mul Ieee.Format.div Ieee.Datum.order Ieee.Datum.integral smpE smp smpW K J U sumN lchk tchk trE hdrE appL undL undA undI wr ghoL rnd mulL dghL dghA rngE notN innL lowN lowD madeE pairE subL subF firstNZ gaiL gaiF
set_option maxRecDepth 10000
variable {G : Base} {h : H}

theorem op_min {M : Mc} {l : KL} {h : H} {x y : Operand} {a b : Int} {k : IntKind} {tys : Array TypeId} (hx : val l x = some (.int k a)) (hy : val l y = some (.int k b)) : Op1 M (.call ⟨.builtin .min, #[x, y], tys⟩) l h (.int k (min a b)) h :=
  op_blt fun e he => by
    have h1 := he.val (x := x) (by simp [Op.operands, Call.operands]) hx
    have h2 := he.val (x := y) (by simp [Op.operands, Call.operands]) hy
    have hp : prun M.P (Builtin.min_ tys 0 ⟨[.int k a, .int k b]⟩) = some (.int k (min a b)) := by
      show prun M.P (Builtin.min2 (.int k a) (.int k b) >>= fun s => List.foldlM Builtin.min2 s []) = _
      by_cases hab : b < a
      · have : min a b = b := by omega
        rw [this]
        simp only [Builtin.min2, List.foldlM_nil, if_pos hab]
        rfl
      · have : min a b = a := by omega
        rw [this]
        simp only [Builtin.min2, List.foldlM_nil, if_neg hab]
        rfl
    simp [aop, h1, h2, gd, gnd, hp]
/-- The middle one of three. -/
def medZ (a b c : Int) : Int := max (min a b) (min (max a b) c)
theorem c99 (a b c : Int) : Cl (mz G) (.func (.func 99) #[] #[]) [.int .i64 a, .int .i64 b, .int .i64 c] h (.int .i64 (medZ a b c)) h := by
  refine cl_of_cf (cf_enter0 16 [.tmp 6] Tryz.func99 rfl rfl rfl rfl ?_)
  repeat' (first | with_reducible refine wo_nil ?_ | ((with_reducible refine wo_any ?_); first | ((with_reducible refine ik_move ?_); refine wo_op rfl (op_move rfl) rfl rfl ?_) | ((with_reducible refine ik_assign ?_); refine wo_op rfl (op_assign rfl) rfl rfl ?_) | ((with_reducible refine ik_callb ?_); first | refine wo_op rfl (op_min rfl rfl) rfl rfl ?_ | refine wo_op rfl (op_max rfl rfl) rfl rfl ?_)) | with_reducible refine sq_norm ?_ | with_reducible refine wc_seq ?_ | with_reducible refine wc_region ?_ | with_reducible refine wc_ret ?_)
  exact rq1 rfl ⟨rfl, rfl⟩
theorem med_b {a b c : Int} (ha : a.natAbs ≤ 16384) (hb : b.natAbs ≤ 16384) (hc : c.natAbs ≤ 16384) : (medZ a b c).natAbs ≤ 16384 := by unfold medZ; omega
def spkV (a b c lim : Int) : Int := max (medZ a b c - lim) (min (medZ a b c + lim) b)
def spkF (l : List Int) (lim : Int) (i : Nat) : Int := if 0 < i ∧ i + 1 < l.length then spkV (l.getD (i - 1) 0) (l.getD i 0) (l.getD (i + 1) 0) lim else l.getD i 0
def spkL (l : List Int) (lim : Int) : List Int := (List.range l.length).map (spkF l lim)
attribute [local irreducible] medZ
set_option maxHeartbeats 2000000 in
theorem c53 {v : Value} {n : Nat} {l : List Int} {lim : Int} (s : Sl G h 1 v n (l.map (.int .i64))) (hn : n ≤ 1024) (hl0 : ∀ z ∈ l, z.natAbs ≤ 16384) (h0 : 0 ≤ lim) (h1 : lim ≤ 16384) (hw : Wf h) :
    Cf (mz G) (.func (.func 53) #[] #[]) [v, .int .i64 lim] h fun r h' => (∃ a c, r = .slice a n c ∧ Sl G h' 1 (.slice a n c) n ((spkL l lim).map (.int .i64))) ∧ Grow h h' := by
  obtain ⟨b, c, rfl⟩ := s.form
  have hl := s.length
  simp at hl
  have hg : spkL l lim = (List.range n).map (spkF l lim) := by unfold spkL; rw [hl]
  rw [hg]
  refine cf_enter0 57 [.tmp 4] Tryz.func53 rfl rfl rfl rfl ?_
  repeat' (first | with_reducible refine wo_nil ?_ | ((with_reducible refine wo_any ?_); ((with_reducible refine ik_assign ?_); refine wo_op rfl (op_assign rfl) rfl rfl ?_)) | with_reducible refine sq_norm ?_ | with_reducible refine wc_seq ?_ | with_reducible refine wc_region ?_ | with_reducible refine wc_block ?_)
  refine wc_loop (fun p : Nat × Value => n - p.1) (fun p => [(0, .slice b n c), (1, .int .i64 lim), (5, p.2), (6, .int .i64 (p.1 : Nat))]) (fun p h' => (Wf h' ∧ Ow h h' 3 1 p.2 p.1 (((List.range p.1).map (spkF l lim)).map (.int .i64))) ∧ p.1 ≤ n) (0, .slice none 0 0) (within_lk ⟨rfl, rfl, rfl, rfl, trivial⟩) ⟨⟨hw, .nil (.refl _)⟩, Nat.zero_le _⟩ ?_
  rintro ⟨i, r⟩ hh ⟨⟨w1, ow⟩, hi⟩
  simp only at ow hi ⊢
  by_cases hlt : i < n
  · obtain ⟨d1, i1, i3⟩ := slI_at (s.grow ow.grow) (i := (i : Int)) (q := i) hlt rfl
    have bx := getD_bound hl0 i
    by_cases hm : 0 < i ∧ i + 1 < n
    · obtain ⟨d2, j1, j3⟩ := slI_at (s.grow ow.grow) (i := (i : Int) - 1) (q := i - 1) (by omega) (by omega)
      obtain ⟨d3, k1, k3⟩ := slI_at (s.grow ow.grow) (i := (i : Int) + 1) (q := i + 1) (by omega) (by omega)
      have bY := getD_bound hl0 (i - 1)
      have bz := getD_bound hl0 (i + 1)
      have hF : spkF l lim i = spkV (l.getD (i - 1) 0) (l.getD i 0) (l.getD (i + 1) 0) lim := by unfold spkF; rw [if_pos (by omega)]
      obtain ⟨x, hx⟩ : ∃ x, l.getD i 0 = x := ⟨_, rfl⟩
      obtain ⟨y, hy⟩ : ∃ x, l.getD (i - 1) 0 = x := ⟨_, rfl⟩
      obtain ⟨z, hz⟩ : ∃ x, l.getD (i + 1) 0 = x := ⟨_, rfl⟩
      rw [hx] at i3 bx hF
      rw [hy] at j3 bY hF
      rw [hz] at k3 bz hF
      have bm := med_b bY bx bz
      have q99 := fun h' : H => c99 (G := G) (h := h') y x z
      unfold spkV at hF
      obtain ⟨m, hmm⟩ : ∃ m, medZ y x z = m := ⟨_, rfl⟩
      rw [hmm] at hF bm q99
      have gb : Grow hh (hh.bump 16) := (Grow.refl _).bumpB 16
      obtain ⟨r2, h3, hap, ow3, _, hwf, _⟩ := append_ow (M := mz G) (st := 22) (xt := 22) (h := H.push (hh.bump 16) (.cells [.int .i64 (max (m - lim) (min (m + lim) x))] 3 1 false)) (new := [.int .i64 (max (m - lim) (min (m + lim) x))]) (m := 1) Tryz.underlying22 Tryz.underlying22 rfl zs3 zb3 zz3 rfl (ow.next (gb.push _)) (Sl.ofAt (At.new _ _) rfl (Nat.le_refl _)) rfl (by omega)
      rw [← hF, rowI_step (spkF l lim) i] at ow3
      repeat' (first | with_reducible refine wo_nil ?_ | ((with_reducible refine wo_any ?_); first | ((with_reducible refine ik_move ?_); refine wo_op rfl (op_move rfl) rfl rfl ?_) | ((with_reducible refine ik_assign ?_); refine wo_op rfl (op_assign rfl) rfl rfl ?_) | ((with_reducible refine ik_indexAddr ?_); refine wo_op rfl (op_indexAddr rfl rfl i1) rfl rfl ?_) | ((with_reducible refine ik_load ?_); refine wo_op rfl (op_ldCell rfl Tryz.underlying3 rfl i3) rfl rfl ?_) | ((with_reducible refine ik_callb ?_); first | refine wo_op rfl (op_min rfl rfl) rfl rfl ?_ | refine wo_op rfl (op_append rfl rfl hap) rfl rfl ?_ | refine wo_op rfl (op_lenSl rfl Tryz.underlying22) rfl rfl ?_ | refine wo_op rfl (op_max rfl rfl) rfl rfl ?_) | ((with_reducible refine ik_bin ?_); first | refine wo_op rfl (op_lss rfl rfl) rfl rfl ?_ | refine wo_op rfl (op_gtr rfl rfl) rfl rfl ?_ | refine wo_op rfl (op_sub' rfl rfl (w64 (by omega) (by omega))) rfl rfl ?_ | refine wo_op rfl (op_add' rfl rfl (w64 (by omega) (by omega))) rfl rfl ?_) | ((with_reducible refine ik_pick ?_); refine wo_op rfl (op_pickt rfl rfl) rfl rfl ?_) | ((with_reducible refine ik_buildSlice ?_); refine wo_op rfl (op_buildSl rfl Tryz.underlying22 zs3 zz3 rfl rfl) rfl rfl ?_) | ((with_reducible refine ik_g ?_); first | ((with_reducible refine ig_move ?_); refine wo_grun rfl rfl rfl (op_move rfl) rfl rfl ?_) | ((with_reducible refine ig_callb ?_); refine wo_grun rfl rfl rfl (op_lenSl rfl Tryz.underlying22) rfl rfl ?_) | ((with_reducible refine ig_bin ?_); first | refine wo_grun rfl rfl rfl (op_lss rfl rfl) rfl rfl ?_ | refine wo_grun rfl rfl rfl (op_sub' rfl rfl (w64 (by omega) (by omega))) rfl rfl ?_) | (refine wo_gsplit rfl rfl rfl (fun hb => ?_) (fun hb => dead_A hb); (try simp only [decide_eq_true_eq, decide_eq_false_iff_not, Bool.not_eq_true', Bool.not_eq_false', Int.not_lt, Int.not_le, Decidable.not_not, not_true_eq_false, not_false_eq_true, beq_self_eq_true, reduceCtorEq] at hb)))) | ((with_reducible refine xk_any ?_); ((with_reducible refine xk_as0 ?_); first | ((with_reducible refine xk_move ?_); refine wx_q (wt_none rfl) rfl rfl (op_q rfl (op_move rfl)) rfl rfl rfl ?_) | ((with_reducible refine xk_assign ?_); refine wx_q (wt_none rfl) rfl rfl (op_q rfl (op_assign rfl)) rfl rfl rfl ?_) | ((with_reducible refine xk_indexAddr ?_); first | refine wx_q (wt_none rfl) rfl rfl (op_q rfl (op_indexAddr rfl rfl i1)) rfl rfl rfl ?_ | refine wx_q (wt_none rfl) rfl rfl (op_q rfl (op_indexAddr rfl rfl j1)) rfl rfl rfl ?_ | refine wx_q (wt_none rfl) rfl rfl (op_q rfl (op_indexAddr rfl rfl k1)) rfl rfl rfl ?_) | ((with_reducible refine xk_load ?_); first | refine wx_h0 (wt_none rfl) rfl (op_q rfl (op_ldCell rfl Tryz.underlying3 rfl i3)) rfl rfl rfl ?_ | refine wx_h0 (wt_none rfl) rfl (op_q rfl (op_ldCell rfl Tryz.underlying3 rfl j3)) rfl rfl rfl ?_ | refine wx_h0 (wt_none rfl) rfl (op_q rfl (op_ldCell rfl Tryz.underlying3 rfl k3)) rfl rfl rfl ?_) | ((with_reducible refine xk_bin ?_); first | refine wx_q (wt_none rfl) rfl rfl (op_q rfl (op_sub' rfl rfl (w64 (by omega) (by omega)))) rfl rfl rfl ?_ | refine wx_q (wt_none rfl) rfl rfl (op_q rfl (op_add' rfl rfl (w64 (by omega) (by omega)))) rfl rfl rfl ?_) | ((with_reducible refine xk_callv ?_); refine wx_ee (wt_none rfl) rfl rfl (op_call rfl rfl (q99 _)) rfl rfl ?_) | with_reducible refine wx_nil0 ?_ ?_)) | with_reducible exact obl_nil | with_reducible refine obl_cons ?_ ?_ | ((with_reducible refine ik_obs ?_); first | exact obs_nil | refine obs_skip rfl ?_ | refine obs_chkn rfl rfl (op_q rfl (op_ldCell rfl Tryz.underlying3 rfl i3)) ?_ | refine obs_chkn rfl rfl (op_q rfl (op_ldCell rfl Tryz.underlying3 rfl j3)) ?_ | refine obs_chkn rfl rfl (op_q rfl (op_ldCell rfl Tryz.underlying3 rfl k3)) ?_) | with_reducible refine sq_norm ?_ | with_reducible refine wc_seq ?_ | with_reducible refine wc_region ?_ | with_reducible refine wc_skip ?_ | with_reducible refine wc_block ?_ | with_reducible refine bq_norm ?_ | (refine wc_if rfl (fun hb => ?_) (fun hb => dead_A hb); (try simp only [decide_eq_true_eq, decide_eq_false_iff_not, Bool.not_eq_true', Bool.not_eq_false', Int.not_lt, Int.not_le, Decidable.not_not, not_true_eq_false, not_false_eq_true, beq_self_eq_true, reduceCtorEq] at hb)) | refine wc_drawB (id := 7) 16 [0, 0, 2, 7, 15, 0, 0, 96, 224, 0, 0, 1024, 3584, 7680, 16383, 32767] [0, 1, 2, 3, 4, 5, 6, 7, 8, 9, 10, 11, 12, 13, 14, 15] (by kernel_rfl) (by kernel_rfl) rfl rfl ?_)
      exact lq_norm (i + 1, r2) (by simp only; omega) (within_lk ⟨rfl, rfl, rfl, rfl, trivial⟩) ⟨⟨hwf wf_A, ow3⟩, by simp only; omega⟩
    · have hF : spkF l lim i = l.getD i 0 := by unfold spkF; rw [if_neg (by omega)]
      obtain ⟨x, hx⟩ : ∃ x, l.getD i 0 = x := ⟨_, rfl⟩
      rw [hx] at i3 bx hF
      obtain ⟨r2, h3, hap, ow3, _, hwf, _⟩ := append_ow (M := mz G) (st := 22) (xt := 22) (h := H.push hh (.cells [.int .i64 x] 3 1 false)) (new := [.int .i64 x]) (m := 1) Tryz.underlying22 Tryz.underlying22 rfl zs3 zb3 zz3 rfl (ow.next ((Grow.refl _).push _)) (Sl.ofAt (At.new _ _) rfl (Nat.le_refl _)) rfl (by omega)
      rw [← hF, rowI_step (spkF l lim) i] at ow3
      by_cases h0i : 0 < i
      · repeat' (first | with_reducible refine wo_nil ?_ | ((with_reducible refine wo_any ?_); first | ((with_reducible refine ik_move ?_); refine wo_op rfl (op_move rfl) rfl rfl ?_) | ((with_reducible refine ik_assign ?_); refine wo_op rfl (op_assign rfl) rfl rfl ?_) | ((with_reducible refine ik_indexAddr ?_); refine wo_op rfl (op_indexAddr rfl rfl i1) rfl rfl ?_) | ((with_reducible refine ik_load ?_); refine wo_op rfl (op_ldCell rfl Tryz.underlying3 rfl i3) rfl rfl ?_) | ((with_reducible refine ik_callb ?_); first | refine wo_op rfl (op_append rfl rfl hap) rfl rfl ?_ | refine wo_op rfl (op_lenSl rfl Tryz.underlying22) rfl rfl ?_) | ((with_reducible refine ik_bin ?_); first | refine wo_op rfl (op_lss rfl rfl) rfl rfl ?_ | refine wo_op rfl (op_gtr rfl rfl) rfl rfl ?_ | refine wo_op rfl (op_add' rfl rfl (w64 (by omega) (by omega))) rfl rfl ?_) | ((with_reducible refine ik_pick ?_); refine wo_op rfl (op_pickt rfl rfl) rfl rfl ?_) | ((with_reducible refine ik_buildSlice ?_); refine wo_op rfl (op_buildSl rfl Tryz.underlying22 zs3 zz3 rfl rfl) rfl rfl ?_) | ((with_reducible refine ik_g ?_); first | ((with_reducible refine ig_move ?_); refine wo_grun rfl rfl rfl (op_move rfl) rfl rfl ?_) | ((with_reducible refine ig_callb ?_); refine wo_grun rfl rfl rfl (op_lenSl rfl Tryz.underlying22) rfl rfl ?_) | ((with_reducible refine ig_bin ?_); first | refine wo_grun rfl rfl rfl (op_lss rfl rfl) rfl rfl ?_ | refine wo_grun rfl rfl rfl (op_sub' rfl rfl (w64 (by omega) (by omega))) rfl rfl ?_) | (refine wo_gsplit rfl rfl rfl (fun hb => ?_) (fun hb => ?_) <;> (try simp only [decide_eq_true_eq, decide_eq_false_iff_not, Bool.not_eq_true', Bool.not_eq_false', Int.not_lt, Int.not_le, Decidable.not_not, not_true_eq_false, not_false_eq_true, beq_self_eq_true, reduceCtorEq] at hb) <;> (try (exfalso; omega))))) | with_reducible refine sq_norm ?_ | with_reducible refine wc_seq ?_ | with_reducible refine wc_region ?_ | with_reducible refine wc_skip ?_ | with_reducible refine wc_block ?_ | with_reducible refine bq_norm ?_ | (refine wc_if rfl (fun hb => ?_) (fun hb => ?_) <;> (try simp only [decide_eq_true_eq, decide_eq_false_iff_not, Bool.not_eq_true', Bool.not_eq_false', Int.not_lt, Int.not_le, Decidable.not_not, not_true_eq_false, not_false_eq_true, beq_self_eq_true, reduceCtorEq] at hb) <;> (try (exfalso; omega))))
        all_goals exact lq_norm (i + 1, r2) (by simp only; omega) (within_lk ⟨rfl, rfl, rfl, rfl, trivial⟩) ⟨⟨hwf wf_A, ow3⟩, by simp only; omega⟩
      · repeat' (first | with_reducible refine wo_nil ?_ | ((with_reducible refine wo_any ?_); first | ((with_reducible refine ik_move ?_); refine wo_op rfl (op_move rfl) rfl rfl ?_) | ((with_reducible refine ik_assign ?_); refine wo_op rfl (op_assign rfl) rfl rfl ?_) | ((with_reducible refine ik_indexAddr ?_); refine wo_op rfl (op_indexAddr rfl rfl i1) rfl rfl ?_) | ((with_reducible refine ik_load ?_); refine wo_op rfl (op_ldCell rfl Tryz.underlying3 rfl i3) rfl rfl ?_) | ((with_reducible refine ik_callb ?_); first | refine wo_op rfl (op_append rfl rfl hap) rfl rfl ?_ | refine wo_op rfl (op_lenSl rfl Tryz.underlying22) rfl rfl ?_) | ((with_reducible refine ik_bin ?_); first | refine wo_op rfl (op_lss rfl rfl) rfl rfl ?_ | refine wo_op rfl (op_gtr rfl rfl) rfl rfl ?_ | refine wo_op rfl (op_add' rfl rfl (w64 (by omega) (by omega))) rfl rfl ?_) | ((with_reducible refine ik_pick ?_); refine wo_op rfl (op_pickf rfl rfl) rfl rfl ?_) | ((with_reducible refine ik_buildSlice ?_); refine wo_op rfl (op_buildSl rfl Tryz.underlying22 zs3 zz3 rfl rfl) rfl rfl ?_) | ((with_reducible refine ik_g ?_); first | refine wo_gskip rfl rfl rfl rfl rfl rfl ?_ | (refine wo_gsplit rfl rfl rfl (fun hb => ?_) (fun hb => ?_) <;> (try simp only [decide_eq_true_eq, decide_eq_false_iff_not, Bool.not_eq_true', Bool.not_eq_false', Int.not_lt, Int.not_le, Decidable.not_not, not_true_eq_false, not_false_eq_true, beq_self_eq_true, reduceCtorEq] at hb) <;> (try (exfalso; omega))))) | with_reducible refine sq_norm ?_ | with_reducible refine wc_seq ?_ | with_reducible refine wc_region ?_ | with_reducible refine wc_skip ?_ | with_reducible refine wc_block ?_ | with_reducible refine bq_norm ?_ | refine wc_iff rfl ?_ | (refine wc_if rfl (fun hb => ?_) (fun hb => ?_) <;> (try simp only [decide_eq_true_eq, decide_eq_false_iff_not, Bool.not_eq_true', Bool.not_eq_false', Int.not_lt, Int.not_le, Decidable.not_not, not_true_eq_false, not_false_eq_true, beq_self_eq_true, reduceCtorEq] at hb) <;> (try (exfalso; omega))))
        all_goals exact lq_norm (i + 1, r2) (by simp only; omega) (within_lk ⟨rfl, rfl, rfl, rfl, trivial⟩) ⟨⟨hwf wf_A, ow3⟩, by simp only; omega⟩
  · have hin : i = n := by omega
    subst hin
    have hs := ow.sl (G := G)
    obtain ⟨a2, c2, rfl⟩ := hs.form
    repeat' (first | with_reducible refine wo_nil ?_ | ((with_reducible refine wo_any ?_); first | ((with_reducible refine ik_move ?_); refine wo_op rfl (op_move rfl) rfl rfl ?_) | ((with_reducible refine ik_assign ?_); refine wo_op rfl (op_assign rfl) rfl rfl ?_) | ((with_reducible refine ik_callb ?_); refine wo_op rfl (op_lenSl rfl Tryz.underlying22) rfl rfl ?_) | ((with_reducible refine ik_bin ?_); refine wo_op rfl (op_lss rfl rfl) rfl rfl ?_)) | with_reducible refine sq_norm ?_ | with_reducible refine wc_seq ?_ | with_reducible refine wc_region ?_ | with_reducible refine wc_ret ?_ | with_reducible refine wc_exit ?_ | with_reducible refine sq_exit ?_ | with_reducible refine lq_exit ?_ | refine bq_eq rfl ?_ | (refine wc_if rfl (fun hb => ?_) (fun hb => ?_) <;> (try simp only [decide_eq_true_eq, decide_eq_false_iff_not, Bool.not_eq_true', Bool.not_eq_false', Int.not_lt, Int.not_le, Decidable.not_not, not_true_eq_false, not_false_eq_true, beq_self_eq_true, reduceCtorEq] at hb) <;> (try (exfalso; omega))))
    exact rq1 rfl ⟨⟨_, _, rfl, hs⟩, ow.grow⟩
end Go.Proofs.YtdfpadokepmknaaGreatDoor
