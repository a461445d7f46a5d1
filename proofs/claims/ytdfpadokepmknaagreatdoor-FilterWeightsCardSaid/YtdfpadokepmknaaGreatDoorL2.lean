/- The law FilterWeights, walked. -/
import Derived.Test.YtdfpadokepmknaaGreatDoorH1
import Derived.Test.YtdfpadokepmknaaGreatDoorT5
set_option linter.all false
/- The law FilterWeights, walked. -/
namespace Go.Proofs.YtdfpadokepmknaaGreatDoor
open Go Go.Ab Go.Fl
attribute [local irreducible] SeqQ BlkQ LpQ RetQ Wc Wo WD WX Op1 Op1q Op1a Cf Cl From
attribute [local irreducible] Ieee.Format.order Ieee.Format.read Ieee.Format.nearest Ieee.Format.write Ieee.Format.mul Ieee.Format.div Ieee.Datum.order Ieee.Datum.integral smpE smp smpW K J U sumN lchk tchk trE hdrE appL undL undA undI wr ghoL rnd mulL dghL dghA rngE notN innL lowN lowD madeE pairE subL subF firstNZ gaiL gaiF medZ spkL spkF anyLarge
set_option maxRecDepth 10000
variable {G : Base} {h : H}

section
variable {v : Value} {n : Nat} {l : List Nat}
theorem c51s (x : Int) (u : Sl G h 1 v n (l.map (.float .f32))) (hn : n < 1000000) (hw : Wf h) (hG : ∀ a v, laidBase a = some v → G a = some v) :
    Cf (mz G) (.func (.func 51) #[] #[]) [v, .int .i64 x] h fun r h' => (∃ i : Option Addr × Nat × Nat, r = .tuple #[.slice i.1 i.2.1 i.2.2, .int .i64 (madeE (firstNZ [lchk l, rngE x 0 16384]) (spkL (l.map smp) x))] ∧ MadeS G h' i n (madeE (firstNZ [lchk l, rngE x 0 16384]) (spkL (l.map smp) x)) (spkL (l.map smp) x)) ∧ Grow h h' :=
  (c51 x u hn hw hG).mono fun r h' ⟨q, g⟩ => ⟨made_s q, g⟩
theorem c52s (x y : Int) (u : Sl G h 1 v n (l.map (.float .f32))) (hn : n < 1000000) (hw : Wf h) (hG : ∀ a v, laidBase a = some v → G a = some v) :
    Cf (mz G) (.func (.func 52) #[] #[]) [v, .int .i64 x, .int .i64 y] h fun r h' => (∃ i : Option Addr × Nat × Nat, r = .tuple #[.slice i.1 i.2.1 i.2.2, .int .i64 (madeE (firstNZ [lchk l, rngE x 0 1024, rngE y 1 1024]) (gaiL (l.map smp) x y))] ∧ MadeS G h' i n (madeE (firstNZ [lchk l, rngE x 0 1024, rngE y 1 1024]) (gaiL (l.map smp) x y)) (gaiL (l.map smp) x y)) ∧ Grow h h' :=
  (c52 x y u hn hw hG).mono fun r h' ⟨q, g⟩ => ⟨made_s q, g⟩
end
theorem wx_eb2 {M : Mc} {ops : Array Oper} {rest : List Oper} {sz nx0 d : Nat} {R : KL → H → Prop} {m i abs j1 j2 : Nat} {o1 o2 : AObj} {ms ix es' : List Nat} {l : KL} {g g1 : H} {v : Value} {sts : List Stage} {obs : List OB} {o : Oper} (hw : Wt ops o sz l true) (hc : cls M.P o.op = .e) (hes : ((es'.all fun x => m.testBit x) && Nat.beq (m ||| abs) m) = true) (h1 : unseen m abs j1 = false) (h2 : unseen m abs j2 = true) (hop : Op1 M o.op l (g.set (nx0 + j2) o2) v g1) (hdo : o.dst = some d) (hd : Nat.blt d sz = true)
    (next : WX M ops nx0 sz R rest ms ix ((d, v) :: l) g1 m (i :: es') [(j1, o1), (j2, o2)] (⟨g, abs, some i⟩ :: sts) obs) : WX M ops nx0 sz R (o :: rest) (m :: ms) (i :: ix) l g abs es' [(j1, o1), (j2, o2)] sts obs := wx_e hw hc hes (by simp only [addAs, h1, h2]) hop hdo hd next
theorem stk_b2 {a j1 j2 k : Nat} {o1 o2 o : AObj} {hh : H} (hw : Wf hh) (h1 : a.testBit j1 = true) (hne : j2 ≠ j1) : (([(j1, o1)] ++ [(j2, o2)]).all fun q => a.testBit q.1 || (((hh.bump k).set (hh.nx + j1) o).get (hh.nx + q.1)).isNone) = true := by
  have : ((hh.bump k).set (hh.nx + j1) o).get (hh.nx + j2) = none := by
    rw [H.get_set, if_neg (by omega)]
    exact hw _ (Nat.le_add_right _ _)
  simp [h1, this]
/-- What the reference makes, if the arguments are good. -/
def GoodS (G : Base) (h : H) (i : Option Addr × Nat × Nat) (n : Nat) (B : Int) (L : List Int) : Prop := B ≠ 0 ∨ (B = 0 ∧ Sl G h 1 (.slice i.1 i.2.1 i.2.2) n (L.map (.int .i64)))
theorem GoodS.grow {h h' : H} {i : Option Addr × Nat × Nat} {n : Nat} {B : Int} {L : List Int} (m : GoodS G h i n B L) (g : Grow h h') : GoodS G h' i n B L := by
  rcases m with m | ⟨m1, m2⟩
  · exact .inl m
  · exact .inr ⟨m1, m2.grow g⟩
theorem heard_any {i j : Option Addr × Nat × Nat} {n : Nat} {B : Int} {L : List Int} (hn : n < 1000000) (m : MadeS G h i n (madeE B L) L) (q : GoodS G h j n B L) : HeardA G h i.1 i.2.1 i.2.2 (madeE B L) B (.slice j.1 j.2.1 j.2.2) L := by
  rcases q with q | ⟨q, s⟩
  · exact heard_bad q m
  · subst q; exact heard_good hn s m
set_option maxHeartbeats 4000000 in
theorem c7n {a : Option Addr} {n c : Nat} {x0 x1 x2 : Int} (hS : ¬(n ≤ 32 ∨ n = 1025)) (hw : Wf h) : Cf (mz G) (.func (.func 7) #[] #[]) [.slice a n c, .agg ⟨[.int .i64 x0, .int .i64 x1, .int .i64 x2]⟩] h fun r h' => r = .bool true ∧ Grow h h' := by
  have q20 := fun (h' : H) => c20 (G := G) (h := h') (a := a) (n := n) (c := c)
  rw [decide_eq_false hS] at q20
  refine cf_enter0 85 [.tmp 4] Tryz.func7 rfl rfl rfl rfl ?_
  repeat' (first | with_reducible refine wo_nil ?_ | ((with_reducible refine wo_any ?_); first | ((with_reducible refine ik_move ?_); refine wo_op rfl (op_move rfl) rfl rfl ?_) | ((with_reducible refine ik_assign ?_); refine wo_op rfl (op_assign rfl) rfl rfl ?_) | ((with_reducible refine ik_box ?_); refine wo_op rfl (op_boxAgg rfl zs80 rfl) rfl rfl ?_) | ((with_reducible refine ik_un ?_); refine wo_op rfl (op_not rfl) rfl rfl ?_) | ((with_reducible refine ik_pick ?_); refine wo_op rfl (op_pickf rfl rfl) rfl rfl ?_) | ((with_reducible refine ik_callF (f := 10) ?_); refine wo_op rfl (op_call rfl rfl (c10)) rfl rfl ?_) | ((with_reducible refine ik_g ?_); first | ((with_reducible refine ig_move ?_); refine wo_grun rfl rfl rfl (op_move rfl) rfl rfl ?_) | ((with_reducible refine ig_un ?_); refine wo_grun rfl rfl rfl (op_not rfl) rfl rfl ?_) | ((with_reducible refine ig_callv ?_); refine wo_grun rfl rfl rfl (op_call rfl rfl (q20 _)) rfl rfl ?_))) | with_reducible refine sq_norm ?_ | with_reducible refine wc_seq ?_ | with_reducible refine wc_region ?_ | with_reducible refine wc_ret ?_ | with_reducible refine sq_ret ?_ | refine wc_ift rfl ?_)
  all_goals exact rq1 rfl ⟨rfl, gr_A⟩
set_option maxHeartbeats 8000000 in
theorem c7m {a : Option Addr} {n c : Nat} {x0 x1 x2 : Int} {l : List Nat} (s : Sl G h 1 (.slice a n c) n (l.map (.float .f32))) (hS : n ≤ 32 ∨ n = 1025) (hw : Wf h) (hG : ∀ a v, laidBase a = some v → G a = some v) : Cf (mz G) (.func (.func 7) #[] #[]) [.slice a n c, .agg ⟨[.int .i64 x0, .int .i64 x1, .int .i64 x2]⟩] h fun r h' => r = .bool true ∧ Grow h h' := by
  have hl := s.length
  simp at hl
  have hn6 : n < 1000000 := by omega
  have q20 := fun (h' : H) => c20 (G := G) (h := h') (a := a) (n := n) (c := c)
  rw [decide_eq_true hS] at q20
  have q24 := fun (h' : H) (g : Grow h h') => c24 (s.grow g) hn6
  have q51 := fun (h' : H) (v : Value) (u : Sl G h' 1 v n (l.map (.float .f32))) (w' : Wf h') => c51s (G := G) (h := h') x0 u hn6 w' hG
  have q52 := fun (h' : H) (v : Value) (u : Sl G h' 1 v n (l.map (.float .f32))) (w' : Wf h') => c52s (G := G) (h := h') x1 x2 u hn6 w' hG
  have q36 := fun (h' : H) => c36 (G := G) (h := h') x0 0 16384
  have r36 := fun (h' : H) => c36 (G := G) (h := h') x1 0 1024
  have s36 := fun (h' : H) => c36 (G := G) (h := h') x2 1 1024
  have q23 := fun (h' : H) (v : Value) (u : Sl G h' 1 v 2 ([lchk l, rngE x0 0 16384].map (.int .i64))) => c23 u (by omega)
  have r23 := fun (h' : H) (v : Value) (u : Sl G h' 1 v 3 ([lchk l, rngE x1 0 1024, rngE x2 1 1024].map (.int .i64))) => c23 u (by omega)
  obtain ⟨K, hK⟩ : ∃ e, lchk l = e := ⟨_, rfl⟩
  obtain ⟨e0, he0⟩ : ∃ e, rngE x0 0 16384 = e := ⟨_, rfl⟩
  obtain ⟨e1, he1⟩ : ∃ e, rngE x1 0 1024 = e := ⟨_, rfl⟩
  obtain ⟨e2, he2⟩ : ∃ e, rngE x2 1 1024 = e := ⟨_, rfl⟩
  rw [hK] at q24
  rw [he0] at q36
  rw [he1] at r36
  rw [he2] at s36
  rw [hK, he0] at q51 q23
  rw [hK, he1, he2] at q52 r23
  obtain ⟨B1, hB1⟩ : ∃ e, firstNZ [K, e0] = e := ⟨_, rfl⟩
  obtain ⟨B2, hB2⟩ : ∃ e, firstNZ [K, e1, e2] = e := ⟨_, rfl⟩
  rw [hB1] at q51 q23
  rw [hB2] at q52 r23
  obtain ⟨X, hX⟩ : ∃ L, l.map smp = L := ⟨_, rfl⟩
  rw [hX] at q51 q52
  obtain ⟨L1, hL1⟩ : ∃ L, spkL X x0 = L := ⟨_, rfl⟩
  obtain ⟨L2, hL2⟩ : ∃ L, gaiL X x1 x2 = L := ⟨_, rfl⟩
  rw [hL1] at q51
  rw [hL2] at q52
  have q25 := fun (h' : H) (k : ∀ x ∈ l, smpE x = 0) (g : Grow h h') (w' : Wf h') => c25 (s.grow g) hn6 k w'
  rw [hX] at q25
  refine cf_enter0 85 [.tmp 4] Tryz.func7 rfl rfl rfl rfl ?_
  refine wc_mid (ι := Unit) (fun _ => [(0, .slice a n c), (3, .pointer (some ⟨h.nx, 0, some 0⟩))]) (fun _ h' => (Wf h' ∧ Grow h h') ∧ At h' h.nx (.cells [.int .i64 x0, .int .i64 x1, .int .i64 x2] 80 3 false)) ?_ ?_
  · repeat' (first | with_reducible refine wo_nil ?_ | ((with_reducible refine wo_any ?_); first | ((with_reducible refine ik_assign ?_); refine wo_op rfl (op_assign rfl) rfl rfl ?_) | ((with_reducible refine ik_box ?_); refine wo_op rfl (op_boxAgg rfl zs80 rfl) rfl rfl ?_)) | with_reducible refine wc_region ?_)
    exact ⟨rfl, (), within_lk ⟨rfl, rfl, trivial⟩, ⟨wf_A, gr_A⟩, at_A⟩
  rintro _ ha ⟨⟨wa, ga⟩, aa⟩
  have la := aa.lt
  refine wc_mid (ι := Unit) (fun _ => [(0, .slice a n c), (3, .pointer (some ⟨h.nx, 0, some 0⟩))]) (fun _ h' => (Wf h' ∧ Grow h h') ∧ At h' h.nx (.cells [.int .i64 x0, .int .i64 x1, .int .i64 x2] 80 3 false)) ?_ ?_
  · repeat' (first | with_reducible refine wo_nil ?_ | ((with_reducible refine wo_any ?_); first | ((with_reducible refine ik_move ?_); refine wo_op rfl (op_move rfl) rfl rfl ?_) | ((with_reducible refine ik_un ?_); refine wo_op rfl (op_not rfl) rfl rfl ?_) | ((with_reducible refine ik_pick ?_); refine wo_op rfl (op_pickf rfl rfl) rfl rfl ?_) | ((with_reducible refine ik_callF (f := 10) ?_); refine wo_op rfl (op_call rfl rfl (c10)) rfl rfl ?_) | ((with_reducible refine ik_g ?_); first | ((with_reducible refine ig_move ?_); refine wo_grun rfl rfl rfl (op_move rfl) rfl rfl ?_) | ((with_reducible refine ig_un ?_); refine wo_grun rfl rfl rfl (op_not rfl) rfl rfl ?_) | ((with_reducible refine ig_callv ?_); refine wo_grun rfl rfl rfl (op_call rfl rfl (q20 _)) rfl rfl ?_))) | with_reducible refine sq_norm ?_ | with_reducible refine wc_seq ?_ | with_reducible refine wc_region ?_ | with_reducible refine wc_skip ?_ | refine wc_iff rfl ?_)
    exact ⟨rfl, (), within_lk ⟨rfl, rfl, trivial⟩, ⟨wf_A, gr_A⟩, at_A⟩
  clear wa ga aa la ha
  rintro _ ha ⟨⟨wa, ga⟩, aa⟩
  have la := aa.lt
  refine wc_mid (ι := Option Addr × Nat × Nat) (fun i => [(0, .slice a n c), (3, .pointer (some ⟨h.nx, 0, some 0⟩)), (5, .slice i.1 i.2.1 i.2.2), (6, .int .i64 (madeE B1 L1))]) (fun i h' => ((Wf h' ∧ Grow h h') ∧ At h' h.nx (.cells [.int .i64 x0, .int .i64 x1, .int .i64 x2] 80 3 false)) ∧ MadeS G h' i n (madeE B1 L1) L1) ?_ ?_
  · repeat' (first | ((with_reducible refine xk_any ?_); ((with_reducible refine xk_as0 ?_); first | ((with_reducible refine xk_move ?_); refine wx_q (wt_none rfl) rfl rfl (op_q rfl (op_move rfl)) rfl rfl rfl ?_) | ((with_reducible refine xk_assign ?_); refine wx_q (wt_none rfl) rfl rfl (op_q rfl (op_assign rfl)) rfl rfl rfl ?_) | ((with_reducible refine xk_indexAddr ?_); refine wx_q (wt_none rfl) rfl rfl (op_q rfl (op_idxArr' rfl rfl Tryz.underlying80 zs3 (by omega) (by omega))) rfl rfl rfl ?_) | ((with_reducible refine xk_load ?_); refine wx_h0 (wt_none rfl) rfl (op_q rfl (op_ldAt rfl at_A Tryz.underlying3 rfl rfl)) rfl rfl rfl ?_) | ((with_reducible refine xk_extract ?_); refine wx_q (wt_none rfl) rfl rfl (op_q rfl (op_extract rfl rfl)) rfl rfl rfl ?_) | ((with_reducible refine xk_callF (f := 16) ?_); (refine wx_call0 (wt_none rfl) rfl rfl rfl rfl (c16 (s.grow gr_A) hn6) rfl rfl ?_; rintro _ _ ⟨sf, hq, hwf⟩; all_goals ((try (have hqn := hq.nx)); (try simp only [H.nx_push, H.nx_set, H.nx_bump] at hqn)))) | ((with_reducible refine xk_callv ?_); (refine wx_call0 (wt_none rfl) rfl rfl rfl rfl (q51 _ _ (sf.grow gr_A) wf_A) rfl rfl ?_; rintro _ _ ⟨⟨i1, rfl, m1⟩, hq⟩; all_goals ((try (have hqn := hq.nx)); (try simp only [H.nx_push, H.nx_set, H.nx_bump] at hqn)))) | with_reducible refine wx_nil0 ?_ ?_)) | with_reducible exact obl_nil | with_reducible refine obl_cons ?_ ?_ | ((with_reducible refine ik_obs ?_); first | exact obs_nil | refine obs_skip rfl ?_ | refine obs_chkn rfl rfl (op_q rfl (op_ldAt rfl at_A Tryz.underlying3 rfl (by rfl))) ?_) | refine wc_drawB (id := 3) 10 [0, 1, 0, 4, 15, 31, 63, 63, 127, 511] [0, 1, 2, 3, 4, 5, 6, 7, 8, 9] (by kernel_rfl) (by kernel_rfl) rfl rfl ?_)
    exact ⟨rfl, i1, within_lk ⟨rfl, rfl, rfl, rfl, trivial⟩, ⟨⟨wf_A, gr_A⟩, at_A⟩, m1.grow gr_A⟩
  clear wa ga aa la ha q51
  rintro i1 ha ⟨⟨⟨wa, ga⟩, aa⟩, m1⟩
  have la := aa.lt
  refine wc_mid (ι := Option Addr × Nat × Nat) (fun i => [(0, .slice a n c), (3, .pointer (some ⟨h.nx, 0, some 0⟩)), (5, .slice i1.1 i1.2.1 i1.2.2), (6, .int .i64 (madeE B1 L1)), (7, .slice i.1 i.2.1 i.2.2), (8, .int .i64 (madeE B2 L2))]) (fun i h' => ((Wf h' ∧ Grow h h') ∧ At h' h.nx (.cells [.int .i64 x0, .int .i64 x1, .int .i64 x2] 80 3 false)) ∧ MadeS G h' i1 n (madeE B1 L1) L1 ∧ MadeS G h' i n (madeE B2 L2) L2) ?_ ?_
  · repeat' (first | ((with_reducible refine xk_any ?_); ((with_reducible refine xk_as0 ?_); first | ((with_reducible refine xk_move ?_); refine wx_q (wt_none rfl) rfl rfl (op_q rfl (op_move rfl)) rfl rfl rfl ?_) | ((with_reducible refine xk_assign ?_); refine wx_q (wt_none rfl) rfl rfl (op_q rfl (op_assign rfl)) rfl rfl rfl ?_) | ((with_reducible refine xk_indexAddr ?_); refine wx_q (wt_none rfl) rfl rfl (op_q rfl (op_idxArr' rfl rfl Tryz.underlying80 zs3 (by omega) (by omega))) rfl rfl rfl ?_) | ((with_reducible refine xk_load ?_); refine wx_h0 (wt_none rfl) rfl (op_q rfl (op_ldAt rfl at_A Tryz.underlying3 rfl rfl)) rfl rfl rfl ?_) | ((with_reducible refine xk_extract ?_); refine wx_q (wt_none rfl) rfl rfl (op_q rfl (op_extract rfl rfl)) rfl rfl rfl ?_) | ((with_reducible refine xk_callF (f := 16) ?_); (refine wx_call0 (wt_none rfl) rfl rfl rfl rfl (c16 (s.grow gr_A) hn6) rfl rfl ?_; rintro _ _ ⟨sf, hq, hwf⟩; all_goals ((try (have hqn := hq.nx)); (try simp only [H.nx_push, H.nx_set, H.nx_bump] at hqn)))) | ((with_reducible refine xk_callv ?_); (refine wx_call0 (wt_none rfl) rfl rfl rfl rfl (q52 _ _ (sf.grow gr_A) wf_A) rfl rfl ?_; rintro _ _ ⟨⟨i2, rfl, m2⟩, hq⟩; all_goals ((try (have hqn := hq.nx)); (try simp only [H.nx_push, H.nx_set, H.nx_bump] at hqn)))) | with_reducible refine wx_nil0 ?_ ?_)) | with_reducible exact obl_nil | with_reducible refine obl_cons ?_ ?_ | ((with_reducible refine ik_obs ?_); first | exact obs_nil | refine obs_skip rfl ?_ | refine obs_chkn rfl rfl (op_q rfl (op_ldAt rfl at_A Tryz.underlying3 rfl (by rfl))) ?_) | refine wc_drawB (id := 4) 12 [0, 1, 0, 4, 0, 16, 63, 127, 255, 255, 511, 2047] [0, 1, 2, 3, 4, 5, 6, 7, 8, 9, 10, 11] (by kernel_rfl) (by kernel_rfl) rfl rfl ?_)
    exact ⟨rfl, i2, within_lk ⟨rfl, rfl, rfl, rfl, rfl, rfl, trivial⟩, ⟨⟨wf_A, gr_A⟩, at_A⟩, m1.grow gr_A, m2.grow gr_A⟩
  clear wa ga aa la m1 ha q52
  rintro i2 ha ⟨⟨⟨wa, ga⟩, aa⟩, m1, m2⟩
  have la := aa.lt
  refine wc_mid (ι := Unit) (fun _ => [(0, .slice a n c), (3, .pointer (some ⟨h.nx, 0, some 0⟩)), (5, .slice i1.1 i1.2.1 i1.2.2), (6, .int .i64 (madeE B1 L1)), (7, .slice i2.1 i2.2.1 i2.2.2), (8, .int .i64 (madeE B2 L2)), (9, .int .i64 K)]) (fun _ h' => ((Wf h' ∧ Grow h h') ∧ At h' h.nx (.cells [.int .i64 x0, .int .i64 x1, .int .i64 x2] 80 3 false)) ∧ MadeS G h' i1 n (madeE B1 L1) L1 ∧ MadeS G h' i2 n (madeE B2 L2) L2) ?_ ?_
  · repeat' (first | with_reducible refine wo_nil ?_ | ((with_reducible refine wo_any ?_); first | ((with_reducible refine ik_move ?_); refine wo_op rfl (op_move rfl) rfl rfl ?_) | ((with_reducible refine ik_assign ?_); refine wo_op rfl (op_assign rfl) rfl rfl ?_) | ((with_reducible refine ik_callv ?_); refine wo_op rfl (op_call rfl rfl (q24 _ gr_A)) rfl rfl ?_)) | with_reducible refine wc_region ?_)
    exact ⟨rfl, (), within_lk ⟨rfl, rfl, rfl, rfl, rfl, rfl, rfl, trivial⟩, ⟨⟨wf_A, gr_A⟩, at_A⟩, m1.grow gr_A, m2.grow gr_A⟩
  clear wa ga aa la m1 m2 ha q24
  rintro _ ha ⟨⟨⟨wa, ga⟩, aa⟩, m1, m2⟩
  have la := aa.lt
  refine wc_mid (ι := Unit) (fun _ => [(0, .slice a n c), (3, .pointer (some ⟨h.nx, 0, some 0⟩)), (5, .slice i1.1 i1.2.1 i1.2.2), (6, .int .i64 (madeE B1 L1)), (7, .slice i2.1 i2.2.1 i2.2.2), (8, .int .i64 (madeE B2 L2)), (10, .int .i64 B1), (11, .int .i64 B2)]) (fun _ h' => ((Wf h' ∧ Grow h h') ∧ At h' h.nx (.cells [.int .i64 x0, .int .i64 x1, .int .i64 x2] 80 3 false)) ∧ MadeS G h' i1 n (madeE B1 L1) L1 ∧ MadeS G h' i2 n (madeE B2 L2) L2) ?_ ?_
  · repeat' (first | ((with_reducible refine xk_any ?_); first | ((with_reducible refine xk_as0 ?_); first | ((with_reducible refine xk_move ?_); refine wx_q (wt_none rfl) rfl rfl (op_q rfl (op_move rfl)) rfl rfl rfl ?_) | ((with_reducible refine xk_indexAddr ?_); refine wx_q (wt_none rfl) rfl rfl (op_q rfl (op_idxArr' rfl rfl Tryz.underlying80 zs3 (by omega) (by omega))) rfl rfl rfl ?_) | ((with_reducible refine xk_load ?_); refine wx_h0 (wt_none rfl) rfl (op_q rfl (op_ldAt rfl at_A Tryz.underlying3 rfl rfl)) rfl rfl rfl ?_) | ((with_reducible refine xk_buildSlice ?_); refine wx_a0 (wt_none rfl) rfl (oa_buildSlice rfl Tryz.underlying22 zs3 zz3 rfl rfl) rfl rfl ?_) | ((with_reducible refine xk_callv ?_); refine wx_ee (wt_none rfl) rfl rfl (op_call rfl rfl (q36 _)) rfl rfl ?_)) | ((with_reducible refine xk_move ?_); refine wx_q (wt_none rfl) rfl rfl (op_q rfl (op_move rfl)) rfl rfl rfl ?_) | ((with_reducible refine xk_assign ?_); refine wx_q (wt_none rfl) rfl rfl (op_q rfl (op_assign rfl)) rfl rfl rfl ?_) | ((with_reducible refine xk_indexAddr ?_); refine wx_q (wt_none rfl) rfl rfl (op_q rfl (op_idxArr' rfl rfl Tryz.underlying80 zs3 (by omega) (by omega))) rfl rfl rfl ?_) | ((with_reducible refine xk_load ?_); refine wx_hn (wt_none rfl) rfl rfl rfl (op_q rfl (op_ldAt rfl at_A Tryz.underlying3 rfl rfl)) rfl rfl rfl ?_) | ((with_reducible refine xk_buildSlice ?_); refine wx_a (wt_none rfl) rfl rfl (oa_buildSlice rfl Tryz.underlying22 zs3 zz3 rfl rfl) rfl rfl rfl ?_) | ((with_reducible refine xk_callv ?_); first | refine wx_en (wt_none rfl) rfl rfl rfl rfl (op_call rfl rfl (r36 _)) rfl rfl ?_ | refine wx_en (wt_none rfl) rfl rfl rfl rfl (op_call rfl rfl (s36 _)) rfl rfl ?_ | ((with_reducible refine xk_as1 ?_); refine wx_e1 (wt_none rfl) rfl rfl rfl (op_call rfl rfl (q23 _ _ (Sl.ofAt (show At _ _ (.cells [.int .i64 K, .int .i64 e0] 3 1 false) from at_A) rfl (Nat.le_refl _)))) rfl rfl ?_)) | refine wx_niln ?_ ?_ rfl rfl ?_) | with_reducible exact obl_nil | with_reducible refine obl_cons ?_ ?_ | ((with_reducible refine ik_obs ?_); first | exact obs_nil | refine obs_skip rfl ?_ | refine obs_chkn rfl rfl (op_q rfl (op_ldAt rfl at_A Tryz.underlying3 rfl (by rfl))) ?_) | with_reducible exact stk_nil | with_reducible refine stk_cons ?_ ?_ | ((with_reducible refine ik_stk ?_); first | exact stk_abs rfl rfl | exact stk_freeB rfl rfl wf_A gr_B) | refine wc_drawB (id := 6) 17 [0, 0, 2, 6, 15, 31, 0, 0, 128, 447, 0, 1024, 4031, 8191, 16383, 32767, 65535] [0, 1, 2, 3, 4, 5, 6, 7, 8, 9, 10, 11, 12, 13, 14, 15, 16] (by kernel_rfl) (by kernel_rfl) rfl rfl ?_ | ((with_reducible refine xk_any ?_); (with_reducible refine xk_callF (f := 23) ?_); refine wx_eb2 (wt_none rfl) rfl rfl rfl rfl (op_call rfl rfl (r23 _ _ (Sl.ofAt (show At _ _ (.cells [.int .i64 K, .int .i64 e1, .int .i64 e2] 3 1 false) from at_A) rfl (Nat.le_refl _)))) rfl rfl ?_))
    all_goals try exact stk_b2 wa rfl (by decide)
    exact ⟨rfl, (), within_lk ⟨rfl, rfl, rfl, rfl, rfl, rfl, rfl, rfl, trivial⟩, ⟨⟨wf_A, gr_A⟩, at_A⟩, m1.grow gr_A, m2.grow gr_A⟩
  clear wa ga aa la m1 m2 ha q36 r36 s36 q23 r23
  rintro _ ha ⟨⟨⟨wa, ga⟩, aa⟩, m1, m2⟩
  have la := aa.lt
  refine wc_mid (ι := Unit) (fun _ => [(0, .slice a n c), (3, .pointer (some ⟨h.nx, 0, some 0⟩)), (5, .slice i1.1 i1.2.1 i1.2.2), (6, .int .i64 (madeE B1 L1)), (7, .slice i2.1 i2.2.1 i2.2.2), (8, .int .i64 (madeE B2 L2)), (10, .int .i64 B1), (11, .int .i64 B2), (12, .slice none 0 0), (13, .slice none 0 0)]) (fun _ h' => ((Wf h' ∧ Grow h h') ∧ At h' h.nx (.cells [.int .i64 x0, .int .i64 x1, .int .i64 x2] 80 3 false)) ∧ MadeS G h' i1 n (madeE B1 L1) L1 ∧ MadeS G h' i2 n (madeE B2 L2) L2) ?_ ?_
  · repeat' (first | with_reducible refine wo_nil ?_ | ((with_reducible refine wo_any ?_); ((with_reducible refine ik_assign ?_); refine wo_op rfl (op_assign rfl) rfl rfl ?_)) | with_reducible refine wc_region ?_)
    exact ⟨rfl, (), within_lk ⟨rfl, rfl, rfl, rfl, rfl, rfl, rfl, rfl, rfl, rfl, trivial⟩, ⟨⟨wf_A, gr_A⟩, at_A⟩, m1.grow gr_A, m2.grow gr_A⟩
  clear wa ga aa la m1 m2 ha
  rintro _ ha ⟨⟨⟨wa, ga⟩, aa⟩, m1, m2⟩
  have la := aa.lt
  have hlk : K = 0 → l.length ≤ 1024 ∧ ∀ x ∈ l, smpE x = 0 := fun q => lchk_ok (hK.trans q)
  have hbd : K = 0 → ∀ z ∈ X, z.natAbs ≤ 16384 := fun q => by rw [← hX]; exact smp_bound (hlk q).2
  refine wc_mid (ι := Option Addr × Nat × Nat) (fun i => [(0, .slice a n c), (3, .pointer (some ⟨h.nx, 0, some 0⟩)), (5, .slice i1.1 i1.2.1 i1.2.2), (6, .int .i64 (madeE B1 L1)), (7, .slice i2.1 i2.2.1 i2.2.2), (8, .int .i64 (madeE B2 L2)), (10, .int .i64 B1), (11, .int .i64 B2), (12, .slice i.1 i.2.1 i.2.2), (13, .slice none 0 0)]) (fun i h' => ((Wf h' ∧ Grow h h') ∧ At h' h.nx (.cells [.int .i64 x0, .int .i64 x1, .int .i64 x2] 80 3 false)) ∧ (MadeS G h' i1 n (madeE B1 L1) L1 ∧ MadeS G h' i2 n (madeE B2 L2) L2) ∧ GoodS G h' i n B1 L1) ?_ ?_
  · by_cases hz : B1 = 0
    · have z := firstNZ_zero (hB1.trans hz)
      have zK : K = 0 := z _ (by simp)
      have hr := rng_ok (he0.trans (z e0 (by simp)))
      have q53 := fun (h' : H) (v : Value) (u : Sl G h' 1 v n (X.map (.int .i64))) (w' : Wf h') => c53 (G := G) (h := h') (lim := x0) u (by have := (hlk zK).1; omega) (hbd zK) hr.1 hr.2 w'
      rw [hL1] at q53
      repeat' (first | with_reducible refine wo_nil ?_ | ((with_reducible refine wo_any ?_); first | ((with_reducible refine ik_move ?_); refine wo_op rfl (op_move rfl) rfl rfl ?_) | ((with_reducible refine ik_bin ?_); refine wo_op rfl (op_eql rfl rfl) rfl rfl ?_)) | ((with_reducible refine xk_any ?_); ((with_reducible refine xk_as0 ?_); first | ((with_reducible refine xk_move ?_); refine wx_q (wt_none rfl) rfl rfl (op_q rfl (op_move rfl)) rfl rfl rfl ?_) | ((with_reducible refine xk_assign ?_); refine wx_q (wt_none rfl) rfl rfl (op_q rfl (op_assign rfl)) rfl rfl rfl ?_) | ((with_reducible refine xk_indexAddr ?_); refine wx_q (wt_none rfl) rfl rfl (op_q rfl (op_idxArr' rfl rfl Tryz.underlying80 zs3 (by omega) (by omega))) rfl rfl rfl ?_) | ((with_reducible refine xk_load ?_); refine wx_h0 (wt_none rfl) rfl (op_q rfl (op_ldAt rfl at_A Tryz.underlying3 rfl rfl)) rfl rfl rfl ?_) | ((with_reducible refine xk_callv ?_); first | (refine wx_call0 (wt_none rfl) rfl rfl rfl rfl (q25 _ (hlk zK).2 gr_A wf_A) rfl rfl ?_; rintro _ _ ⟨⟨aw, cw, rfl, sw⟩, hq⟩; all_goals ((try (have hqn := hq.nx)); (try simp only [H.nx_push, H.nx_set, H.nx_bump] at hqn))) | (refine wx_call0 (wt_none rfl) rfl rfl rfl rfl (q53 _ _ (sw.grow gr_A) wf_A) rfl rfl ?_; rintro _ _ ⟨⟨ar, cr, rfl, sr⟩, hq⟩; all_goals ((try (have hqn := hq.nx)); (try simp only [H.nx_push, H.nx_set, H.nx_bump] at hqn)))) | with_reducible refine wx_nil0 ?_ ?_)) | with_reducible exact obl_nil | with_reducible refine obl_cons ?_ ?_ | ((with_reducible refine ik_obs ?_); first | exact obs_nil | refine obs_skip rfl ?_ | refine obs_chkn rfl rfl (op_q rfl (op_ldAt rfl at_A Tryz.underlying3 rfl (by rfl))) ?_) | with_reducible refine sq_norm ?_ | with_reducible refine wc_seq ?_ | with_reducible refine wc_region ?_ | (refine wc_if rfl (fun hb => ?_) (fun hb => dead_A hb); (try simp only [decide_eq_true_eq, decide_eq_false_iff_not, Bool.not_eq_true', Bool.not_eq_false', Int.not_lt, Int.not_le, Decidable.not_not, not_true_eq_false, not_false_eq_true, beq_self_eq_true, reduceCtorEq] at hb)) | refine wc_drawB (id := 9) 6 [0, 1, 0, 4, 15, 31] [0, 1, 2, 3, 4, 5] (by kernel_rfl) (by kernel_rfl) rfl rfl ?_)
      exact ⟨rfl, (ar, n, cr), within_lk ⟨rfl, rfl, rfl, rfl, rfl, rfl, rfl, rfl, rfl, rfl, trivial⟩, ⟨⟨wf_A, gr_A⟩, at_A⟩, ⟨m1.grow gr_A, m2.grow gr_A⟩, .inr ⟨hz, sr.grow gr_A⟩⟩
    · repeat' (first | with_reducible refine wo_nil ?_ | ((with_reducible refine wo_any ?_); first | ((with_reducible refine ik_move ?_); refine wo_op rfl (op_move rfl) rfl rfl ?_) | ((with_reducible refine ik_bin ?_); refine wo_op rfl (op_eql rfl rfl) rfl rfl ?_)) | with_reducible refine sq_norm ?_ | with_reducible refine wc_seq ?_ | with_reducible refine wc_region ?_ | with_reducible refine wc_skip ?_ | (refine wc_if rfl (fun hb => dead_A hb) (fun hb => ?_); (try simp only [decide_eq_true_eq, decide_eq_false_iff_not, Bool.not_eq_true', Bool.not_eq_false', Int.not_lt, Int.not_le, Decidable.not_not, not_true_eq_false, not_false_eq_true, beq_self_eq_true, reduceCtorEq] at hb)))
      exact ⟨rfl, (none, 0, 0), within_lk ⟨rfl, rfl, rfl, rfl, rfl, rfl, rfl, rfl, rfl, rfl, trivial⟩, ⟨⟨wf_A, gr_A⟩, at_A⟩, ⟨m1.grow gr_A, m2.grow gr_A⟩, .inl hz⟩
  clear wa ga aa la m1 m2 ha
  rintro i3 ha ⟨⟨⟨wa, ga⟩, aa⟩, ⟨m1, m2⟩, m3⟩
  have la := aa.lt
  refine wc_mid (ι := Option Addr × Nat × Nat) (fun i => [(0, .slice a n c), (3, .pointer (some ⟨h.nx, 0, some 0⟩)), (5, .slice i1.1 i1.2.1 i1.2.2), (6, .int .i64 (madeE B1 L1)), (7, .slice i2.1 i2.2.1 i2.2.2), (8, .int .i64 (madeE B2 L2)), (10, .int .i64 B1), (11, .int .i64 B2), (12, .slice i3.1 i3.2.1 i3.2.2), (13, .slice i.1 i.2.1 i.2.2)]) (fun i h' => ((Wf h' ∧ Grow h h') ∧ At h' h.nx (.cells [.int .i64 x0, .int .i64 x1, .int .i64 x2] 80 3 false)) ∧ (MadeS G h' i1 n (madeE B1 L1) L1 ∧ MadeS G h' i2 n (madeE B2 L2) L2) ∧ GoodS G h' i3 n B1 L1 ∧ GoodS G h' i n B2 L2) ?_ ?_
  · by_cases hz : B2 = 0
    · have z := firstNZ_zero (hB2.trans hz)
      have zK : K = 0 := z _ (by simp)
      have hr := rng_ok (he1.trans (z e1 (by simp)))
      have hd := rng_ok (he2.trans (z e2 (by simp)))
      have q54 := fun (h' : H) (v : Value) (u : Sl G h' 1 v n (X.map (.int .i64))) (w' : Wf h') => c54 (G := G) (h := h') (f := x1) (d := x2) u (by have := (hlk zK).1; omega) (hbd zK) hr.1 hr.2 hd.1 hd.2 w'
      rw [hL2] at q54
      repeat' (first | with_reducible refine wo_nil ?_ | ((with_reducible refine wo_any ?_); first | ((with_reducible refine ik_move ?_); refine wo_op rfl (op_move rfl) rfl rfl ?_) | ((with_reducible refine ik_bin ?_); refine wo_op rfl (op_eql rfl rfl) rfl rfl ?_)) | ((with_reducible refine xk_any ?_); ((with_reducible refine xk_as0 ?_); first | ((with_reducible refine xk_move ?_); refine wx_q (wt_none rfl) rfl rfl (op_q rfl (op_move rfl)) rfl rfl rfl ?_) | ((with_reducible refine xk_assign ?_); refine wx_q (wt_none rfl) rfl rfl (op_q rfl (op_assign rfl)) rfl rfl rfl ?_) | ((with_reducible refine xk_indexAddr ?_); refine wx_q (wt_none rfl) rfl rfl (op_q rfl (op_idxArr' rfl rfl Tryz.underlying80 zs3 (by omega) (by omega))) rfl rfl rfl ?_) | ((with_reducible refine xk_load ?_); refine wx_h0 (wt_none rfl) rfl (op_q rfl (op_ldAt rfl at_A Tryz.underlying3 rfl rfl)) rfl rfl rfl ?_) | ((with_reducible refine xk_callv ?_); first | (refine wx_call0 (wt_none rfl) rfl rfl rfl rfl (q25 _ (hlk zK).2 gr_A wf_A) rfl rfl ?_; rintro _ _ ⟨⟨aw, cw, rfl, sw⟩, hq⟩; all_goals ((try (have hqn := hq.nx)); (try simp only [H.nx_push, H.nx_set, H.nx_bump] at hqn))) | (refine wx_call0 (wt_none rfl) rfl rfl rfl rfl (q54 _ _ (sw.grow gr_A) wf_A) rfl rfl ?_; rintro _ _ ⟨⟨ar, cr, rfl, sr⟩, hq⟩; all_goals ((try (have hqn := hq.nx)); (try simp only [H.nx_push, H.nx_set, H.nx_bump] at hqn)))) | with_reducible refine wx_nil0 ?_ ?_)) | with_reducible exact obl_nil | with_reducible refine obl_cons ?_ ?_ | ((with_reducible refine ik_obs ?_); first | exact obs_nil | refine obs_skip rfl ?_ | refine obs_chkn rfl rfl (op_q rfl (op_ldAt rfl at_A Tryz.underlying3 rfl (by rfl))) ?_) | with_reducible refine sq_norm ?_ | with_reducible refine wc_seq ?_ | with_reducible refine wc_region ?_ | (refine wc_if rfl (fun hb => ?_) (fun hb => dead_A hb); (try simp only [decide_eq_true_eq, decide_eq_false_iff_not, Bool.not_eq_true', Bool.not_eq_false', Int.not_lt, Int.not_le, Decidable.not_not, not_true_eq_false, not_false_eq_true, beq_self_eq_true, reduceCtorEq] at hb)) | refine wc_drawB (id := 11) 8 [0, 1, 0, 4, 0, 16, 63, 127] [0, 1, 2, 3, 4, 5, 6, 7] (by kernel_rfl) (by kernel_rfl) rfl rfl ?_)
      exact ⟨rfl, (ar, n, cr), within_lk ⟨rfl, rfl, rfl, rfl, rfl, rfl, rfl, rfl, rfl, rfl, trivial⟩, ⟨⟨wf_A, gr_A⟩, at_A⟩, ⟨m1.grow gr_A, m2.grow gr_A⟩, m3.grow gr_A, .inr ⟨hz, sr.grow gr_A⟩⟩
    · repeat' (first | with_reducible refine wo_nil ?_ | ((with_reducible refine wo_any ?_); first | ((with_reducible refine ik_move ?_); refine wo_op rfl (op_move rfl) rfl rfl ?_) | ((with_reducible refine ik_bin ?_); refine wo_op rfl (op_eql rfl rfl) rfl rfl ?_)) | with_reducible refine sq_norm ?_ | with_reducible refine wc_seq ?_ | with_reducible refine wc_region ?_ | with_reducible refine wc_skip ?_ | (refine wc_if rfl (fun hb => dead_A hb) (fun hb => ?_); (try simp only [decide_eq_true_eq, decide_eq_false_iff_not, Bool.not_eq_true', Bool.not_eq_false', Int.not_lt, Int.not_le, Decidable.not_not, not_true_eq_false, not_false_eq_true, beq_self_eq_true, reduceCtorEq] at hb)))
      exact ⟨rfl, (none, 0, 0), within_lk ⟨rfl, rfl, rfl, rfl, rfl, rfl, rfl, rfl, rfl, rfl, trivial⟩, ⟨⟨wf_A, gr_A⟩, at_A⟩, ⟨m1.grow gr_A, m2.grow gr_A⟩, m3.grow gr_A, .inl hz⟩
  clear wa ga aa la m1 m2 m3 ha q25
  rintro i4 ha ⟨⟨⟨wa, ga⟩, aa⟩, ⟨m1, m2⟩, m3, m4⟩
  have la := aa.lt
  have H1 := heard_any hn6 m1 m3
  have H2 := heard_any hn6 m2 m4
  repeat' (first | with_reducible refine wo_nil ?_ | ((with_reducible refine wo_any ?_); first | ((with_reducible refine ik_move ?_); refine wo_op rfl (op_move rfl) rfl rfl ?_) | ((with_reducible refine ik_assign ?_); refine wo_op rfl (op_assign rfl) rfl rfl ?_) | ((with_reducible refine ik_pick ?_); refine wo_op rfl (op_pickt rfl rfl) rfl rfl ?_) | ((with_reducible refine ik_callF (f := 31) ?_); (refine wo_call rfl rfl rfl rfl (c31 (H1.grow gr_A) wf_A) rfl rfl ?_; rintro _ _ ⟨rfl, hq⟩; all_goals ((try (have hqn := hq.nx)); (try simp only [H.nx_push, H.nx_set, H.nx_bump] at hqn)))) | ((with_reducible refine ik_g ?_); first | ((with_reducible refine ig_move ?_); refine wo_grun rfl rfl rfl (op_move rfl) rfl rfl ?_) | ((with_reducible refine ig_callF (f := 31) ?_); (refine wo_gcall rfl rfl rfl rfl rfl rfl (c31 (H2.grow gr_A) wf_A) rfl rfl ?_; rintro _ _ ⟨rfl, hq⟩; all_goals ((try (have hqn := hq.nx)); (try simp only [H.nx_push, H.nx_set, H.nx_bump] at hqn)))))) | with_reducible refine sq_norm ?_ | with_reducible refine wc_seq ?_ | with_reducible refine wc_region ?_ | with_reducible refine wc_ret ?_)
  exact rq1 rfl ⟨rfl, gr_A⟩
theorem c7 {a : Option Addr} {n c : Nat} {x0 x1 x2 : Int} {l : List Nat} (s : Sl G h 1 (.slice a n c) n (l.map (.float .f32))) (hw : Wf h) (hG : ∀ a v, laidBase a = some v → G a = some v) : Cf (mz G) (.func (.func 7) #[] #[]) [.slice a n c, .agg ⟨[.int .i64 x0, .int .i64 x1, .int .i64 x2]⟩] h fun r h' => r = .bool true ∧ Grow h h' := by
  by_cases hS : n ≤ 32 ∨ n = 1025
  · exact c7m s hS hw hG
  · exact c7n hS hw
end Go.Proofs.YtdfpadokepmknaaGreatDoor
