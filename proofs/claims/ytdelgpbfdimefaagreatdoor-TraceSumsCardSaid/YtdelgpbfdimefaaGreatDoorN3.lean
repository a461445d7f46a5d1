/- Contracts of functions on shots: ranges over traces, widths, checks by the program, holes. -/
import Derived.Test.YtdelgpbfdimefaaGreatDoorN2
set_option linter.all false
/- Ranges over the traces that are no holes. -/
namespace Go.Proofs.YtdelgpbfdimefaaGreatDoor
open Go Go.Ab Go.Fl
attribute [local irreducible] SeqQ BlkQ LpQ RetQ Wc Wo WD WX Op1 Op1q Op1a Cf Cl From
attribute [local irreducible] Ieee.Format.order Ieee.Format.read Ieee.Format.nearest Ieee.Format.write Ieee.Format.mul Ieee.Format.div Ieee.Datum.order Ieee.Datum.integral smpE smp smpW K J U trE hdrE lchk firstNZ isNameB wid mism
set_option maxRecDepth 10000
variable {G : Base} {h : H}
@[reducible] def whF (B : Nat) : Value := .func (.func 159) #[] #[.pointer (some ⟨B, 0, some 0⟩)]
set_option maxHeartbeats 4000000 in
theorem c108 {nm : ByteArray} {a : Option Addr} {n c : Nat} : Cf (mz G) (.func (.func 108) #[] #[]) [.agg ⟨shC nm a n c⟩] h fun r h' => r = whF h.nx ∧ h' = h.push (.cells (shC nm a n c) 54 2 false) := by
 refine cf_enter0 4 [.tmp 2] Tryz.func108 rfl rfl rfl rfl ?_
 repeat' (first | with_reducible refine wo_nil ?_ | ((with_reducible refine wo_any ?_); first | refine wq_A (op_assign rfl) ?_ | ((with_reducible refine ik_makeFunc ?_); refine wq_A (op_makeFunc (fun _ q => by cases q) rfl rfl) ?_) | refine wq_A (op_boxAgg rfl zs54 rfl) ?_) | (with_reducible first | refine sq_norm ?_ | refine wc_seq ?_ | refine wc_region ?_ | refine wc_ret ?_))
 exact rq1 rfl ⟨rfl, rfl⟩
set_option maxHeartbeats 4000000 in
theorem c159 {y : Value} {B : Nat} (J : Nat → H → Prop) (D : H → Prop) {nm : ByteArray} {a : Option Addr} {n c : Nat} {ts : List Trc} (hn : n < 1000000) (hts : ts.length = n)
   (hB : ∀ k g, J k g → At g B (.cells (shC nm a n c) 54 2 false) ∧ SlT G g (.slice a n c) n ts ∧ Wf g)
   (hst : ∀ k g g', J k g → Grow g g' → Wf g' → J k g')
   (hh : ∀ k g (hk : k < ts.length), J k g → (ts[k]).hole = true → J (k + 1) g)
   (hy : ∀ k g (hk : k < ts.length), J k g → (ts[k]).hole = false → Cf (mz G) y [.int .i64 k, .agg ⟨(ts[k]).cells⟩] g fun v g' => (v = .bool true ∧ J (k + 1) g') ∨ (v = .bool false ∧ D g'))
   (h0 : J 0 h) : Cf (mz G) (whF B) [y] h fun _ g => J n g ∨ D g := by
 obtain ⟨b1, b2, b3⟩ := hB 0 h h0
 refine cf_enter (sz := 24) (rs := []) (all := [y, .pointer (some ⟨B, 0, some 0⟩)]) Tryz.func159 rfl rfl rfl rfl rfl ?_
 repeat' (first | with_reducible refine wo_nil ?_ | ((with_reducible refine wo_any ?_); first | refine wq_A (op_move rfl) ?_ | refine wq_A (op_fieldAddr (o := 1) rfl Tryz.underlying54 rfl zs52 rfl) ?_ | refine wq_A (op_ldAt rfl at_A Tryz.underlying52 rfl rfl) ?_ | refine wq_A (op_lenSl rfl Tryz.underlying52) ?_) | (with_reducible first | refine sq_norm ?_ | refine wc_seq ?_ | refine wc_region ?_ | refine wc_block ?_))
 refine wc_loop (fun k => n - k) (fun k : Nat => [(0, y), (6, .slice a n c), (7, .int .i64 n), (8, .int .i64 k)]) (fun k g => k ≤ n ∧ J k g) 0 (within_lk ⟨rfl, rfl, rfl, rfl, trivial⟩) ⟨Nat.zero_le _, h0⟩ ?_
 clear b1 b2 b3
 rintro k g ⟨hk, hJ⟩
 obtain ⟨b1, b2, b3⟩ := hB k g hJ
 by_cases hlt : k < n
 · obtain ⟨ad, h1, h3⟩ := slT_at b2 Tryz.underlying52 zs58 (i := (k : Int)) hlt rfl
   have hhk := hh k g (by omega) hJ
   have hyk := fun g' (gr : Grow g g') (w : Wf g') => hy k g' (by omega) (hst k g g' hJ gr w)
   obtain ⟨t, ht⟩ : ∃ t, ts[k]'(by omega) = t := ⟨_, rfl⟩
   rw [ht] at h3 hhk hyk
   obtain ⟨hd, hole, sa, tn, tc, tl⟩ := t
   dsimp only [Trc.cells] at h3 hhk hyk
   clear ht
   cases hole with
   | true =>
     repeat' (first | with_reducible refine wo_nil ?_ | ((with_reducible refine wo_any ?_); first | refine wq_A (op_move rfl) ?_ | refine wq_A (op_assign rfl) ?_ | refine wq_A (op_indexAddr rfl rfl h1) ?_ | ((with_reducible refine ik_load ?_); first | refine wq_A (op_ldTr rfl Tryz.underlying58 rfl zs58 h3.all) ?_ | refine wq_A (op_ldAt rfl at_A Tryz.underlying4 rfl rfl) ?_) | refine wq_A (op_fieldAddr (o := 8) rfl Tryz.underlying58 rfl zs4 rfl) ?_ | ((with_reducible refine ik_bin ?_); first | refine wq_A (op_lss rfl rfl) ?_ | refine wq_A (op_add' rfl rfl (w64 (by omega) (by omega))) ?_) | refine wq_A (op_alloc zz58 zs58 rfl rfl rfl) ?_ | refine wq_B (op_stAgg rfl rfl at_A zs58 rfl rfl rfl rfl) ?_ | refine wq_A (op_not rfl) ?_ | refine wq_A (op_pickf rfl rfl) ?_ | ((with_reducible refine ik_g ?_); refine wo_gskip rfl rfl rfl rfl rfl rfl ?_)) | (with_reducible first | refine sq_norm ?_ | refine wc_seq ?_ | refine wc_region ?_ | refine wc_skip ?_ | refine wc_block ?_ | refine bq_norm ?_) | refine wc_iff rfl ?_ | (refine wc_if rfl (fun hb => ?_) (fun hb => dead_A hb); (try simp only [bb_A, reduceCtorEq] at hb)))
     all_goals exact lq_norm (k + 1) (by omega) (within_lk ⟨rfl, rfl, rfl, rfl, trivial⟩) ⟨by omega, hst _ _ _ (hhk rfl) gr_A wf_A⟩
   | false =>
     repeat' (first | with_reducible refine wo_nil ?_ | ((with_reducible refine wo_any ?_); first | refine wq_A (op_move rfl) ?_ | refine wq_A (op_assign rfl) ?_ | refine wq_A (op_indexAddr rfl rfl h1) ?_ | ((with_reducible refine ik_load ?_); first | refine wq_A (op_ldTr rfl Tryz.underlying58 rfl zs58 h3.all) ?_ | refine wq_A (op_ldAt rfl at_A Tryz.underlying4 rfl rfl) ?_) | refine wq_A (op_fieldAddr (o := 8) rfl Tryz.underlying58 rfl zs4 rfl) ?_ | ((with_reducible refine ik_bin ?_); first | refine wq_A (op_lss rfl rfl) ?_ | refine wq_A (op_add' rfl rfl (w64 (by omega) (by omega))) ?_) | refine wq_A (op_alloc zz58 zs58 rfl rfl rfl) ?_ | refine wq_B (op_stAgg rfl rfl at_A zs58 rfl rfl rfl rfl) ?_ | refine wq_A (op_not rfl) ?_ | refine wq_A (op_pickt rfl rfl) ?_ | ((with_reducible refine ik_g ?_); first | refine wo_grun rfl rfl rfl (op_move rfl) rfl rfl ?_ | refine wo_grun rfl rfl rfl (op_ldAgg rfl at_A Tryz.underlying58 rfl zs58 rfl rfl) rfl rfl ?_ | refine wo_grun rfl rfl rfl (op_not rfl) rfl rfl ?_ | ((with_reducible refine ig_callv ?_); (refine wo_gcall rfl rfl rfl rfl rfl rfl ((hyk _ gr_A wf_A rfl)) rfl rfl ?_; rintro _ _ (⟨rfl, hq⟩ | ⟨rfl, hq⟩); all_goals ((try (have hqn := hq.nx)); (try simp only [nx_A] at hqn)))))) | (with_reducible first | refine sq_norm ?_ | refine wc_seq ?_ | refine wc_region ?_ | refine wc_skip ?_ | refine wc_ret ?_ | refine wc_block ?_ | refine bq_norm ?_ | refine bq_ret ?_ | refine sq_ret ?_ | refine lq_ret ?_) | refine wc_ift rfl ?_ | refine wc_iff rfl ?_ | (refine wc_if rfl (fun hb => ?_) (fun hb => dead_A hb); (try simp only [bb_A, reduceCtorEq] at hb)))
     all_goals first
       | exact lq_norm (k + 1) (by omega) (within_lk ⟨rfl, rfl, rfl, rfl, trivial⟩) ⟨by omega, hq⟩
       | exact rq0 (.inr hq)
 · have hkn : k = n := by omega
   subst hkn
   repeat' (first | with_reducible refine wo_nil ?_ | ((with_reducible refine wo_any ?_); refine wq_A (op_lss rfl rfl) ?_) | (with_reducible first | refine sq_norm ?_ | refine wc_seq ?_ | refine wc_region ?_ | refine wc_exit ?_ | refine sq_exit ?_ | refine lq_exit ?_) | refine bq_eq rfl ?_ | (refine wc_if rfl (fun hb => ?_) (fun hb => ?_) <;> (try simp only [bb_A, reduceCtorEq] at hb) <;> (try (exfalso; omega))))
   exact rq0n (.inl hJ)
theorem mism_some {w : Nat} {ts : List Trc} {k : Nat} (hk : k < ts.length) (h1 : (ts[k]).hole = false) (h2 : (ts[k]).n ≠ w) : mism w ts = true := by
 unfold mism
 rw [List.any_eq_true]
 exact ⟨_, List.getElem_mem hk, by simp [h1, h2]⟩
theorem wc_rangeFunc2 {M : Mc} {f : Operand} {ps : Array Tmp} {assign body : Code} {sz : Nat} {l : KL} {h : H} {Q : X → KL → H → Prop} {fv : Value} (hf : val l f = some fv)
   (w : ∀ e lp, Has sz l e → lp = AObj.loop .ready none e ps assign body → Cf M fv [.func (.yield h.nx) #[] #[]] (h.push lp) fun _ h2 => RfQ h.nx l Q h2) : Wc M none (.rangeFunc f ps assign body) sz l h Q :=
 wc_rangeFunc hf fun e he => w e _ he rfl
theorem ld1 {M : Mc} {h : H} {b off : Nat} {c : List Value} {e t : TypeId} {es : Nat} {s : Bool} {dd : TypeDesc} {v : Value} (hat : At h b (.cells c e es s)) (hu : M.P.underlying t = some dd) (hd : isAggD dd = false) (hc : c[off]? = some v) : aloadVar M.P M.G h t ⟨b, off, some 0⟩ = some v :=
 ld_one hu hd (by unfold acell; simp only [hat.get]; exact hc)
/- The width by the program. -/
set_option maxHeartbeats 4000000 in
theorem c103 {nm : ByteArray} {a : Option Addr} {n c : Nat} {ts : List Trc} (s : SlT G h (.slice a n c) n ts) (hn : n < 1000000) (hw : Wf h) : Cf (mz G) (.func (.func 103) #[] #[]) [.agg ⟨shC nm a n c⟩] h fun r h' => r = .int .i64 (wid ts : Nat) ∧ Grow h h' := by
 have hlen := s.len
 refine cf_enter0 12 [.cell 2 3] Tryz.func103 rfl rfl rfl rfl ?_
 repeat' (first | with_reducible refine wo_nil ?_ | ((with_reducible refine wo_any ?_); first | refine wq_A (op_boxAgg rfl zs54 rfl) ?_ | refine wq_A (op_alloc zz3 zs3 rfl rfl rfl) ?_ | refine wq_A (op_ldAgg rfl at_A Tryz.underlying54 rfl zs54 rfl rfl) ?_ | ((with_reducible refine ik_callF (f := 108) ?_); (refine wo_call rfl rfl rfl rfl (c108) rfl rfl ?_; rintro _ _ ⟨rfl, rfl⟩; all_goals ((try (have hqn := hq.nx)); (try simp only [nx_A] at hqn))))) | (with_reducible first | refine sq_norm ?_ | refine wc_seq ?_ | refine wc_region ?_ | refine wc_block ?_))
 refine wc_cut (ι := Unit) (fun _ => [(2, .pointer (some ⟨h.nx + 1, 0, some 0⟩)), (6, whF (h.nx + 2))]) (fun _ h' => h'.nx = h.nx + 3 ∧ Wf h' ∧ Grow h h' ∧ At h' (h.nx + 1) (.cells [.int .i64 0] 3 1 false) ∧ At h' (h.nx + 2) (.cells (shC nm a n c) 54 2 false)) () (within_lk ⟨rfl, rfl, trivial⟩) ⟨rfl, wf_A, gr_A, at_A, at_A⟩ ?_
 rintro _ h0 ⟨hnx, w0, g0, a1, a2⟩
 refine wc_rangeFunc2 rfl fun e lp he hlp => ?_
 refine (c159 (nm := nm) (a := a) (c := c) (ts := ts) (fun k g => Wf g ∧ Grow h g ∧ h0.nx + 1 ≤ g.nx ∧ At g (h.nx + 1) (.cells [.int .i64 0] 3 1 false) ∧ At g (h.nx + 2) (.cells (shC nm a n c) 54 2 false) ∧ At g h0.nx lp ∧ wid (ts.drop k) = wid ts)
   (fun g => Wf g ∧ Grow h g ∧ At g (h.nx + 1) (.cells [.int .i64 (wid ts : Nat)] 3 1 false) ∧ ∃ pe ps asg bd, At g h0.nx (.loop .done (some .ret) pe ps asg bd)) hn hlen ?_ ?_ ?_ ?_ ?_).mono ?_
 · rintro k g ⟨w, gr, _, _, b, _⟩
   exact ⟨b, s.grow gr, w⟩
 · rintro k g g' ⟨w, gr, nx, b1, b2, b3, e⟩ gg ww
   exact ⟨ww, gr.trans gg, Nat.le_trans nx gg.nx, b1.grow gg, b2.grow gg, b3.grow gg, e⟩
 · rintro k g hk ⟨w, gr, nx, b1, b2, b3, e⟩ hh
   refine ⟨w, gr, nx, b1, b2, b3, ?_⟩
   rw [← e, List.drop_eq_getElem_cons hk, wid, if_pos hh]
 · rintro k g hk ⟨w, gr, nx, b1, b2, b3, e⟩ hh
   have hwd : wid ts = (ts[k]).n := by
     rw [← e, List.drop_eq_getElem_cons hk, wid, if_neg (by simp [hh])]
   obtain ⟨t, ht⟩ : ∃ t, ts[k] = t := ⟨_, rfl⟩
   rw [ht] at hwd ⊢
   rw [hwd]
   clear hh ht e hwd
   obtain ⟨hd, hole, sa, tn, tc, tl⟩ := t
   dsimp only [Trc.cells]
   subst hlp
   refine cf_round b3.get he rfl rfl ?_
   repeat' (first | with_reducible refine wo_nil ?_ | ((with_reducible refine wo_any ?_); first | refine wq_A (op_alloc zz58 zs58 rfl rfl rfl) ?_ | refine wq_B (op_stAgg rfl rfl at_A zs58 rfl rfl rfl rfl) ?_) | with_reducible refine wc_region ?_)
   refine ⟨rfl, _, _, _, _, _, At.get (b := h0.nx) (o := .loop .ready none e _ _ _) at_A, ?_⟩
   repeat' (first | with_reducible refine wo_nil ?_ | ((with_reducible refine wo_any ?_); first | refine wq_A (op_ldAt rfl at_A Tryz.underlying45 rfl rfl) ?_ | refine wq_B (op_st1 rfl rfl at_A rfl zs3 rfl rfl rfl) ?_ | refine wq_A (op_fieldAddr (o := 9) rfl Tryz.underlying58 rfl zs45 rfl) ?_ | refine wq_A (op_lenSl rfl Tryz.underlying45) ?_) | (with_reducible first | refine sq_norm ?_ | refine wc_seq ?_ | refine wc_region ?_ | refine wc_ret ?_ | refine wc_block ?_ | refine bq_ret ?_))
   exact ⟨_, _, _, _, _, _, At.get (b := h0.nx) (o := .loop .busy none e _ _ _) at_A, .inr ⟨rfl, wf_A, gr_A, at_A, _, _, _, _, at_A⟩⟩
 · exact ⟨wf_A, gr_A, (by simp only [H.nx_push, H.nx_bump]; omega), at_A, at_A, at_A, rfl⟩
 · rintro _ g (⟨w, gr, nx, b1, b2, b3, e⟩ | ⟨w, gr, b1, pe, ps, asg, bd, b3⟩)
   · have hz : wid ts = 0 := by rw [← e, List.drop_eq_nil_of_le (by omega)]; unfold wid; rfl
     rw [hz]
     subst hlp
     refine ⟨_, _, _, _, _, _, b3.get, by simp, ?_⟩
     repeat' (first | with_reducible refine wo_nil ?_ | ((with_reducible refine wo_any ?_); refine wq_B (op_st1 rfl rfl at_A rfl zs3 rfl rfl rfl) ?_) | (with_reducible first | refine sq_norm ?_ | refine wc_seq ?_ | refine wc_region ?_ | refine wc_ret ?_ | refine bq_norm ?_))
     exact rqc1 rfl (ld1 at_A Tryz.underlying3 rfl rfl) ⟨rfl, gr_A⟩
   · refine ⟨_, _, _, _, _, _, b3.get, by simp, ?_⟩
     repeat' (first | with_reducible refine bq_ret ?_ | with_reducible refine sq_ret ?_)
     exact rqc1 rfl (ld1 at_A Tryz.underlying3 rfl rfl) ⟨rfl, gr_A⟩
/- A shot, checked by the program. -/
set_option maxHeartbeats 4000000 in
theorem c41 {nm : ByteArray} {a : Option Addr} {n c : Nat} {ts : List Trc} (s : SlT G h (.slice a n c) n ts) (hn : n < 1000000) (hl : ∀ t ∈ ts, t.n < 1000000) (hw : Wf h) (hG : ∀ a v, laidBase a = some v → G a = some v) : Cf (mz G) (.func (.func 41) #[] #[]) [.agg ⟨shC nm a n c⟩] h fun r h' => r = .int .i64 (shE nm ts) ∧ Grow h h' := by
 have hlen := s.len
 have q21 := fun (h : H) => c21 (G := G) (h := h) nm
 unfold shE
 rw [hlen]
 by_cases z1 : isNameB nm = false
 · rw [if_pos z1]
   rw [z1] at q21
   refine cf_enter0 39 [.cell 2 26] Tryz.func41 rfl rfl rfl rfl ?_
   repeat' (first | with_reducible refine wo_nil ?_ | ((with_reducible refine wo_any ?_); first | refine wq_A (op_assign rfl) ?_ | refine wq_A (op_boxAgg rfl zs54 rfl) ?_ | refine wq_A (op_alloc zz26 zs26 rfl rfl rfl) ?_ | refine wq_A (op_fieldAddr (o := 0) rfl Tryz.underlying54 rfl zs9 rfl) ?_ | refine wq_A (op_ldAt rfl at_A Tryz.underlying9 rfl rfl) ?_ | refine wq_A (op_not rfl) ?_ | refine wq_B (op_st1 rfl rfl at_A rfl zs26 rfl rfl rfl) ?_ | ((with_reducible refine ik_callv ?_); (refine wo_call rfl rfl rfl rfl (q21 _) rfl rfl ?_; rintro _ _ ⟨rfl, hq⟩; all_goals ((try (have hqn := hq.nx)); (try simp only [nx_A] at hqn))))) | (with_reducible first | refine sq_norm ?_ | refine wc_seq ?_ | refine wc_region ?_ | refine wc_ret ?_ | refine wc_block ?_ | refine bq_ret ?_ | refine sq_ret ?_) | refine wc_ift rfl ?_)
   all_goals exact rqc1 rfl (ld1 at_A Tryz.underlying26 rfl rfl) ⟨rfl, gr_A⟩
 rw [if_neg z1]
 have z1 : isNameB nm = true := by simpa using z1
 rw [z1] at q21
 by_cases z2 : n = 0
 · rw [if_pos z2]
   refine cf_enter0 39 [.cell 2 26] Tryz.func41 rfl rfl rfl rfl ?_
   repeat' (first | with_reducible refine wo_nil ?_ | ((with_reducible refine wo_any ?_); first | refine wq_A (op_assign rfl) ?_ | refine wq_A (op_boxAgg rfl zs54 rfl) ?_ | refine wq_A (op_alloc zz26 zs26 rfl rfl rfl) ?_ | ((with_reducible refine ik_fieldAddr ?_); first | refine wq_A (op_fieldAddr (o := 0) rfl Tryz.underlying54 rfl zs9 rfl) ?_ | refine wq_A (op_fieldAddr (o := 1) rfl Tryz.underlying54 rfl zs52 rfl) ?_) | ((with_reducible refine ik_load ?_); first | refine wq_A (op_ldAt rfl at_A Tryz.underlying9 rfl rfl) ?_ | refine wq_A (op_ldAt rfl at_A Tryz.underlying52 rfl rfl) ?_) | refine wq_A (op_not rfl) ?_ | refine wq_B (op_st1 rfl rfl at_A rfl zs26 rfl rfl rfl) ?_ | refine wq_A (op_lenSl rfl Tryz.underlying52) ?_ | refine wq_A (op_eql rfl rfl) ?_ | ((with_reducible refine ik_callv ?_); (refine wo_call rfl rfl rfl rfl (q21 _) rfl rfl ?_; rintro _ _ ⟨rfl, hq⟩; all_goals ((try (have hqn := hq.nx)); (try simp only [nx_A] at hqn))))) | (with_reducible first | refine sq_norm ?_ | refine wc_seq ?_ | refine wc_region ?_ | refine wc_ret ?_ | refine wc_block ?_ | refine bq_ret ?_ | refine sq_ret ?_) | refine wc_iff rfl ?_ | (refine wc_if rfl (fun hb => ?_) (fun hb => dead_A hb); (try simp only [bb_A, reduceCtorEq] at hb)))
   all_goals exact rqc1 rfl (ld1 at_A Tryz.underlying26 rfl rfl) ⟨rfl, gr_A⟩
 rw [if_neg z2]
 by_cases z3 : 64 < n
 · rw [if_pos z3]
   refine cf_enter0 39 [.cell 2 26] Tryz.func41 rfl rfl rfl rfl ?_
   repeat' (first | with_reducible refine wo_nil ?_ | ((with_reducible refine wo_any ?_); first | refine wq_A (op_assign rfl) ?_ | refine wq_A (op_boxAgg rfl zs54 rfl) ?_ | refine wq_A (op_alloc zz26 zs26 rfl rfl rfl) ?_ | ((with_reducible refine ik_fieldAddr ?_); first | refine wq_A (op_fieldAddr (o := 0) rfl Tryz.underlying54 rfl zs9 rfl) ?_ | refine wq_A (op_fieldAddr (o := 1) rfl Tryz.underlying54 rfl zs52 rfl) ?_) | ((with_reducible refine ik_load ?_); first | refine wq_A (op_ldAt rfl at_A Tryz.underlying9 rfl rfl) ?_ | refine wq_A (op_ldAt rfl at_A Tryz.underlying52 rfl rfl) ?_) | refine wq_A (op_not rfl) ?_ | refine wq_B (op_st1 rfl rfl at_A rfl zs26 rfl rfl rfl) ?_ | refine wq_A (op_lenSl rfl Tryz.underlying52) ?_ | ((with_reducible refine ik_bin ?_); first | refine wq_A (op_eql rfl rfl) ?_ | refine wq_A (op_gtr rfl rfl) ?_) | ((with_reducible refine ik_callv ?_); (refine wo_call rfl rfl rfl rfl (q21 _) rfl rfl ?_; rintro _ _ ⟨rfl, hq⟩; all_goals ((try (have hqn := hq.nx)); (try simp only [nx_A] at hqn))))) | (with_reducible first | refine sq_norm ?_ | refine wc_seq ?_ | refine wc_region ?_ | refine wc_ret ?_ | refine wc_block ?_ | refine bq_ret ?_ | refine sq_ret ?_) | refine wc_iff rfl ?_ | (refine wc_if rfl (fun hb => dead_A hb) (fun hb => ?_); (try simp only [bb_A, reduceCtorEq] at hb)) | (refine wc_if rfl (fun hb => ?_) (fun hb => dead_A hb); (try simp only [bb_A, reduceCtorEq] at hb)))
   all_goals exact rqc1 rfl (ld1 at_A Tryz.underlying26 rfl rfl) ⟨rfl, gr_A⟩
 rw [if_neg z3]
 have q107 := fun (h' : H) (g : Grow h h') (w : Wf h') => c107 (s.grow g) hn hl w hG
 obtain ⟨E, hE⟩ : ∃ E, firstNZ (ts.map trE) = E := ⟨_, rfl⟩
 rw [hE] at q107 ⊢
 by_cases z4 : E ≠ 0
 · rw [if_pos z4]
   refine cf_enter0 39 [.cell 2 26] Tryz.func41 rfl rfl rfl rfl ?_
   repeat' (first | with_reducible refine wo_nil ?_ | ((with_reducible refine wo_any ?_); first | refine wq_A (op_move rfl) ?_ | refine wq_A (op_assign rfl) ?_ | refine wq_A (op_boxAgg rfl zs54 rfl) ?_ | refine wq_A (op_alloc zz26 zs26 rfl rfl rfl) ?_ | ((with_reducible refine ik_fieldAddr ?_); first | refine wq_A (op_fieldAddr (o := 0) rfl Tryz.underlying54 rfl zs9 rfl) ?_ | refine wq_A (op_fieldAddr (o := 1) rfl Tryz.underlying54 rfl zs52 rfl) ?_) | ((with_reducible refine ik_load ?_); first | refine wq_A (op_ldAt rfl at_A Tryz.underlying9 rfl rfl) ?_ | refine wq_A (op_ldAt rfl at_A Tryz.underlying52 rfl rfl) ?_) | refine wq_A (op_not rfl) ?_ | refine wq_B (op_st1 rfl rfl at_A rfl zs26 rfl rfl rfl) ?_ | refine wq_A (op_lenSl rfl Tryz.underlying52) ?_ | ((with_reducible refine ik_bin ?_); first | refine wq_A (op_eql rfl rfl) ?_ | refine wq_A (op_gtr rfl rfl) ?_ | refine wq_A (op_neq rfl rfl) ?_) | ((with_reducible refine ik_callv ?_); first | (refine wo_call rfl rfl rfl rfl (q21 _) rfl rfl ?_; rintro _ _ ⟨rfl, hq⟩; all_goals ((try (have hqn := hq.nx)); (try simp only [nx_A] at hqn))) | (refine wo_call rfl rfl rfl rfl (q107 _ gr_A wf_A) rfl rfl ?_; rintro _ _ ⟨rfl, hq⟩; all_goals ((try (have hqn := hq.nx)); (try simp only [nx_A] at hqn))))) | (with_reducible first | refine sq_norm ?_ | refine wc_seq ?_ | refine wc_region ?_ | refine wc_skip ?_ | refine wc_ret ?_ | refine wc_block ?_ | refine bq_norm ?_ | refine sq_ret ?_) | refine wc_iff rfl ?_ | (refine wc_if rfl (fun hb => dead_A hb) (fun hb => ?_); (try simp only [bb_A, reduceCtorEq] at hb)) | (refine wc_if rfl (fun hb => ?_) (fun hb => dead_A hb); (try simp only [bb_A, reduceCtorEq] at hb)))
   all_goals exact rqc1 rfl (ld1 at_A Tryz.underlying26 rfl rfl) ⟨rfl, gr_A⟩
 rw [if_neg z4]
 have z4 : E = 0 := by simpa using z4
 subst z4
 have q103 := fun (h' : H) (g : Grow h h') (w : Wf h') => c103 (nm := nm) (s.grow g) hn w
 obtain ⟨W, hW⟩ : ∃ W, wid ts = W := ⟨_, rfl⟩
 rw [hW] at q103 ⊢
 refine cf_enter0 39 [.cell 2 26] Tryz.func41 rfl rfl rfl rfl ?_
 repeat' (first | with_reducible refine wo_nil ?_ | ((with_reducible refine wo_any ?_); first | refine wq_A (op_move rfl) ?_ | refine wq_A (op_assign rfl) ?_ | refine wq_A (op_boxAgg rfl zs54 rfl) ?_ | refine wq_A (op_alloc zz26 zs26 rfl rfl rfl) ?_ | ((with_reducible refine ik_fieldAddr ?_); first | refine wq_A (op_fieldAddr (o := 0) rfl Tryz.underlying54 rfl zs9 rfl) ?_ | refine wq_A (op_fieldAddr (o := 1) rfl Tryz.underlying54 rfl zs52 rfl) ?_) | ((with_reducible refine ik_load ?_); first | refine wq_A (op_ldAt rfl at_A Tryz.underlying9 rfl rfl) ?_ | refine wq_A (op_ldAt rfl at_A Tryz.underlying52 rfl rfl) ?_ | refine wq_A (op_ldAgg rfl at_A Tryz.underlying54 rfl zs54 rfl rfl) ?_) | refine wq_A (op_not rfl) ?_ | refine wq_B (op_st1 rfl rfl at_A rfl zs26 rfl rfl rfl) ?_ | refine wq_A (op_lenSl rfl Tryz.underlying52) ?_ | ((with_reducible refine ik_bin ?_); first | refine wq_A (op_eql rfl rfl) ?_ | refine wq_A (op_gtr rfl rfl) ?_ | refine wq_A (op_neq rfl rfl) ?_) | ((with_reducible refine ik_callv ?_); first | (refine wo_call rfl rfl rfl rfl (q21 _) rfl rfl ?_; rintro _ _ ⟨rfl, hq⟩; all_goals ((try (have hqn := hq.nx)); (try simp only [nx_A] at hqn))) | (refine wo_call rfl rfl rfl rfl (q107 _ gr_A wf_A) rfl rfl ?_; rintro _ _ ⟨rfl, hq⟩; all_goals ((try (have hqn := hq.nx)); (try simp only [nx_A] at hqn))) | (refine wo_call rfl rfl rfl rfl (q103 _ gr_A wf_A) rfl rfl ?_; rintro _ _ ⟨rfl, hq⟩; all_goals ((try (have hqn := hq.nx)); (try simp only [nx_A] at hqn)))) | ((with_reducible refine ik_callF (f := 108) ?_); (refine wo_call rfl rfl rfl rfl (c108) rfl rfl ?_; rintro _ _ ⟨rfl, rfl⟩; all_goals ((try (have hqn := hq.nx)); (try simp only [nx_A] at hqn))))) | (with_reducible first | refine sq_norm ?_ | refine wc_seq ?_ | refine wc_region ?_ | refine wc_skip ?_ | refine wc_block ?_ | refine bq_norm ?_) | refine wc_iff rfl ?_ | (refine wc_if rfl (fun hb => dead_A hb) (fun hb => ?_); (try simp only [bb_A, reduceCtorEq] at hb)))
 refine wc_cut (fun i : Nat × Nat => [(2, .pointer (some ⟨h.nx + 1, 0, some 0⟩)), (4, .pointer (some ⟨i.1, 0, some 0⟩)), (31, whF i.2)]) (fun i h' => (h.nx + 2 ≤ i.1 ∧ i.1 < i.2 ∧ i.2 < h'.nx) ∧ Wf h' ∧ Grow h h' ∧ At h' (h.nx + 1) (.cells [.int .i64 0] 26 1 false) ∧ At h' i.1 (.cells [.int .i64 (W : Nat)] 3 1 false) ∧ At h' i.2 (.cells (shC nm a n c) 54 2 false)) (_, _) (within_lk ⟨rfl, rfl, rfl, trivial⟩) ⟨(by refine ⟨?_, ?_, ?_⟩ <;> first | (show _ ≤ H.nx _; simp only [H.nx_push, H.nx_set, H.nx_bump]; omega) | (show _ ≤ H.nx _; omega) | (show H.nx _ < H.nx _; simp only [H.nx_push, H.nx_set, H.nx_bump]; omega) | (show H.nx _ < H.nx _; omega)), wf_A, gr_A, at_A, at_A, at_A⟩ ?_
 clear q21 q107 q103
 rintro ⟨Bw, Bs⟩ h0 ⟨⟨n1, n2, n3⟩, w0, g0, a1, a2, a3⟩
 simp only at n1 n2 n3 a2 a3 ⊢
 refine wc_rangeFunc2 rfl fun ev lp he hlp => ?_
 refine (c159 (nm := nm) (a := a) (c := c) (ts := ts) (fun k g => Wf g ∧ Grow h g ∧ h0.nx + 1 ≤ g.nx ∧ At g (h.nx + 1) (.cells [.int .i64 0] 26 1 false) ∧ At g Bw (.cells [.int .i64 (W : Nat)] 3 1 false) ∧ At g Bs (.cells (shC nm a n c) 54 2 false) ∧ At g h0.nx lp ∧ mism W (ts.drop k) = mism W ts)
   (fun g => Wf g ∧ Grow h g ∧ At g (h.nx + 1) (.cells [.int .i64 2] 26 1 false) ∧ (∃ pe ps asg bd, At g h0.nx (.loop .done (some .ret) pe ps asg bd)) ∧ mism W ts = true) hn hlen ?_ ?_ ?_ ?_ ?_).mono ?_
 · rintro k g ⟨w, gr, _, _, _, b, _⟩
   exact ⟨b, s.grow gr, w⟩
 · rintro k g g' ⟨w, gr, nx, b1, b2, b3, b4, e⟩ gg ww
   exact ⟨ww, gr.trans gg, Nat.le_trans nx gg.nx, b1.grow gg, b2.grow gg, b3.grow gg, b4.grow gg, e⟩
 · rintro k g hk ⟨w, gr, nx, b1, b2, b3, b4, e⟩ hh
   refine ⟨w, gr, nx, b1, b2, b3, b4, ?_⟩
   rw [← e, mism_split W ts k hk, hh]; rfl
 · rintro k g hk ⟨w, gr, nx, b1, b2, b3, b4, e⟩ hh
   have hms := fun q => mism_some (w := W) hk hh q
   rw [mism_split W ts k hk, hh] at e
   obtain ⟨t, ht⟩ : ∃ t, ts[k] = t := ⟨_, rfl⟩
   rw [ht] at hms e ⊢
   clear hh ht
   obtain ⟨hd, hole, sa, tn, tc, tl⟩ := t
   dsimp only [Trc.cells] at hms e ⊢
   subst hlp
   by_cases hne : tn = W
   · refine cf_round b4.get he rfl rfl ?_
     repeat' (first | with_reducible refine wo_nil ?_ | ((with_reducible refine wo_any ?_); first | refine wq_A (op_alloc zz58 zs58 rfl rfl rfl) ?_ | refine wq_B (op_stAgg rfl rfl at_A zs58 rfl rfl rfl rfl) ?_) | with_reducible refine wc_region ?_)
     refine ⟨rfl, _, _, _, _, _, At.get (b := h0.nx) (o := .loop .ready none ev _ _ _) at_A, ?_⟩
     repeat' (first | with_reducible refine wo_nil ?_ | ((with_reducible refine wo_any ?_); first | refine wq_A (op_fieldAddr (o := 9) rfl Tryz.underlying58 rfl zs45 rfl) ?_ | ((with_reducible refine ik_load ?_); first | refine wq_A (op_ldAt rfl at_A Tryz.underlying45 rfl rfl) ?_ | refine wq_A (op_ldAt rfl at_A Tryz.underlying3 rfl rfl) ?_) | refine wq_A (op_lenSl rfl Tryz.underlying45) ?_ | refine wq_A (op_neq rfl rfl) ?_) | (with_reducible first | refine sq_norm ?_ | refine wc_seq ?_ | refine wc_region ?_ | refine wc_skip ?_ | refine wc_block ?_ | refine bq_norm ?_) | (refine wc_if rfl (fun hb => dead_A hb) (fun hb => ?_); (try simp only [bb_A, reduceCtorEq] at hb)))
     exact ⟨_, _, _, _, _, _, At.get (b := h0.nx) (o := .loop .busy none ev _ _ _) at_A, .inl ⟨rfl, wf_A, gr_A, (by simp only [H.nx_push, H.nx_set, H.nx_bump]; omega), at_A, at_A, at_A, at_A, by simpa [hne] using e⟩⟩
   · refine cf_round b4.get he rfl rfl ?_
     repeat' (first | with_reducible refine wo_nil ?_ | ((with_reducible refine wo_any ?_); first | refine wq_A (op_alloc zz58 zs58 rfl rfl rfl) ?_ | refine wq_B (op_stAgg rfl rfl at_A zs58 rfl rfl rfl rfl) ?_) | with_reducible refine wc_region ?_)
     refine ⟨rfl, _, _, _, _, _, At.get (b := h0.nx) (o := .loop .ready none ev _ _ _) at_A, ?_⟩
     repeat' (first | with_reducible refine wo_nil ?_ | ((with_reducible refine wo_any ?_); first | refine wq_A (op_fieldAddr (o := 9) rfl Tryz.underlying58 rfl zs45 rfl) ?_ | ((with_reducible refine ik_load ?_); first | refine wq_A (op_ldAt rfl at_A Tryz.underlying45 rfl rfl) ?_ | refine wq_A (op_ldAt rfl at_A Tryz.underlying3 rfl rfl) ?_) | refine wq_B (op_st1 rfl rfl at_A rfl zs26 rfl rfl rfl) ?_ | refine wq_A (op_lenSl rfl Tryz.underlying45) ?_ | refine wq_A (op_neq rfl rfl) ?_) | (with_reducible first | refine sq_norm ?_ | refine wc_seq ?_ | refine wc_region ?_ | refine wc_ret ?_ | refine wc_block ?_ | refine bq_ret ?_) | (refine wc_if rfl (fun hb => ?_) (fun hb => dead_A hb); (try simp only [bb_A, reduceCtorEq] at hb)))
     exact ⟨_, _, _, _, _, _, At.get (b := h0.nx) (o := .loop .busy none _ _ _ _) at_A, .inr ⟨rfl, wf_A, gr_A, at_A, ⟨_, _, _, _, at_A⟩, hms hne⟩⟩
 · exact ⟨wf_A, gr_A, (by simp only [H.nx_push, H.nx_bump]; omega), at_A, at_A, at_A, at_A, rfl⟩
 · rintro _ g (⟨w, gr, nx, b1, b2, b3, b4, e⟩ | ⟨w, gr, b1, ⟨pe, ps, asg, bd, b3⟩, hm⟩)
   · rw [List.drop_eq_nil_of_le (by omega)] at e
     have hm : ¬ mism W ts = true := by rw [← e]; unfold mism; simp
     rw [if_neg hm]
     subst hlp
     refine ⟨_, _, _, _, _, _, b4.get, by simp, ?_⟩
     repeat' (first | with_reducible refine wo_nil ?_ | ((with_reducible refine wo_any ?_); refine wq_B (op_st1 rfl rfl at_A rfl zs26 rfl rfl rfl) ?_) | (with_reducible first | refine sq_norm ?_ | refine wc_seq ?_ | refine wc_region ?_ | refine wc_ret ?_ | refine bq_norm ?_))
     exact rqc1 rfl (ld1 at_A Tryz.underlying26 rfl rfl) ⟨rfl, gr_A⟩
   · rw [if_pos hm]
     refine ⟨_, _, _, _, _, _, b3.get, by simp, ?_⟩
     repeat' (first | with_reducible refine bq_ret ?_ | with_reducible refine sq_ret ?_)
     exact rqc1 rfl (ld1 at_A Tryz.underlying26 rfl rfl) ⟨rfl, gr_A⟩
end Go.Proofs.YtdelgpbfdimefaaGreatDoor
/- Widths and holes by the program. -/
namespace Go.Proofs.YtdelgpbfdimefaaGreatDoor
open Go Go.Ab Go.Fl
attribute [local irreducible] SeqQ BlkQ LpQ RetQ Wc Wo WD WX Op1 Op1q Op1a Cf Cl From
attribute [local irreducible] Ieee.Format.order Ieee.Format.read Ieee.Format.nearest Ieee.Format.write Ieee.Format.mul Ieee.Format.div Ieee.Datum.order Ieee.Datum.integral smpE smp smpW K J U trE hdrE lchk firstNZ isNameB wid mism shE
set_option maxRecDepth 10000
variable {G : Base} {h : H}
end Go.Proofs.YtdelgpbfdimefaaGreatDoor
/- Copies of a shot are like her. -/
namespace Go.Proofs.YtdelgpbfdimefaaGreatDoor
open Go Go.Ab Go.Fl
variable {G : Base} {h : H}
theorem key_eq {t u : Trc} (q : t.key = u.key) : t.hd = u.hd ∧ t.hole = u.hole ∧ t.n = u.n ∧ t.l = u.l := by
 simp only [Trc.key, Prod.mk.injEq] at q
 exact ⟨q.1, q.2.1, q.2.2.1, q.2.2.2⟩
theorem trE_key {t u : Trc} (q : t.key = u.key) : trE t = trE u := by
 obtain ⟨e1, e2, e3, e4⟩ := key_eq q
 unfold trE
 rw [e1, e2, e3, e4]
theorem keys_cons {t u : Trc} {ts us : List Trc} (q : (t :: ts).map Trc.key = (u :: us).map Trc.key) : t.key = u.key ∧ ts.map Trc.key = us.map Trc.key := by simpa using q
theorem keys_trE : ∀ {ts us : List Trc}, us.map Trc.key = ts.map Trc.key → us.map trE = ts.map trE
 | [], [], _ => rfl
 | t :: ts, u :: us, q => by
   obtain ⟨q1, q2⟩ := keys_cons q
   rw [List.map_cons, List.map_cons, trE_key q1, keys_trE q2]
 | [], _ :: _, q => by simp at q
 | _ :: _, [], q => by simp at q
theorem keys_wid : ∀ {ts us : List Trc}, us.map Trc.key = ts.map Trc.key → wid us = wid ts
 | [], [], _ => rfl
 | t :: ts, u :: us, q => by
   obtain ⟨q1, q2⟩ := keys_cons q
   obtain ⟨_, e2, e3, _⟩ := key_eq q1
   rw [wid, wid, e2, e3, keys_wid q2]
 | [], _ :: _, q => by simp at q
 | _ :: _, [], q => by simp at q
theorem keys_mism {w : Nat} : ∀ {ts us : List Trc}, us.map Trc.key = ts.map Trc.key → mism w us = mism w ts
 | [], [], _ => rfl
 | t :: ts, u :: us, q => by
   obtain ⟨q1, q2⟩ := keys_cons q
   obtain ⟨_, e2, e3, _⟩ := key_eq q1
   have := keys_mism (w := w) q2
   unfold mism at this ⊢
   rw [List.any_cons, List.any_cons, e2, e3, this]
 | [], _ :: _, q => by simp at q
 | _ :: _, [], q => by simp at q
theorem keys_shE {nm : ByteArray} {ts us : List Trc} (q : us.map Trc.key = ts.map Trc.key) : shE nm us = shE nm ts := by
 have hl : us.length = ts.length := by simpa using congrArg List.length q
 unfold shE
 rw [hl, keys_trE q, keys_wid q, keys_mism q]
theorem keys_n {ts us : List Trc} (q : us.map Trc.key = ts.map Trc.key) {N : Nat} (h : ∀ t ∈ ts, t.n < N) : ∀ t ∈ us, t.n < N := by
 intro u hu
 have : u.key ∈ ts.map Trc.key := by rw [← q]; exact List.mem_map_of_mem hu
 obtain ⟨t, ht, e⟩ := List.mem_map.1 this
 rw [← (key_eq e).2.2.1]
 exact h t ht
end Go.Proofs.YtdelgpbfdimefaaGreatDoor
