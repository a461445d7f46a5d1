/- Shots summed by the reference. -/
import Derived.Test.YtdelgpbfdimefaaGreatDoorP2
import Derived.Test.YtdelgpbfdimefaaGreatDoorM4
set_option linter.all false
/- Shots summed by the reference. -/
namespace Go.Proofs.YtdelgpbfdimefaaGreatDoor
open Go Go.Ab Go.Fl
attribute [local irreducible] SeqQ BlkQ LpQ RetQ Wc Wo WD WX Op1 Op1q Op1a Cf Cl From
attribute [local irreducible] Ieee.Format.order Ieee.Format.read Ieee.Format.nearest Ieee.Format.write Ieee.Format.mul Ieee.Format.div Ieee.Datum.order Ieee.Datum.integral smpE smp smpW K J U trE hdrE lchk firstNZ isNameB wid mism shE offs shortB anyLarge spanE folE rngE
set_option maxRecDepth 10000
variable {G : Base} {h : H}
def addL (us : List Trc) (j : Nat) (t : Trc) : List Int := addF (t.l.map smp) (getL us j)
theorem chAdd_hole {us : List Trc} {j : Nat} {t : Trc} (hh : t.hole = true) : chKey (mrgF addF us) j t = (t.hd, true, 0, []) := by unfold chKey; rw [if_pos hh]
theorem chAdd_live {us : List Trc} {j : Nat} {t : Trc} (hh : t.hole = false) : chKey (mrgF addF us) j t = (t.hd, false, (addL us j t).length, (addL us j t).map smpW) := by unfold chKey; rw [if_neg (by simp [hh])]; rfl
set_option maxHeartbeats 4000000 in
theorem c52 {nm nm' : ByteArray} {a a' : Option Addr} {n m c c' : Nat} {ts us : List Trc} (s : SlT G h (.slice a n c) n ts) (s' : SlT G h (.slice a' m c') m us) (hE : shE nm ts = 0) (hE' : shE nm' us = 0) (hw : Wf h) :
   Cf (mz G) (.func (.func 52) #[] #[]) [.agg ⟨shC nm a n c⟩, .agg ⟨shC nm' a' m c'⟩] h fun r h' => ((alkE ts us ≠ 0 ∧ r = .tuple #[.agg ⟨zShot⟩, .int .i64 (alkE ts us)]) ∨ (alkE ts us = 0 ∧ ChBad (mrgF addF us) (mskL ts us) ∧ r = .tuple #[.agg ⟨zShot⟩, .int .i64 4]) ∨ (alkE ts us = 0 ∧ ¬ ChBad (mrgF addF us) (mskL ts us) ∧ ∃ (B : Nat) (vs : List Trc), r = .tuple #[.agg ⟨shC nm (some ⟨B, 0, some 0⟩) n n⟩, .int .i64 0] ∧ At h' B (.cells (vs.flatMap Trc.cells) 47 10 true) ∧ (∀ u ∈ vs, TrOk G h' u) ∧ KeyAll vs (mskL ts us) (chKey (mrgF addF us)))) ∧ Grow h h' := by
 have hlen := s.len
 have hlen' := s'.len
 obtain ⟨v1, v2, v3, v4, v5⟩ := valid_facts s hE
 obtain ⟨v1', v2', v3', v4', v5'⟩ := valid_facts s' hE'
 have k5 := (shE_ok hE).2.2.2.2
 have k5' := (shE_ok hE').2.2.2.2
 have q104 := fun (h' : H) (g : Grow h h') (w : Wf h') => c104 (nm := nm) (s.grow g) (by omega) w
 have q104b := fun (h' : H) (g : Grow h h') (w : Wf h') => c104 (nm := nm') (s'.grow g) (by omega) w
 have hfe : alkE ts us = if ts.length ≠ us.length then 2 else if (anyW ts && anyW us && decide (wid ts ≠ wid us)) = true then 2 else if hdM ts us = true then 24 else 0 := by unfold alkE; rfl
 rw [hfe]
 clear hfe
 rw [hlen, hlen']
 have wl : ∀ t ∈ ts, t.hole = false → anyW ts = true := fun t ht hh => wid_live ht hh
 have wl' : ∀ t ∈ us, t.hole = false → anyW us = true := fun t ht hh => wid_live ht hh
 have hWm := wid_le v3
 have hVm := wid_le v3'
 obtain ⟨W, hW⟩ : ∃ W, wid ts = W := ⟨_, rfl⟩
 obtain ⟨V, hV⟩ : ∃ W, wid us = W := ⟨_, rfl⟩
 obtain ⟨A, hA⟩ : ∃ W, anyW ts = W := ⟨_, rfl⟩
 obtain ⟨B, hB⟩ : ∃ W, anyW us = W := ⟨_, rfl⟩
 rw [hW, hA] at q104
 rw [hV, hB] at q104b
 rw [hW, hV, hA, hB]
 rw [hW] at k5 hWm
 rw [hV] at k5' hVm
 rw [hA] at wl
 rw [hB] at wl'
 by_cases hne : n ≠ m
 · rw [if_pos hne]
   refine cf_enter0 140 [.cell 4 43, .tmp 5] Tryz.func52 rfl rfl rfl rfl ?_
   repeat' (first | with_reducible refine wo_nil ?_ | ((with_reducible refine wo_any ?_); first | refine wq_A (op_move rfl) ?_ | refine wq_A (op_assign rfl) ?_ | refine wq_A (op_boxAgg rfl zs43 rfl) ?_ | refine wq_A (op_alloc zz43 zs43 rfl rfl rfl) ?_ | ((with_reducible refine ik_load ?_); first | refine wq_A (op_ldAgg rfl at_A Tryz.underlying43 rfl zs43 rfl rfl) ?_ | refine wq_A (op_ldAt rfl at_A Tryz.underlying41 rfl rfl) ?_) | refine wq_A (op_extract rfl rfl) ?_ | refine wq_A (op_fieldAddr (o := 1) rfl Tryz.underlying43 rfl zs41 rfl) ?_ | refine wq_A (op_lenSl rfl Tryz.underlying41) ?_ | refine wq_A (op_neq rfl rfl) ?_ | refine wq_A (op_pickt rfl rfl) ?_ | refine wq_A (op_buildT rfl zz43 zp43 rfl rfl) ?_ | refine wq_B (op_stAgg rfl rfl at_A zs43 rfl rfl rfl rfl) ?_ | ((with_reducible refine ik_callv ?_); first | (refine wo_call rfl rfl rfl rfl (q104 _ gr_A wf_A) rfl rfl ?_; rintro _ _ ⟨rfl, hq⟩; all_goals ((try (have hqn := hq.nx)); (try simp only [nx_A] at hqn))) | (refine wo_call rfl rfl rfl rfl (q104b _ gr_A wf_A) rfl rfl ?_; rintro _ _ ⟨rfl, hq⟩; all_goals ((try (have hqn := hq.nx)); (try simp only [nx_A] at hqn)))) | ((with_reducible refine ik_g ?_); first | refine wo_gskip rfl rfl rfl rfl rfl rfl ?_ | refine wo_gskip' rfl rfl rfl rfl rfl ?_ | (refine wo_gsplit rfl rfl rfl (fun hb => ?_) (fun hb => dead_A hb); (try simp only [bb_A, reduceCtorEq] at hb)))) | (with_reducible first | refine sq_norm ?_ | refine wc_seq ?_ | refine wc_region ?_ | refine wc_ret ?_ | refine sq_ret ?_) | refine wc_ift rfl ?_)
   all_goals exact rqc2 rfl (ldAgg at_A Tryz.underlying43 rfl zs43 rfl rfl) rfl ⟨.inl ⟨by decide, rfl⟩, gr_A⟩
 rw [if_neg hne]
 have hne : n = m := by simpa using hne
 subst hne
 refine cf_enter0 140 [.cell 4 43, .tmp 5] Tryz.func52 rfl rfl rfl rfl ?_
 refine wc_mid (ι := Unit) (fun _ => [(2, .pointer (some ⟨h.nx, 0, some 0⟩)), (3, .pointer (some ⟨h.nx + 1, 0, some 0⟩)), (4, .pointer (some ⟨h.nx + 2, 0, some 0⟩)), (5, .int .i64 0)]) (fun _ h1 => Wf h1 ∧ Grow h h1 ∧ h.nx + 3 ≤ h1.nx ∧ At h1 h.nx (.cells (shC nm a n c) 43 2 false) ∧ At h1 (h.nx + 1) (.cells (shC nm' a' n c') 43 2 false) ∧ At h1 (h.nx + 2) (.cells zShot 43 2 false)) ?_ ?_
 · repeat' (first | with_reducible refine wo_nil ?_ | ((with_reducible refine wo_any ?_); first | refine wq_A (op_assign rfl) ?_ | refine wq_A (op_boxAgg rfl zs43 rfl) ?_ | refine wq_A (op_alloc zz43 zs43 rfl rfl rfl) ?_) | with_reducible refine wc_region ?_)
   exact ⟨rfl, (), within_lk ⟨rfl, rfl, rfl, rfl, trivial⟩, wf_A, gr_A, (by simp only [H.nx_push]; omega), at_A, at_A, at_A⟩
 rintro _ h1 ⟨w1, g1, n1, a0, a1, a2⟩
 refine wc_mid (ι := Unit) (fun _ => [(2, .pointer (some ⟨h.nx, 0, some 0⟩)), (3, .pointer (some ⟨h.nx + 1, 0, some 0⟩)), (4, .pointer (some ⟨h.nx + 2, 0, some 0⟩)), (5, .int .i64 0), (6, .int .i64 (W : Nat)), (7, .bool A)]) (fun _ h1 => Wf h1 ∧ Grow h h1 ∧ h.nx + 3 ≤ h1.nx ∧ At h1 h.nx (.cells (shC nm a n c) 43 2 false) ∧ At h1 (h.nx + 1) (.cells (shC nm' a' n c') 43 2 false) ∧ At h1 (h.nx + 2) (.cells zShot 43 2 false)) ?_ ?_
 · repeat' (first | with_reducible refine wo_nil ?_ | ((with_reducible refine wo_any ?_); first | refine wq_A (op_move rfl) ?_ | refine wq_A (op_assign rfl) ?_ | refine wq_A (op_ldAgg rfl at_A Tryz.underlying43 rfl zs43 rfl rfl) ?_ | refine wq_A (op_extract rfl rfl) ?_ | ((with_reducible refine ik_callv ?_); (refine wo_call rfl rfl rfl rfl (q104 _ gr_A wf_A) rfl rfl ?_; rintro _ _ ⟨rfl, hq⟩; all_goals ((try (have hqn := hq.nx)); (try simp only [nx_A] at hqn))))) | with_reducible refine wc_region ?_)
   exact ⟨rfl, (), within_lk ⟨rfl, rfl, rfl, rfl, rfl, rfl, trivial⟩, wf_A, gr_A, (by omega), at_A, at_A, at_A⟩
 clear w1 g1 n1 a0 a1 a2 h1 q104
 rintro _ h1 ⟨w1, g1, n1, a0, a1, a2⟩
 refine wc_mid (ι := Unit) (fun _ => [(2, .pointer (some ⟨h.nx, 0, some 0⟩)), (3, .pointer (some ⟨h.nx + 1, 0, some 0⟩)), (4, .pointer (some ⟨h.nx + 2, 0, some 0⟩)), (5, .int .i64 0), (6, .int .i64 (W : Nat)), (7, .bool A), (8, .int .i64 (V : Nat)), (9, .bool B)]) (fun _ h1 => Wf h1 ∧ Grow h h1 ∧ h.nx + 3 ≤ h1.nx ∧ At h1 h.nx (.cells (shC nm a n c) 43 2 false) ∧ At h1 (h.nx + 1) (.cells (shC nm' a' n c') 43 2 false) ∧ At h1 (h.nx + 2) (.cells zShot 43 2 false)) ?_ ?_
 · repeat' (first | with_reducible refine wo_nil ?_ | ((with_reducible refine wo_any ?_); first | refine wq_A (op_move rfl) ?_ | refine wq_A (op_assign rfl) ?_ | refine wq_A (op_ldAgg rfl at_A Tryz.underlying43 rfl zs43 rfl rfl) ?_ | refine wq_A (op_extract rfl rfl) ?_ | ((with_reducible refine ik_callv ?_); (refine wo_call rfl rfl rfl rfl (q104b _ gr_A wf_A) rfl rfl ?_; rintro _ _ ⟨rfl, hq⟩; all_goals ((try (have hqn := hq.nx)); (try simp only [nx_A] at hqn))))) | with_reducible refine wc_region ?_)
   exact ⟨rfl, (), within_lk ⟨rfl, rfl, rfl, rfl, rfl, rfl, rfl, rfl, trivial⟩, wf_A, gr_A, (by omega), at_A, at_A, at_A⟩
 clear w1 g1 n1 a0 a1 a2 h1 q104b
 rintro _ h1 ⟨w1, g1, n1, a0, a1, a2⟩
 obtain ⟨b3, hb3⟩ : ∃ b, (A && B && decide (W ≠ V)) = b := ⟨_, rfl⟩
 rw [hb3]
 cases b3 with
 | true =>
   simp only [Bool.and_eq_true, decide_eq_true_eq] at hb3
   obtain ⟨⟨rfl, rfl⟩, hWV⟩ := hb3
   have hWV2 : (W : Int) ≠ V := by omega
   rw [if_pos rfl]
   repeat' (first | with_reducible refine wo_nil ?_ | ((with_reducible refine wo_any ?_); first | refine wq_A (op_move rfl) ?_ | refine wq_A (op_assign rfl) ?_ | refine wq_A (op_ldAt rfl at_A Tryz.underlying41 rfl rfl) ?_ | refine wq_A (op_fieldAddr (o := 1) rfl Tryz.underlying43 rfl zs41 rfl) ?_ | refine wq_A (op_lenSl rfl Tryz.underlying41) ?_ | refine wq_A (op_neq rfl rfl) ?_ | refine wq_A (op_pickf rfl rfl) ?_ | refine wq_A (op_buildT rfl zz43 zp43 rfl rfl) ?_ | refine wq_B (op_stAgg rfl rfl at_A zs43 rfl rfl rfl rfl) ?_ | ((with_reducible refine ik_g ?_); first | refine wo_grun rfl rfl rfl (op_move rfl) rfl rfl ?_ | refine wo_grun rfl rfl rfl (op_neq rfl rfl) rfl rfl ?_ | refine wo_grun rfl rfl rfl (op_pickt rfl rfl) rfl rfl ?_ | (refine wo_gsplit rfl rfl rfl (fun hb => (of_decide_eq_true hb rfl).elim) (fun hb => ?_); (try simp only [bb_A, reduceCtorEq] at hb)))) | (with_reducible first | refine sq_norm ?_ | refine wc_seq ?_ | refine wc_region ?_ | refine wc_ret ?_ | refine sq_ret ?_) | (refine wc_if rfl (fun hb => ?_) (fun hb => dead_A hb); (try simp only [bb_A, reduceCtorEq] at hb)))
   all_goals exact rqc2 rfl (ldAgg at_A Tryz.underlying43 rfl zs43 rfl rfl) rfl ⟨.inl ⟨by decide, rfl⟩, gr_A⟩
 | false =>
 rw [if_neg (by simp)]
 refine wc_mid (ι := Unit) (fun _ => [(2, .pointer (some ⟨h.nx, 0, some 0⟩)), (3, .pointer (some ⟨h.nx + 1, 0, some 0⟩)), (4, .pointer (some ⟨h.nx + 2, 0, some 0⟩)), (5, .int .i64 0), (6, .int .i64 (W : Nat))]) (fun _ h1 => Wf h1 ∧ Grow h h1 ∧ h.nx + 3 ≤ h1.nx ∧ At h1 h.nx (.cells (shC nm a n c) 43 2 false) ∧ At h1 (h.nx + 1) (.cells (shC nm' a' n c') 43 2 false) ∧ At h1 (h.nx + 2) (.cells zShot 43 2 false)) ?_ ?_
 · cases A with
   | false =>
     repeat' (first | with_reducible refine wo_nil ?_ | ((with_reducible refine wo_any ?_); first | refine wq_A (op_move rfl) ?_ | refine wq_A (op_ldAt rfl at_A Tryz.underlying41 rfl rfl) ?_ | refine wq_A (op_fieldAddr (o := 1) rfl Tryz.underlying43 rfl zs41 rfl) ?_ | refine wq_A (op_lenSl rfl Tryz.underlying41) ?_ | refine wq_A (op_neq rfl rfl) ?_ | refine wq_A (op_pickf rfl rfl) ?_ | ((with_reducible refine ik_g ?_); first | refine wo_gskip rfl rfl rfl rfl rfl rfl ?_ | refine wo_grun rfl rfl rfl (op_move rfl) rfl rfl ?_ | refine wo_grun rfl rfl rfl (op_pickf rfl rfl) rfl rfl ?_ | (refine wo_gsplit rfl rfl rfl (fun hb => (of_decide_eq_true hb rfl).elim) (fun hb => ?_); (try simp only [bb_A, reduceCtorEq] at hb)))) | (with_reducible first | refine sq_norm ?_ | refine wc_seq ?_ | refine wc_region ?_ | refine wc_skip ?_) | refine wc_iff rfl ?_)
     all_goals exact ⟨rfl, (), within_lk ⟨rfl, rfl, rfl, rfl, rfl, trivial⟩, wf_A, gr_A, (by omega), at_A, at_A, at_A⟩
   | true =>
     cases B with
     | false =>
       repeat' (first | with_reducible refine wo_nil ?_ | ((with_reducible refine wo_any ?_); first | refine wq_A (op_move rfl) ?_ | refine wq_A (op_ldAt rfl at_A Tryz.underlying41 rfl rfl) ?_ | refine wq_A (op_fieldAddr (o := 1) rfl Tryz.underlying43 rfl zs41 rfl) ?_ | refine wq_A (op_lenSl rfl Tryz.underlying41) ?_ | refine wq_A (op_neq rfl rfl) ?_ | refine wq_A (op_pickf rfl rfl) ?_ | ((with_reducible refine ik_g ?_); first | refine wo_gskip rfl rfl rfl rfl rfl rfl ?_ | refine wo_grun rfl rfl rfl (op_move rfl) rfl rfl ?_ | ((with_reducible refine ig_pick ?_); first | refine wo_grun rfl rfl rfl (op_pickt rfl rfl) rfl rfl ?_ | refine wo_grun rfl rfl rfl (op_pickf rfl rfl) rfl rfl ?_) | (refine wo_gsplit rfl rfl rfl (fun hb => (of_decide_eq_true hb rfl).elim) (fun hb => ?_); (try simp only [bb_A, reduceCtorEq] at hb)))) | (with_reducible first | refine sq_norm ?_ | refine wc_seq ?_ | refine wc_region ?_ | refine wc_skip ?_) | refine wc_iff rfl ?_)
       all_goals exact ⟨rfl, (), within_lk ⟨rfl, rfl, rfl, rfl, rfl, trivial⟩, wf_A, gr_A, (by omega), at_A, at_A, at_A⟩
     | true =>
       have hWV : W = V := by simpa using hb3
       subst hWV
       repeat' (first | with_reducible refine wo_nil ?_ | ((with_reducible refine wo_any ?_); first | refine wq_A (op_move rfl) ?_ | refine wq_A (op_ldAt rfl at_A Tryz.underlying41 rfl rfl) ?_ | refine wq_A (op_fieldAddr (o := 1) rfl Tryz.underlying43 rfl zs41 rfl) ?_ | refine wq_A (op_lenSl rfl Tryz.underlying41) ?_ | refine wq_A (op_neq rfl rfl) ?_ | refine wq_A (op_pickf rfl rfl) ?_ | ((with_reducible refine ik_g ?_); first | refine wo_grun rfl rfl rfl (op_move rfl) rfl rfl ?_ | refine wo_grun rfl rfl rfl (op_neq rfl rfl) rfl rfl ?_ | refine wo_grun rfl rfl rfl (op_pickt rfl rfl) rfl rfl ?_ | (refine wo_gsplit rfl rfl rfl (fun hb => (of_decide_eq_true hb rfl).elim) (fun hb => ?_); (try simp only [bb_A, reduceCtorEq] at hb)))) | (with_reducible first | refine sq_norm ?_ | refine wc_seq ?_ | refine wc_region ?_ | refine wc_skip ?_) | (refine wc_if rfl (fun hb => (of_decide_eq_true hb rfl).elim) (fun hb => ?_); (try simp only [bb_A, reduceCtorEq] at hb)))
       all_goals exact ⟨rfl, (), within_lk ⟨rfl, rfl, rfl, rfl, rfl, trivial⟩, wf_A, gr_A, (by omega), at_A, at_A, at_A⟩
 clear w1 g1 n1 a0 a1 a2 h1
 have hWV : ∀ t ∈ ts, ∀ u ∈ us, t.hole = false → u.hole = false → V = W := fun t ht u hu h1 h2 => by
   have e1 := wl t ht h1
   have e2 := wl' u hu h2
   subst e1 e2
   have : W = V := by simpa using hb3
   exact this.symm
 clear hb3 wl wl' hA hB hW hV
 rintro _ h1 ⟨w1, g1, n1, a0, a1, a2⟩
 repeat' (first | with_reducible refine wo_nil ?_ | ((with_reducible refine wo_any ?_); refine wq_A (op_assign rfl) ?_) | (with_reducible first | refine sq_norm ?_ | refine wc_seq ?_ | refine wc_region ?_ | refine wc_block ?_))
 refine wc_loop (fun k => n - k) (fun k : Nat => [(2, .pointer (some ⟨h.nx, 0, some 0⟩)), (3, .pointer (some ⟨h.nx + 1, 0, some 0⟩)), (4, .pointer (some ⟨h.nx + 2, 0, some 0⟩)), (5, .int .i64 0), (6, .int .i64 (W : Nat)), (10, .int .i64 k)])
   (fun k h1 => (Wf h1 ∧ Grow h h1 ∧ h.nx + 3 ≤ h1.nx ∧ At h1 h.nx (.cells (shC nm a n c) 43 2 false) ∧ At h1 (h.nx + 1) (.cells (shC nm' a' n c') 43 2 false) ∧ At h1 (h.nx + 2) (.cells zShot 43 2 false)) ∧ k ≤ n ∧ hdM (ts.drop k) (us.drop k) = hdM ts us) 0 (within_lk ⟨rfl, rfl, rfl, rfl, rfl, rfl, trivial⟩) ⟨⟨w1, g1, n1, a0, a1, a2⟩, Nat.zero_le _, rfl⟩ ?_
 clear w1 g1 n1 a0 a1 a2 h1
 rintro k h1 ⟨⟨w1, g1, n1, a0, a1, a2⟩, hk, hi⟩
 have hgn := g1.nx
 by_cases hlt : k < n
 · obtain ⟨ad, f1, f3⟩ := slT_at s Tryz.underlying41 zs47 (i := (k : Int)) hlt rfl
   obtain ⟨bd, e1, e3⟩ := slT_at s' Tryz.underlying41 zs47 (i := (k : Int)) hlt rfl
   rw [hdM_step (by omega) (by omega)] at hi
   have hD := hd_eqv (ts[k]'(by omega)).hd (us[k]'(by omega)).hd
   obtain ⟨D, hD2⟩ : ∃ D, hdB (ts[k]'(by omega)).hd (us[k]'(by omega)).hd = D := ⟨_, rfl⟩
   rw [hD2] at hD hi
   clear hD2
   obtain ⟨t, ht⟩ : ∃ t, ts[k]'(by omega) = t := ⟨_, rfl⟩
   obtain ⟨u, hu⟩ : ∃ t, us[k]'(by omega) = t := ⟨_, rfl⟩
   rw [ht] at f3 hD
   rw [hu] at e3 hD
   clear ht hu
   have qf8 : ∀ (g : H), Grow h g → acells G g 8 (aadd ad 0) = some (hdCells t.hd) := fun g gg => by rw [aadd_zero]; exact ((f3.take 8).grow gg).all
   have qe8 : ∀ (g : H), Grow h g → acells G g 8 (aadd bd 0) = some (hdCells u.hd) := fun g gg => by rw [aadd_zero]; exact ((e3.take 8).grow gg).all
   cases D with
   | false =>
     rw [show (!false || hdM (ts.drop (k + 1)) (us.drop (k + 1))) = true from rfl] at hi
     rw [← hi, if_pos rfl]
     repeat' (first | with_reducible refine wo_nil ?_ | ((with_reducible refine wo_any ?_); first | refine wq_A (op_move rfl) ?_ | refine wq_A (op_assign rfl) ?_ | refine wq_A (op_ldAt rfl at_A Tryz.underlying41 rfl rfl) ?_ | refine wq_A (op_lss rfl rfl) ?_ | refine wq_A (op_fieldAddr (o := 1) rfl Tryz.underlying43 rfl zs41 rfl) ?_ | refine wq_A (op_lenSl rfl Tryz.underlying41) ?_ | refine wq_A (op_buildT rfl zz43 zp43 rfl rfl) ?_ | refine wq_B (op_stAgg rfl rfl at_A zs43 rfl rfl rfl rfl) ?_) | ((with_reducible refine xk_any ?_); ((with_reducible refine xk_as0 ?_); first | ((with_reducible refine xk_move ?_); refine wx_q (wt_none rfl) rfl rfl (op_q rfl (op_move rfl)) rfl rfl rfl ?_) | ((with_reducible refine xk_indexAddr ?_); first | refine wx_q (wt_none rfl) rfl rfl (op_q rfl (op_indexAddr rfl rfl f1)) rfl rfl rfl ?_ | refine wx_q (wt_none rfl) rfl rfl (op_q rfl (op_indexAddr rfl rfl e1)) rfl rfl rfl ?_) | ((with_reducible refine xk_load ?_); first | refine wx_h0 (wt_none rfl) rfl (op_q rfl (op_ldCells rfl Tryz.underlying44 rfl zs44 (qf8 _ gr_A))) rfl rfl rfl ?_ | refine wx_h0 (wt_none rfl) rfl (op_q rfl (op_ldCells rfl Tryz.underlying44 rfl zs44 (qe8 _ gr_A))) rfl rfl rfl ?_ | refine wx_h0 (wt_none rfl) rfl (op_q rfl (op_ldAt rfl at_A Tryz.underlying41 rfl rfl)) rfl rfl rfl ?_) | ((with_reducible refine xk_bin ?_); refine wx_q (wt_none rfl) rfl rfl (op_q rfl (op_neT 3 rfl rfl rfl Tryz.underlying44 rfl eg44 hD)) rfl rfl rfl ?_) | ((with_reducible refine xk_fieldAddr ?_); first | refine wx_q (wt_none rfl) rfl rfl (op_q rfl (op_fieldAddr (o := 1) rfl Tryz.underlying43 rfl zs41 rfl)) rfl rfl rfl ?_ | refine wx_q (wt_none rfl) rfl rfl (op_q rfl (op_fieldAddr (o := 0) rfl Tryz.underlying47 rfl zs44 rfl)) rfl rfl rfl ?_) | with_reducible refine wx_nil0 ?_ ?_)) | with_reducible exact obl_nil | with_reducible refine obl_cons ?_ ?_ | ((with_reducible refine ik_obs ?_); first | exact obs_nil | refine obs_chkn rfl rfl (op_q rfl (op_ldCells rfl Tryz.underlying44 rfl zs44 (qf8 _ gr_A))) ?_ | refine obs_chkn rfl rfl (op_q rfl (op_ldCells rfl Tryz.underlying44 rfl zs44 (qe8 _ gr_A))) ?_ | refine obs_chkn rfl rfl (op_q rfl (op_ldAt rfl at_A Tryz.underlying41 rfl (by rfl))) ?_) | (with_reducible first | refine sq_norm ?_ | refine wc_seq ?_ | refine wc_region ?_ | refine wc_skip ?_ | refine wc_ret ?_ | refine wc_block ?_ | refine bq_ret ?_ | refine sq_ret ?_ | refine lq_ret ?_) | refine wc_ift rfl ?_ | (refine wc_if rfl (fun hb => ?_) (fun hb => dead_A hb); (try simp only [bb_A, reduceCtorEq] at hb)) | refine wc_drawB (id := 8) 13 [0, 1, 0, 7, 15, 31, 0, 64, 0, 448, 960, 1984, 4095] [0, 1, 2, 3, 4, 5, 6, 7, 8, 9, 10, 11, 12] (by kernel_rfl) (by kernel_rfl) rfl rfl ?_)
     all_goals exact rqc2 rfl (ldAgg at_A Tryz.underlying43 rfl zs43 rfl rfl) rfl ⟨.inl ⟨by decide, rfl⟩, gr_A⟩
   | true =>
     rw [show (!true || hdM (ts.drop (k + 1)) (us.drop (k + 1))) = hdM (ts.drop (k + 1)) (us.drop (k + 1)) from rfl] at hi
     repeat' (first | with_reducible refine wo_nil ?_ | ((with_reducible refine wo_any ?_); first | refine wq_A (op_move rfl) ?_ | refine wq_A (op_assign rfl) ?_ | refine wq_A (op_ldAt rfl at_A Tryz.underlying41 rfl rfl) ?_ | ((with_reducible refine ik_bin ?_); first | refine wq_A (op_lss rfl rfl) ?_ | refine wq_A (op_add' rfl rfl (w64 (by omega) (by omega))) ?_) | refine wq_A (op_fieldAddr (o := 1) rfl Tryz.underlying43 rfl zs41 rfl) ?_ | refine wq_A (op_lenSl rfl Tryz.underlying41) ?_) | ((with_reducible refine xk_any ?_); ((with_reducible refine xk_as0 ?_); first | ((with_reducible refine xk_move ?_); refine wx_q (wt_none rfl) rfl rfl (op_q rfl (op_move rfl)) rfl rfl rfl ?_) | ((with_reducible refine xk_indexAddr ?_); first | refine wx_q (wt_none rfl) rfl rfl (op_q rfl (op_indexAddr rfl rfl f1)) rfl rfl rfl ?_ | refine wx_q (wt_none rfl) rfl rfl (op_q rfl (op_indexAddr rfl rfl e1)) rfl rfl rfl ?_) | ((with_reducible refine xk_load ?_); first | refine wx_h0 (wt_none rfl) rfl (op_q rfl (op_ldCells rfl Tryz.underlying44 rfl zs44 (qf8 _ gr_A))) rfl rfl rfl ?_ | refine wx_h0 (wt_none rfl) rfl (op_q rfl (op_ldCells rfl Tryz.underlying44 rfl zs44 (qe8 _ gr_A))) rfl rfl rfl ?_ | refine wx_h0 (wt_none rfl) rfl (op_q rfl (op_ldAt rfl at_A Tryz.underlying41 rfl rfl)) rfl rfl rfl ?_) | ((with_reducible refine xk_bin ?_); refine wx_q (wt_none rfl) rfl rfl (op_q rfl (op_neT 3 rfl rfl rfl Tryz.underlying44 rfl eg44 hD)) rfl rfl rfl ?_) | ((with_reducible refine xk_fieldAddr ?_); first | refine wx_q (wt_none rfl) rfl rfl (op_q rfl (op_fieldAddr (o := 1) rfl Tryz.underlying43 rfl zs41 rfl)) rfl rfl rfl ?_ | refine wx_q (wt_none rfl) rfl rfl (op_q rfl (op_fieldAddr (o := 0) rfl Tryz.underlying47 rfl zs44 rfl)) rfl rfl rfl ?_) | with_reducible refine wx_nil0 ?_ ?_)) | with_reducible exact obl_nil | with_reducible refine obl_cons ?_ ?_ | ((with_reducible refine ik_obs ?_); first | exact obs_nil | refine obs_chkn rfl rfl (op_q rfl (op_ldCells rfl Tryz.underlying44 rfl zs44 (qf8 _ gr_A))) ?_ | refine obs_chkn rfl rfl (op_q rfl (op_ldCells rfl Tryz.underlying44 rfl zs44 (qe8 _ gr_A))) ?_ | refine obs_chkn rfl rfl (op_q rfl (op_ldAt rfl at_A Tryz.underlying41 rfl (by rfl))) ?_) | (with_reducible first | refine sq_norm ?_ | refine wc_seq ?_ | refine wc_region ?_ | refine wc_skip ?_ | refine wc_block ?_ | refine bq_norm ?_) | refine wc_iff rfl ?_ | (refine wc_if rfl (fun hb => ?_) (fun hb => dead_A hb); (try simp only [bb_A, reduceCtorEq] at hb)) | refine wc_drawB (id := 8) 13 [0, 1, 0, 7, 15, 31, 0, 64, 0, 448, 960, 1984, 4095] [0, 1, 2, 3, 4, 5, 6, 7, 8, 9, 10, 11, 12] (by kernel_rfl) (by kernel_rfl) rfl rfl ?_)
     all_goals exact lq_norm (k + 1) (by omega) (within_lk ⟨rfl, rfl, rfl, rfl, rfl, rfl, trivial⟩) ⟨⟨wf_A, gr_A, (by simp only [H.nx_bump]; omega), at_A, at_A, at_A⟩, by omega, hi⟩
 have hkn : k = n := by omega
 subst hkn
 rw [List.drop_eq_nil_of_le (by omega), List.drop_eq_nil_of_le (by omega)] at hi
 have hnf : hdM ts us = false := by rw [← hi]; rfl
 rw [hnf, if_neg (by simp)]
 clear hi hnf hlt hk
 repeat' (first | with_reducible refine wo_nil ?_ | ((with_reducible refine wo_any ?_); first | refine wq_A (op_move rfl) ?_ | refine wq_A (op_assign rfl) ?_ | refine wq_A (op_alloc zz43 zs43 rfl rfl rfl) ?_ | ((with_reducible refine ik_load ?_); first | refine wq_A (op_ldAt rfl at_A Tryz.underlying41 rfl rfl) ?_ | refine wq_A (op_ldAt rfl at_A Tryz.underlying9 rfl rfl) ?_) | ((with_reducible refine ik_fieldAddr ?_); first | refine wq_A (op_fieldAddr (o := 1) rfl Tryz.underlying43 rfl zs41 rfl) ?_ | refine wq_A (op_fieldAddr (o := 0) rfl Tryz.underlying43 rfl zs9 rfl) ?_) | refine wq_A (op_lenSl rfl Tryz.underlying41) ?_ | refine wq_A (op_lss rfl rfl) ?_ | refine wq_A (op_buildT rfl zz43 zp43 rfl rfl) ?_ | refine wq_B (op_stAgg rfl rfl at_A zs43 rfl rfl rfl rfl) ?_) | (with_reducible first | refine sq_norm ?_ | refine wc_seq ?_ | refine wc_region ?_ | refine wc_exit ?_ | refine wc_block ?_ | refine sq_exit ?_ | refine lq_exit ?_) | refine bq_eq rfl ?_ | (refine wc_if rfl (fun hb => ?_) (fun hb => ?_) <;> (try simp only [bb_A, reduceCtorEq] at hb) <;> (try (exfalso; omega))))
 refine wc_cut (ι := Nat) (fun b8 => [(2, .pointer (some ⟨h.nx, 0, some 0⟩)), (3, .pointer (some ⟨h.nx + 1, 0, some 0⟩)), (4, .pointer (some ⟨h.nx + 2, 0, some 0⟩)), (5, .int .i64 0), (6, .int .i64 (W : Nat)), (11, .pointer (some ⟨b8, 0, some 0⟩)), (12, .int .i64 0)])
   (fun b8 h1 => (Wf h1 ∧ Grow h h1 ∧ h.nx + 3 ≤ b8 ∧ b8 < h1.nx ∧ At h1 h.nx (.cells (shC nm a k c) 43 2 false) ∧ At h1 (h.nx + 1) (.cells (shC nm' a' k c') 43 2 false) ∧ At h1 (h.nx + 2) (.cells zShot 43 2 false) ∧ At h1 b8 (.cells [.string nm, .slice none 0 0] 43 2 false))) _ (within_lk ⟨rfl, rfl, rfl, rfl, rfl, rfl, rfl, trivial⟩) ⟨wf_A, gr_A, n1, (by simp only [H.nx_set, H.nx_push]; omega), at_A, at_A, at_A, at_A⟩ ?_
 clear w1 g1 n1 a0 a1 a2 hgn
 rintro b8 h1 ⟨w1, g1, n1, n2, a0, a1, a2, a8⟩
 have hml := mskL_len (ts := ts) (us := us) (by omega)
 refine wc_loop (fun p => k - p.1) (fun p : Nat × Value × List Trc => [(2, .pointer (some ⟨h.nx, 0, some 0⟩)), (3, .pointer (some ⟨h.nx + 1, 0, some 0⟩)), (4, .pointer (some ⟨h.nx + 2, 0, some 0⟩)), (5, .int .i64 0), (6, .int .i64 (W : Nat)), (11, .pointer (some ⟨b8, 0, some 0⟩)), (12, .int .i64 (p.1 : Nat))])
   (fun p h1 => (Wf h1 ∧ Grow h h1 ∧ b8 < h1.nx ∧ At h1 h.nx (.cells (shC nm a k c) 43 2 false) ∧ At h1 (h.nx + 1) (.cells (shC nm' a' k c') 43 2 false) ∧ At h1 (h.nx + 2) (.cells zShot 43 2 false) ∧ At h1 b8 (.cells [.string nm, p.2.1] 43 2 false)) ∧ p.1 ≤ k ∧ (∀ i (q : i < (mskL ts us).length), i < p.1 → ((mskL ts us)[i]).hole = false → anyLarge (addL us i (mskL ts us)[i]) = false) ∧ p.2.2.length = p.1 ∧ (∀ t ∈ p.2.2, TrN h1 (b8 + 1) t) ∧
     ((p.2.1 = .slice none 0 0 ∧ p.1 = 0) ∨ ∃ b, b8 < b ∧ p.2.1 = .slice (some ⟨b, 0, some 0⟩) p.1 p.1 ∧ At h1 b (.cells (p.2.2.flatMap Trc.cells) 47 10 true)) ∧ ∀ i (q : i < p.2.2.length) (q1 : i < (mskL ts us).length), (p.2.2[i]).key = chKey (mrgF addF us) i (mskL ts us)[i]) (0, .slice none 0 0, []) (within_lk ⟨rfl, rfl, rfl, rfl, rfl, rfl, rfl, trivial⟩) ⟨⟨w1, g1, n2, a0, a1, a2, a8⟩, Nat.zero_le _, (fun i _ q => absurd q (Nat.not_lt_zero i)), rfl, (fun t ht => by cases ht), .inl ⟨rfl, rfl⟩, fun i q => absurd q (Nat.not_lt_zero i)⟩ ?_
 clear w1 g1 n2 a0 a1 a2 a8 h1
 rintro ⟨j, v, vs⟩ h1 ⟨⟨w1, g1, n2, a0, a1, a2, a8⟩, hj, hnb, hvl, hvs, hv, hky⟩
 simp only at hj hnb hvl hvs hv hky a8 ⊢
 have hgn := g1.nx
 by_cases hlt : j < k
 · obtain ⟨ad, f1, f3⟩ := slT_at s Tryz.underlying41 zs47 (i := (j : Int)) hlt rfl
   obtain ⟨bd, e1, e3⟩ := slT_at s' Tryz.underlying41 zs47 (i := (j : Int)) hlt rfl
   have hjt : j < ts.length := by omega
   have hju : j < us.length := by omega
   have hjm : j < (mskL ts us).length := by omega
   have ot := s.ok _ (List.getElem_mem hjt)
   have ou := s'.ok _ (List.getElem_mem hju)
   have lt1 := v3 _ (List.getElem_mem hjt)
   have ltl := v2 _ (List.getElem_mem hjt)
   have lul := v2' _ (List.getElem_mem hju)
   have lts := v4 _ (List.getElem_mem hjt)
   have lus := v4' _ (List.getElem_mem hju)
   have w5 := k5 _ (List.getElem_mem hjt)
   have w5' := k5' _ (List.getElem_mem hju)
   have hVW := hWV _ (List.getElem_mem hjt) _ (List.getElem_mem hju)
   have hgl := getL_eq hju
   have hmg := mskL_get hjm hjt hju
   have hkey : ∀ w : Trc, w.key = chKey (mrgF addF us) j (msk ts[j] us[j]) → ∀ i (q : i < (vs ++ [w]).length) (q1 : i < (mskL ts us).length), ((vs ++ [w])[i]).key = chKey (mrgF addF us) i (mskL ts us)[i] := fun w hw2 i q q1 => by
     by_cases hij : i < vs.length
     · rw [List.getElem_append_left hij]; exact hky i hij q1
     · have : i = j := by simp at q; omega
       subst this
       rw [List.getElem_append_right (by omega), hmg, ← hw2]
       simp [hvl]
   have hnb1 : ((msk ts[j] us[j]).hole = false → anyLarge (addL us j (msk ts[j] us[j])) = false) → ∀ i (q : i < (mskL ts us).length), i < j + 1 → ((mskL ts us)[i]).hole = false → anyLarge (addL us i (mskL ts us)[i]) = false := fun z i q hi hh => by
     by_cases hij : i < j
     · exact hnb i q hij hh
     · have : i = j := by omega
       subst this
       rw [hmg] at hh ⊢
       exact z hh
   have hbad1 : (msk ts[j] us[j]).hole = false → anyLarge (addL us j (msk ts[j] us[j])) = true → ChBad (mrgF addF us) (mskL ts us) := fun z1 z2 => ⟨j, hjm, by rw [hmg]; exact z1, by rw [hmg]; exact z2⟩
   clear hky hnb
   obtain ⟨t, ht⟩ : ∃ t, ts[j] = t := ⟨_, rfl⟩
   obtain ⟨u, hu⟩ : ∃ t, us[j] = t := ⟨_, rfl⟩
   rw [ht] at f3 ot lt1 ltl lts w5 hVW hkey hnb1 hbad1
   rw [hu] at e3 ou lul lus w5' hVW hkey hgl hnb1 hbad1
   clear ht hu hmg
   have qf := fun (g : H) (gg : Grow h g) => (f3.grow gg).all
   have qe := fun (g : H) (gg : Grow h g) => (e3.grow gg).all
   repeat' (first | with_reducible refine wo_nil ?_ | ((with_reducible refine wo_any ?_); first | refine wq_A (op_move rfl) ?_ | refine wq_A (op_ldAt rfl at_A Tryz.underlying41 rfl rfl) ?_ | refine wq_A (op_fieldAddr (o := 1) rfl Tryz.underlying43 rfl zs41 rfl) ?_ | refine wq_A (op_lenSl rfl Tryz.underlying41) ?_ | refine wq_A (op_lss rfl rfl) ?_) | (with_reducible first | refine sq_norm ?_ | refine wc_seq ?_ | refine wc_region ?_ | refine wc_skip ?_ | refine wc_block ?_) | (refine wc_if rfl (fun hb => ?_) (fun hb => dead_A hb); (try simp only [bb_A, reduceCtorEq] at hb)))
   refine wc_join (ι := Nat × Nat) (fun i => [(2, .pointer (some ⟨h.nx, 0, some 0⟩)), (3, .pointer (some ⟨h.nx + 1, 0, some 0⟩)), (4, .pointer (some ⟨h.nx + 2, 0, some 0⟩)), (5, .int .i64 0), (6, .int .i64 (W : Nat)), (11, .pointer (some ⟨b8, 0, some 0⟩)), (12, .int .i64 (j : Nat)), (13, .pointer (some ⟨i.1, 0, some 0⟩)), (14, .pointer (some ⟨i.2, 0, some 0⟩))])
     (fun i h2 => (Wf h2 ∧ Grow h1 h2 ∧ (h1.nx ≤ i.1 ∧ i.1 < i.2 ∧ i.2 < h2.nx)) ∧ At h2 i.1 (.cells t.cells 47 10 false) ∧ At h2 i.2 (.cells u.cells 47 10 false)) ?_ ?_
   · repeat' (first | ((with_reducible refine xk_any ?_); first | ((with_reducible refine xk_as0 ?_); first | ((with_reducible refine xk_move ?_); refine wx_q (wt_none rfl) rfl rfl (op_q rfl (op_move rfl)) rfl rfl rfl ?_) | ((with_reducible refine xk_indexAddr ?_); first | refine wx_q (wt_none rfl) rfl rfl (op_q rfl (op_indexAddr rfl rfl f1)) rfl rfl rfl ?_ | refine wx_q (wt_none rfl) rfl rfl (op_q rfl (op_indexAddr rfl rfl e1)) rfl rfl rfl ?_) | ((with_reducible refine xk_load ?_); first | refine wx_h0 (wt_none rfl) rfl (op_q rfl (op_ldTr rfl Tryz.underlying47 rfl zs47 (qf _ gr_A))) rfl rfl rfl ?_ | refine wx_h0 (wt_none rfl) rfl (op_q rfl (op_ldTr rfl Tryz.underlying47 rfl zs47 (qe _ gr_A))) rfl rfl rfl ?_ | refine wx_h0 (wt_none rfl) rfl (op_q rfl (op_ldAt rfl at_A Tryz.underlying41 rfl rfl)) rfl rfl rfl ?_) | ((with_reducible refine xk_alloc ?_); refine wx_a0 (wt_none rfl) rfl (oa_alloc zz47 zs47 rfl rfl rfl) rfl rfl ?_) | ((with_reducible refine xk_fieldAddr ?_); refine wx_q (wt_none rfl) rfl rfl (op_q rfl (op_fieldAddr (o := 1) rfl Tryz.underlying43 rfl zs41 rfl)) rfl rfl rfl ?_)) | ((with_reducible refine xk_alloc ?_); refine wx_a (wt_none rfl) rfl rfl (oa_alloc zz47 zs47 rfl rfl rfl) rfl rfl rfl ?_) | ((with_reducible refine xk_store ?_); refine wx_e0n (wt_none rfl) rfl rfl rfl rfl (op_stAgg rfl rfl at_A zs47 rfl rfl rfl rfl) rfl ?_) | refine wx_niln ?_ ?_ rfl rfl ?_) | with_reducible exact obl_nil | with_reducible refine obl_cons ?_ ?_ | ((with_reducible refine ik_obs ?_); first | exact obs_nil | refine obs_skip rfl ?_ | refine obs_chkn rfl rfl (op_q rfl (op_ldTr rfl Tryz.underlying47 rfl zs47 (qf _ gr_A))) ?_ | refine obs_chkn rfl rfl (op_q rfl (op_ldTr rfl Tryz.underlying47 rfl zs47 (qe _ gr_A))) ?_ | refine obs_chkn rfl rfl (op_q rfl (op_ldAt rfl at_A Tryz.underlying41 rfl (by rfl))) ?_) | with_reducible exact stk_nil | with_reducible refine stk_cons ?_ ?_ | ((with_reducible refine ik_stk ?_); first | exact stk_abs rfl rfl | exact stk_freeB rfl rfl wf_A gr_B) | refine wc_drawB (id := 14) 14 [0, 1, 0, 7, 15, 0, 32, 0, 224, 480, 0, 0, 3103, 8191] [0, 1, 2, 3, 4, 5, 6, 7, 8, 9, 10, 11, 12, 13] (by kernel_rfl) (by kernel_rfl) rfl rfl ?_ | ((with_reducible refine xk_any ?_); (with_reducible refine xk_store ?_); refine wx_e02 (wt_none rfl) rfl rfl rfl rfl (op_stAgg rfl rfl at_A zs47 rfl rfl rfl rfl) rfl ?_))
     exact ⟨rfl, (_, _), within_lk ⟨rfl, rfl, rfl, rfl, rfl, rfl, rfl, rfl, rfl, trivial⟩, ⟨wf_A, gr_A, (by simp only [H.nx_set, H.nx_bump]; omega)⟩, at_A, at_A⟩
   rintro ⟨b13, b14⟩ h2 ⟨⟨w2, g2, n3, n4, n5⟩, at1, at2⟩
   simp only at n3 n4 n5 at1 at2 ⊢
   have g3 := g1.trans g2
   have c0 := a0.grow g2
   have c1 := a1.grow g2
   have c2 := a2.grow g2
   have c8 := a8.grow g2
   have hvs2 : ∀ t ∈ vs, TrN h2 (b8 + 1) t := fun t ht => (hvs t ht).grow g2
   have hv2 : (v = .slice none 0 0 ∧ j = 0) ∨ ∃ b, b8 < b ∧ b < b13 ∧ v = .slice (some ⟨b, 0, some 0⟩) j j ∧ At h2 b (.cells (vs.flatMap Trc.cells) 47 10 true) := by
     rcases hv with q | ⟨b, q1, q2, q3⟩
     · exact .inl q
     · have := q3.lt
       exact .inr ⟨b, q1, by omega, q2, q3.grow g2⟩
   clear w1 a0 a1 a2 a8 hvs hv qf qe f1 f3 e1 e3
   obtain ⟨hd, hole, sa, tn, tc, tl⟩ := t
   obtain ⟨hd', hole', sa', tn', tc', tl'⟩ := u
   dsimp only [Trc.cells] at at1 at2
   simp only at lt1 ltl lul lts lus w5 w5' hVW hkey hgl
   have hclen : (vs.flatMap Trc.cells).length = j * 10 := by rw [flat_len, hvl]
   have q117 := fun (h : H) => c117 (G := G) (h := h) hd
   by_cases hho : (hole || hole') = true
   · have hkn := hkey ⟨hd, true, none, 0, 0, []⟩ (by rw [chAdd_hole (by unfold msk; exact hho)]; rfl)
     have hnb2 := hnb1 (fun q => by unfold msk at q; simp only at q; rw [hho] at q; cases q)
     have hsplit : (hole = true) ∨ (hole = false ∧ hole' = true) := by
       cases hole with
       | true => exact .inl rfl
       | false => exact .inr ⟨rfl, by simpa using hho⟩
     clear hkey hnb1 hbad1
     rcases hv2 with ⟨rfl, rfl⟩ | ⟨b, hb, hb2, rfl, hatb⟩
     · have hvz : vs = [] := List.length_eq_zero_iff.1 hvl
       subst hvz
       rcases hsplit with rfl | ⟨rfl, rfl⟩
       all_goals
         repeat' (first | with_reducible refine wo_nil ?_ | ((with_reducible refine wo_any ?_); first | refine wq_A (op_move rfl) ?_ | refine wq_A (op_assign rfl) ?_ | refine wq_A (op_ldAt rfl at_A Tryz.underlying4 rfl rfl) ?_ | refine wq_A (op_fieldAddr (o := 8) rfl Tryz.underlying47 rfl zs4 rfl) ?_ | refine wq_A (op_add' rfl rfl (w64 (by omega) (by omega))) ?_ | ((with_reducible refine ik_pick ?_); first | refine wq_A (op_pickt rfl rfl) ?_ | refine wq_A (op_pickf rfl rfl) ?_) | ((with_reducible refine ik_g ?_); first | refine wo_gskip rfl rfl rfl rfl rfl rfl ?_ | refine wo_grun rfl rfl rfl (op_ldAt rfl at_A Tryz.underlying4 rfl rfl) rfl rfl ?_ | refine wo_grun rfl rfl rfl (op_fieldAddr (o := 8) rfl Tryz.underlying47 rfl zs4 rfl) rfl rfl ?_)) | ((with_reducible refine xk_any ?_); first | ((with_reducible refine xk_as0 ?_); first | ((with_reducible refine xk_load ?_); first | refine wx_h0 (wt_none rfl) rfl (op_q rfl (op_ldAt rfl at_A Tryz.underlying41 rfl rfl)) rfl rfl rfl ?_ | refine wx_h0 (wt_none rfl) rfl (op_q rfl (op_ldAgg rfl at_A Tryz.underlying44 rfl zs44 rfl rfl)) rfl rfl rfl ?_) | ((with_reducible refine xk_fieldAddr ?_); first | refine wx_q (wt_none rfl) rfl rfl (op_q rfl (op_fieldAddr (o := 1) rfl Tryz.underlying43 rfl zs41 rfl)) rfl rfl rfl ?_ | refine wx_q (wt_none rfl) rfl rfl (op_q rfl (op_fieldAddr (o := 0) rfl Tryz.underlying47 rfl zs44 rfl)) rfl rfl rfl ?_) | ((with_reducible refine xk_buildSlice ?_); refine wx_a0 (wt_none rfl) rfl (oa_buildSlice rfl Tryz.underlying41 zs47 zz47 rfl rfl) rfl rfl ?_) | ((with_reducible refine xk_callv ?_); (refine wx_call0 (wt_none rfl) rfl rfl rfl rfl ((q117 _)) rfl rfl ?_; rintro _ _ ⟨rfl, hq⟩; all_goals ((try (have hqn := hq.nx)); (try simp only [nx_A] at hqn))))) | ((with_reducible refine xk_callb ?_); ((with_reducible refine xk_as1 ?_); refine wx_e1 (wt_none rfl) rfl rfl rfl (op_append rfl rfl (append_nil_eq (M := mz G) (st := 41) (xt := 41) (m := 1) Tryz.underlying41 Tryz.underlying41 rfl zs47 zb47 zz47 rfl (Sl.ofAt at_A rfl (Nat.le_refl _)) rfl (by omega) (by omega))) rfl rfl ?_)) | ((with_reducible refine xk_fieldAddr ?_); refine wx_q (wt_none rfl) rfl rfl (op_q rfl (op_fieldAddr (o := 1) rfl Tryz.underlying43 rfl zs41 rfl)) rfl rfl rfl ?_) | ((with_reducible refine xk_store ?_); refine wx_e0n (wt_none rfl) rfl rfl rfl rfl (op_st1 rfl rfl at_A rfl zs41 rfl rfl rfl) rfl ?_) | refine wx_niln ?_ ?_ rfl rfl ?_) | with_reducible exact obl_nil | with_reducible refine obl_cons ?_ ?_ | ((with_reducible refine ik_obs ?_); first | exact obs_nil | refine obs_skip rfl ?_ | refine obs_chkn rfl rfl (op_q rfl (op_ldAt rfl at_A Tryz.underlying41 rfl (by rfl))) ?_ | refine obs_chkn rfl rfl (op_q rfl (op_ldAgg rfl at_A Tryz.underlying44 rfl zs44 (by rfl) rfl)) ?_) | with_reducible exact stk_nil | with_reducible refine stk_cons ?_ ?_ | ((with_reducible refine ik_stk ?_); first | exact stk_abs rfl rfl | exact stk_freeB rfl rfl wf_A gr_B) | (with_reducible first | refine sq_norm ?_ | refine wc_seq ?_ | refine wc_region ?_ | refine wc_exit ?_ | refine sq_exit ?_) | refine bq_eq rfl ?_ | refine wc_ift rfl ?_ | refine wc_drawB (id := 16) 9 [0, 1, 0, 4, 12, 28, 63, 127, 255] [0, 1, 2, 3, 4, 5, 6, 7, 8] (by kernel_rfl) (by kernel_rfl) rfl rfl ?_)
         all_goals
           refine lq_norm (0 + 1, .slice (some ⟨_, 0, some 0⟩) (0 + 1) (0 + 1), [⟨hd, true, none, 0, 0, []⟩]) (by simp only; omega) (within_lk ⟨rfl, rfl, rfl, rfl, rfl, rfl, rfl, trivial⟩) ⟨⟨wf_A, gr_A, (by simp only [H.nx_set, H.nx_push, H.nx_bump]; omega), at_A, at_A, at_A, at_A⟩, by simp only; omega, hnb2, rfl, (fun t ht => by simp only [List.mem_singleton] at ht; subst ht; exact .inl ⟨rfl, rfl, rfl, rfl⟩), .inr ⟨_, ?_, rfl, at_A⟩, hkn⟩
           simp only [H.nx_set, H.nx_push, H.nx_bump]; omega
     · rcases hsplit with rfl | ⟨rfl, rfl⟩
       all_goals
         repeat' (first | with_reducible refine wo_nil ?_ | ((with_reducible refine wo_any ?_); first | refine wq_A (op_move rfl) ?_ | refine wq_A (op_assign rfl) ?_ | refine wq_A (op_ldAt rfl at_A Tryz.underlying4 rfl rfl) ?_ | refine wq_A (op_fieldAddr (o := 8) rfl Tryz.underlying47 rfl zs4 rfl) ?_ | refine wq_A (op_add' rfl rfl (w64 (by omega) (by omega))) ?_ | ((with_reducible refine ik_pick ?_); first | refine wq_A (op_pickt rfl rfl) ?_ | refine wq_A (op_pickf rfl rfl) ?_) | ((with_reducible refine ik_g ?_); first | refine wo_gskip rfl rfl rfl rfl rfl rfl ?_ | refine wo_grun rfl rfl rfl (op_ldAt rfl at_A Tryz.underlying4 rfl rfl) rfl rfl ?_ | refine wo_grun rfl rfl rfl (op_fieldAddr (o := 8) rfl Tryz.underlying47 rfl zs4 rfl) rfl rfl ?_)) | ((with_reducible refine xk_any ?_); first | ((with_reducible refine xk_as0 ?_); first | ((with_reducible refine xk_load ?_); first | refine wx_h0 (wt_none rfl) rfl (op_q rfl (op_ldAt rfl at_A Tryz.underlying41 rfl rfl)) rfl rfl rfl ?_ | refine wx_h0 (wt_none rfl) rfl (op_q rfl (op_ldAgg rfl at_A Tryz.underlying44 rfl zs44 rfl rfl)) rfl rfl rfl ?_) | ((with_reducible refine xk_fieldAddr ?_); first | refine wx_q (wt_none rfl) rfl rfl (op_q rfl (op_fieldAddr (o := 1) rfl Tryz.underlying43 rfl zs41 rfl)) rfl rfl rfl ?_ | refine wx_q (wt_none rfl) rfl rfl (op_q rfl (op_fieldAddr (o := 0) rfl Tryz.underlying47 rfl zs44 rfl)) rfl rfl rfl ?_) | ((with_reducible refine xk_buildSlice ?_); refine wx_a0 (wt_none rfl) rfl (oa_buildSlice rfl Tryz.underlying41 zs47 zz47 rfl rfl) rfl rfl ?_) | ((with_reducible refine xk_callv ?_); (refine wx_call0 (wt_none rfl) rfl rfl rfl rfl ((q117 _)) rfl rfl ?_; rintro _ _ ⟨rfl, hq⟩; all_goals ((try (have hqn := hq.nx)); (try simp only [nx_A] at hqn))))) | ((with_reducible refine xk_callb ?_); ((with_reducible refine xk_as1 ?_); refine wx_e1 (wt_none rfl) rfl rfl rfl (op_append rfl rfl (append_own_eq (M := mz G) (st := 41) (xt := 41) (m := 1) Tryz.underlying41 Tryz.underlying41 rfl zs47 zb47 zz47 rfl (Sl.ofAt at_A rfl (Nat.le_refl _)) rfl (b := b) (c := vs.flatMap Trc.cells) at_A hclen (by omega) (by omega))) rfl rfl ?_)) | ((with_reducible refine xk_fieldAddr ?_); refine wx_q (wt_none rfl) rfl rfl (op_q rfl (op_fieldAddr (o := 1) rfl Tryz.underlying43 rfl zs41 rfl)) rfl rfl rfl ?_) | ((with_reducible refine xk_store ?_); refine wx_e0n (wt_none rfl) rfl rfl rfl rfl (op_st1 rfl rfl at_A rfl zs41 rfl rfl rfl) rfl ?_) | refine wx_niln ?_ ?_ rfl rfl ?_) | with_reducible exact obl_nil | with_reducible refine obl_cons ?_ ?_ | ((with_reducible refine ik_obs ?_); first | exact obs_nil | refine obs_skip rfl ?_ | refine obs_chkn rfl rfl (op_q rfl (op_ldAt rfl at_A Tryz.underlying41 rfl (by rfl))) ?_ | refine obs_chkn rfl rfl (op_q rfl (op_ldAgg rfl at_A Tryz.underlying44 rfl zs44 (by rfl) rfl)) ?_) | with_reducible exact stk_nil | with_reducible refine stk_cons ?_ ?_ | ((with_reducible refine ik_stk ?_); first | exact stk_abs rfl rfl | exact stk_freeB rfl rfl wf_A gr_B) | (with_reducible first | refine sq_norm ?_ | refine wc_seq ?_ | refine wc_region ?_ | refine wc_exit ?_ | refine sq_exit ?_) | refine bq_eq rfl ?_ | refine wc_ift rfl ?_ | refine wc_drawB (id := 16) 9 [0, 1, 0, 4, 12, 28, 63, 127, 255] [0, 1, 2, 3, 4, 5, 6, 7, 8] (by kernel_rfl) (by kernel_rfl) rfl rfl ?_)
         all_goals
           refine lq_norm (j + 1, .slice (some ⟨_, 0, some 0⟩) (j + 1) (j + 1), vs ++ [⟨hd, true, none, 0, 0, []⟩]) (by simp only; omega) (within_lk ⟨rfl, rfl, rfl, rfl, rfl, rfl, rfl, trivial⟩) ⟨⟨wf_A, gr_A, (by simp only [H.nx_set, H.nx_push, H.nx_bump, H.nx_kill]; omega), at_A, at_A, at_A, at_A⟩, by simp only; omega, hnb2, by simp [hvl], (fun t ht => ?_), .inr ⟨_, ?_, rfl, by rw [List.flatMap_append, List.flatMap_singleton]; exact at_A⟩, hkn⟩
           · rcases List.mem_append.1 ht with ht | ht
             · exact TrN.set (TrN.push (TrN.kill10 (c := vs.flatMap Trc.cells) (e := 47) (s := true) (TrN.grow (hvs2 t ht) gr_A) at_A) _) (by show b8 < b8 + 1; omega) _
             · simp only [List.mem_singleton] at ht; subst ht; exact .inl ⟨rfl, rfl, rfl, rfl⟩
           · simp only [H.nx_set, H.nx_push, H.nx_bump, H.nx_kill]; omega
   · have hz1 : hole = false := by cases hole <;> simp_all
     have hz2 : hole' = false := by cases hole' <;> simp_all
     subst hz1 hz2
     have hV := hVW rfl rfl
     have hw1 := w5 rfl
     have hw2 := w5' rfl
     subst hV hw1
     have hw2 : tn' = tn := hw2
     subst hw2
     have hbad2 := hbad1 rfl
     have hnb2 := fun z => hnb1 (fun _ => z)
     rw [show addL us j (msk ⟨hd, false, sa, tn', tc, tl⟩ ⟨hd', false, sa', tn', tc', tl'⟩) = addF (tl.map smp) (getL us j) from rfl, hgl] at hbad2 hnb2
     have hkey2 : ∀ w : Trc, w.key = (hd, false, (addF (tl.map smp) (tl'.map smp)).length, (addF (tl.map smp) (tl'.map smp)).map smpW) → ∀ i (q : i < (vs ++ [w]).length) (q1 : i < (mskL ts us).length), ((vs ++ [w])[i]).key = chKey (mrgF addF us) i (mskL ts us)[i] := fun w hw => hkey w (by rw [chAdd_live rfl, show addL us j (msk ⟨hd, false, sa, tn', tc, tl⟩ ⟨hd', false, sa', tn', tc', tl'⟩) = addF (tl.map smp) (getL us j) from rfl, hgl]; exact hw)
     clear hkey hnb1 hbad1 hho w5 w5' hVW
     have osl := ot.sl
     have ysl := ou.sl
     simp only at osl ysl
     obtain ⟨S, hS⟩ : ∃ S, addF (tl.map smp) (tl'.map smp) = S := ⟨_, rfl⟩
     have hSl : S.length = tn' := by rw [← hS]; simp [addF]; omega
     have hSi : ∀ i (q : i < S.length) (q1 : i < tl.length) (q2 : i < tl'.length), S[i] = smp tl[i] + smp tl'[i] := fun i q q1 q2 => by subst hS; simp [addF]
     rw [hS] at hbad2 hnb2 hkey2
     clear hS
     repeat' (first | with_reducible refine wo_nil ?_ | ((with_reducible refine wo_any ?_); first | refine wq_A (op_move rfl) ?_ | refine wq_A (op_assign rfl) ?_ | refine wq_A (op_alloc zz47 zs47 rfl rfl rfl) ?_ | ((with_reducible refine ik_load ?_); first | refine wq_A (op_ldAgg rfl at_A Tryz.underlying44 rfl zs44 rfl rfl) ?_ | refine wq_A (op_ldAt rfl at_A Tryz.underlying4 rfl rfl) ?_) | ((with_reducible refine ik_fieldAddr ?_); first | refine wq_A (op_fieldAddr (o := 0) rfl Tryz.underlying47 rfl zs44 rfl) ?_ | refine wq_A (op_fieldAddr (o := 8) rfl Tryz.underlying47 rfl zs4 rfl) ?_) | refine wq_A (op_pickf rfl rfl) ?_ | refine wq_A (op_buildT rfl zz47 zp47 rfl rfl) ?_ | refine wq_B (op_stAgg rfl rfl at_A zs47 rfl rfl rfl rfl) ?_ | ((with_reducible refine ik_g ?_); first | refine wo_grun rfl rfl rfl (op_ldAt rfl at_A Tryz.underlying4 rfl rfl) rfl rfl ?_ | refine wo_grun rfl rfl rfl (op_fieldAddr (o := 8) rfl Tryz.underlying47 rfl zs4 rfl) rfl rfl ?_)) | (with_reducible first | refine sq_norm ?_ | refine wc_seq ?_ | refine wc_region ?_ | refine wc_skip ?_ | refine wc_block ?_) | refine wc_iff rfl ?_)
     refine wc_cut (ι := Unit) (fun _ => [(2, .pointer (some ⟨h.nx, 0, some 0⟩)), (3, .pointer (some ⟨h.nx + 1, 0, some 0⟩)), (4, .pointer (some ⟨h.nx + 2, 0, some 0⟩)), (5, .int .i64 0), (6, .int .i64 (tn' : Nat)), (11, .pointer (some ⟨b8, 0, some 0⟩)), (12, .int .i64 (j : Nat)), (13, .pointer (some ⟨b13, 0, some 0⟩)), (14, .pointer (some ⟨b14, 0, some 0⟩)), (15, .pointer (some ⟨h2.nx, 0, some 0⟩)), (16, .int .i64 0)])
       (fun _ h3 => Wf h3 ∧ Grow h2 h3 ∧ h2.nx < h3.nx ∧ At h3 h2.nx (.cells [.int .i64 (hd 0), .int .i64 (hd 1), .int .i64 (hd 2), .int .i64 (hd 3), .int .i64 (hd 4), .int .i64 (hd 5), .int .i64 (hd 6), .int .i64 (hd 7), .bool false, .slice none 0 0] 47 10 false)) () (within_lk ⟨rfl, rfl, rfl, rfl, rfl, rfl, rfl, rfl, rfl, rfl, rfl, trivial⟩) ⟨wf_A, gr_A, (by simp only [H.nx_set, H.nx_push]; omega), at_A⟩ ?_
     rintro _ h3 ⟨w3, g4, n6, a15⟩
     refine wc_loop (fun p => tn' - p.1) (fun p : Nat × Value => [(2, .pointer (some ⟨h.nx, 0, some 0⟩)), (3, .pointer (some ⟨h.nx + 1, 0, some 0⟩)), (4, .pointer (some ⟨h.nx + 2, 0, some 0⟩)), (5, .int .i64 0), (6, .int .i64 (tn' : Nat)), (11, .pointer (some ⟨b8, 0, some 0⟩)), (12, .int .i64 (j : Nat)), (13, .pointer (some ⟨b13, 0, some 0⟩)), (14, .pointer (some ⟨b14, 0, some 0⟩)), (15, .pointer (some ⟨h2.nx, 0, some 0⟩)), (16, .int .i64 (p.1 : Nat))])
       (fun p h3 => (Wf h3 ∧ Grow h2 h3 ∧ h2.nx < h3.nx) ∧ At h3 h2.nx (.cells [.int .i64 (hd 0), .int .i64 (hd 1), .int .i64 (hd 2), .int .i64 (hd 3), .int .i64 (hd 4), .int .i64 (hd 5), .int .i64 (hd 6), .int .i64 (hd 7), .bool false, p.2] 47 10 false) ∧ p.1 ≤ tn' ∧ anyLarge (S.take p.1) = false ∧
         ((p.2 = .slice none 0 0 ∧ p.1 = 0) ∨ ∃ b, h2.nx < b ∧ p.2 = .slice (some ⟨b, 0, some 0⟩) p.1 p.1 ∧ At h3 b (.cells (((S.take p.1).map smpW).map (.float .f32)) 23 1 true))) (0, .slice none 0 0) (within_lk ⟨rfl, rfl, rfl, rfl, rfl, rfl, rfl, rfl, rfl, rfl, rfl, trivial⟩) ⟨⟨w3, g4, n6⟩, a15, Nat.zero_le _, (by rw [List.take_zero]; unfold anyLarge; rfl), .inl ⟨rfl, rfl⟩⟩ ?_
     clear w3 g4 n6 a15 h3
     rintro ⟨i, sv⟩ h3 ⟨⟨w3, g4, n6⟩, a15, hii, hnl, hsv⟩
     simp only at a15 hii hnl hsv ⊢
     have g4n := g4.nx
     have g5 := g3.trans g4
     have d1 := at1.grow g4
     have d2 := at2.grow g4
     have d8 := c8.grow g4
     have d9 := c2.grow g4
     by_cases hlt2 : i < tn'
     · have hi1 : i < tl.length := by omega
       have hi2 : i < tl'.length := by omega
       have hi3 : i < S.length := by omega
       obtain ⟨adz, z1, z2⟩ := osl.addr (M := mz G) Tryz.underlying45 (es := 1) zs23 (i := (i : Int)) (k := .i64) (by omega) (by omega)
       obtain ⟨ady, y1, y2⟩ := ysl.addr (M := mz G) Tryz.underlying45 (es := 1) zs23 (i := (i : Int)) (k := .i64) (by omega) (by omega)
       have qz := fun (g : H) (gg : Grow h g) => (z2.grow gg).get 0 (.float .f32 tl[i]) (by simp)
       have qy := fun (g : H) (gg : Grow h g) => (y2.grow gg).get 0 (.float .f32 tl'[i]) (by simp)
       have hse := hSi i hi3 hi1 hi2
       have hz0 := lts _ (List.getElem_mem hi1)
       have hy0 := lus _ (List.getElem_mem hi2)
       have htk : S.take (i + 1) = S.take i ++ [S[i]] := List.take_succ_eq_append_getElem hi3
       have hlg : isLargeB S[i] = true → anyLarge S = true := fun q => by unfold anyLarge; exact List.any_eq_true.2 ⟨_, List.getElem_mem hi3, q⟩
       obtain ⟨z, hz⟩ : ∃ z, tl[i] = z := ⟨_, rfl⟩
       obtain ⟨y, hy⟩ : ∃ z, tl'[i] = z := ⟨_, rfl⟩
       rw [hz] at hz0 hse
       rw [hy] at hy0 hse
       simp only [hz] at qz
       simp only [hy] at qy
       rw [hse] at htk hlg
       have bz := smp_le hz0
       have by' := smp_le hy0
       have q128 := fun (h' : H) => c128 (G := G) (h := h') hz0
       have q128b := fun (h' : H) => c128 (G := G) (h := h') hy0
       have q129 := fun (h' : H) => c129 (G := G) (h := h') (smp z + smp y)
       obtain ⟨LB, hLB⟩ : ∃ LB, isLargeB (smp z + smp y) = LB := ⟨_, rfl⟩
       rw [hLB] at q129 hlg
       have hadd : IntKind.wrap .i64 (smp z + smp y) = smp z + smp y := w64 (by omega) (by omega)
       cases LB with
       | true =>
         repeat' (first | with_reducible refine wo_nil ?_ | ((with_reducible refine wo_any ?_); first | refine wq_A (op_move rfl) ?_ | refine wq_A (op_assign rfl) ?_ | refine wq_A (op_lss rfl rfl) ?_ | refine wq_A (op_buildT rfl zz43 zp43 rfl rfl) ?_ | refine wq_B (op_stAgg rfl rfl at_A zs43 rfl rfl rfl rfl) ?_ | ((with_reducible refine ik_callv ?_); refine wq_A (op_call rfl rfl (q129 _)) ?_)) | ((with_reducible refine xk_any ?_); ((with_reducible refine xk_as0 ?_); first | ((with_reducible refine xk_move ?_); refine wx_q (wt_none rfl) rfl rfl (op_q rfl (op_move rfl)) rfl rfl rfl ?_) | ((with_reducible refine xk_assign ?_); refine wx_q (wt_none rfl) rfl rfl (op_q rfl (op_assign rfl)) rfl rfl rfl ?_) | ((with_reducible refine xk_indexAddr ?_); first | refine wx_q (wt_none rfl) rfl rfl (op_q rfl (op_indexAddr rfl rfl z1)) rfl rfl rfl ?_ | refine wx_q (wt_none rfl) rfl rfl (op_q rfl (op_indexAddr rfl rfl y1)) rfl rfl rfl ?_) | ((with_reducible refine xk_load ?_); first | refine wx_h0 (wt_none rfl) rfl (op_q rfl (op_ldCell rfl Tryz.underlying23 rfl (qz _ gr_A))) rfl rfl rfl ?_ | refine wx_h0 (wt_none rfl) rfl (op_q rfl (op_ldCell rfl Tryz.underlying23 rfl (qy _ gr_A))) rfl rfl rfl ?_ | refine wx_h0 (wt_none rfl) rfl (op_q rfl (op_ldAt rfl at_A Tryz.underlying45 rfl rfl)) rfl rfl rfl ?_) | ((with_reducible refine xk_bin ?_); refine wx_q (wt_none rfl) rfl rfl (op_q rfl (op_add' rfl rfl hadd)) rfl rfl rfl ?_) | ((with_reducible refine xk_fieldAddr ?_); refine wx_q (wt_none rfl) rfl rfl (op_q rfl (op_fieldAddr (o := 9) rfl Tryz.underlying47 rfl zs45 rfl)) rfl rfl rfl ?_) | ((with_reducible refine xk_callv ?_); first | refine wx_ee (wt_none rfl) rfl rfl (op_call rfl rfl (q128 _)) rfl rfl ?_ | refine wx_ee (wt_none rfl) rfl rfl (op_call rfl rfl (q128b _)) rfl rfl ?_) | with_reducible refine wx_nil0 ?_ ?_)) | with_reducible exact obl_nil | with_reducible refine obl_cons ?_ ?_ | ((with_reducible refine ik_obs ?_); first | exact obs_nil | refine obs_skip rfl ?_ | refine obs_chkn rfl rfl (op_q rfl (op_ldCell rfl Tryz.underlying23 rfl (qz _ gr_A))) ?_ | refine obs_chkn rfl rfl (op_q rfl (op_ldCell rfl Tryz.underlying23 rfl (qy _ gr_A))) ?_ | refine obs_chkn rfl rfl (op_q rfl (op_ldAt rfl at_A Tryz.underlying45 rfl (by rfl))) ?_) | (with_reducible first | refine sq_norm ?_ | refine wc_seq ?_ | refine wc_region ?_ | refine wc_skip ?_ | refine wc_ret ?_ | refine wc_block ?_ | refine bq_ret ?_ | refine sq_ret ?_ | refine lq_ret ?_) | refine wc_ift rfl ?_ | (refine wc_if rfl (fun hb => ?_) (fun hb => dead_A hb); (try simp only [bb_A, reduceCtorEq] at hb)) | refine wc_drawB (id := 21) 14 [0, 1, 0, 7, 15, 31, 0, 64, 0, 448, 960, 2047, 4095, 8191] [0, 1, 2, 3, 4, 5, 6, 7, 8, 9, 10, 11, 12, 13] (by kernel_rfl) (by kernel_rfl) rfl rfl ?_)
         all_goals exact rqc2 rfl (ldAgg at_A Tryz.underlying43 rfl zs43 rfl rfl) rfl ⟨.inr (.inl ⟨by first | rfl | trivial, hbad2 (hlg rfl), rfl⟩), gr_A⟩
       | false =>
         have hb2 : (smp z + smp y).natAbs ≤ 16384 := by
           unfold isLargeB at hLB
           have := of_decide_eq_false hLB
           omega
         have q130 := fun (h' : H) => c130 (G := G) (h := h') hb2
         have hnl2 : anyLarge (S.take (i + 1)) = false := by
           rw [htk]
           unfold anyLarge at hnl ⊢
           rw [List.any_append, hnl, List.any_cons, hLB]
           rfl
         rcases hsv with ⟨rfl, rfl⟩ | ⟨bs, hbs, rfl, hatS⟩
         · repeat' (first | with_reducible refine wo_nil ?_ | ((with_reducible refine wo_any ?_); first | refine wq_A (op_move rfl) ?_ | refine wq_A (op_assign rfl) ?_ | ((with_reducible refine ik_bin ?_); first | refine wq_A (op_lss rfl rfl) ?_ | refine wq_A (op_add' rfl rfl (w64 (by omega) (by omega))) ?_) | ((with_reducible refine ik_callv ?_); refine wq_A (op_call rfl rfl (q129 _)) ?_)) | ((with_reducible refine xk_any ?_); first | ((with_reducible refine xk_as0 ?_); first | ((with_reducible refine xk_move ?_); refine wx_q (wt_none rfl) rfl rfl (op_q rfl (op_move rfl)) rfl rfl rfl ?_) | ((with_reducible refine xk_assign ?_); refine wx_q (wt_none rfl) rfl rfl (op_q rfl (op_assign rfl)) rfl rfl rfl ?_) | ((with_reducible refine xk_indexAddr ?_); first | refine wx_q (wt_none rfl) rfl rfl (op_q rfl (op_indexAddr rfl rfl z1)) rfl rfl rfl ?_ | refine wx_q (wt_none rfl) rfl rfl (op_q rfl (op_indexAddr rfl rfl y1)) rfl rfl rfl ?_) | ((with_reducible refine xk_load ?_); first | refine wx_h0 (wt_none rfl) rfl (op_q rfl (op_ldCell rfl Tryz.underlying23 rfl (qz _ gr_A))) rfl rfl rfl ?_ | refine wx_h0 (wt_none rfl) rfl (op_q rfl (op_ldCell rfl Tryz.underlying23 rfl (qy _ gr_A))) rfl rfl rfl ?_ | refine wx_h0 (wt_none rfl) rfl (op_q rfl (op_ldAt rfl at_A Tryz.underlying45 rfl rfl)) rfl rfl rfl ?_) | ((with_reducible refine xk_bin ?_); refine wx_q (wt_none rfl) rfl rfl (op_q rfl (op_add' rfl rfl hadd)) rfl rfl rfl ?_) | ((with_reducible refine xk_fieldAddr ?_); refine wx_q (wt_none rfl) rfl rfl (op_q rfl (op_fieldAddr (o := 9) rfl Tryz.underlying47 rfl zs45 rfl)) rfl rfl rfl ?_) | ((with_reducible refine xk_buildSlice ?_); refine wx_a0 (wt_none rfl) rfl (oa_buildSlice rfl Tryz.underlying45 zs23 zz23 rfl rfl) rfl rfl ?_) | ((with_reducible refine xk_callv ?_); first | refine wx_ee (wt_none rfl) rfl rfl (op_call rfl rfl (q128 _)) rfl rfl ?_ | refine wx_ee (wt_none rfl) rfl rfl (op_call rfl rfl (q128b _)) rfl rfl ?_ | refine wx_ee (wt_none rfl) rfl rfl (op_call rfl rfl (q130 _)) rfl rfl ?_) | with_reducible refine wx_nil0 ?_ ?_) | ((with_reducible refine xk_callb ?_); ((with_reducible refine xk_as1 ?_); refine wx_e1 (wt_none rfl) rfl rfl rfl (op_append rfl rfl (append_nil_eq (M := mz G) (st := 45) (xt := 45) (m := 1) Tryz.underlying45 Tryz.underlying45 rfl zs23 zb23 zz23 rfl (Sl.ofAt at_A rfl (Nat.le_refl _)) rfl (by omega) (by omega))) rfl rfl ?_)) | ((with_reducible refine xk_fieldAddr ?_); refine wx_q (wt_none rfl) rfl rfl (op_q rfl (op_fieldAddr (o := 9) rfl Tryz.underlying47 rfl zs45 rfl)) rfl rfl rfl ?_) | ((with_reducible refine xk_store ?_); refine wx_e0n (wt_none rfl) rfl rfl rfl rfl (op_st1 rfl rfl at_A rfl zs41 rfl rfl rfl) rfl ?_) | refine wx_niln ?_ ?_ rfl rfl ?_) | with_reducible exact obl_nil | with_reducible refine obl_cons ?_ ?_ | ((with_reducible refine ik_obs ?_); first | exact obs_nil | refine obs_skip rfl ?_ | refine obs_chkn rfl rfl (op_q rfl (op_ldCell rfl Tryz.underlying23 rfl (qz _ gr_A))) ?_ | refine obs_chkn rfl rfl (op_q rfl (op_ldCell rfl Tryz.underlying23 rfl (qy _ gr_A))) ?_ | refine obs_chkn rfl rfl (op_q rfl (op_ldAt rfl at_A Tryz.underlying45 rfl (by rfl))) ?_) | with_reducible exact stk_nil | with_reducible refine stk_cons ?_ ?_ | ((with_reducible refine ik_stk ?_); first | exact stk_abs rfl rfl | exact stk_freeB rfl rfl wf_A gr_B) | (with_reducible first | refine sq_norm ?_ | refine wc_seq ?_ | refine wc_region ?_ | refine wc_skip ?_ | refine wc_block ?_ | refine bq_norm ?_) | refine wc_iff rfl ?_ | (refine wc_if rfl (fun hb => ?_) (fun hb => dead_A hb); (try simp only [bb_A, reduceCtorEq] at hb)) | refine wc_drawB (id := 21) 14 [0, 1, 0, 7, 15, 31, 0, 64, 0, 448, 960, 2047, 4095, 8191] [0, 1, 2, 3, 4, 5, 6, 7, 8, 9, 10, 11, 12, 13] (by kernel_rfl) (by kernel_rfl) rfl rfl ?_ | refine wc_drawB (id := 24) 8 [0, 1, 0, 4, 12, 31, 63, 127] [0, 1, 2, 3, 4, 5, 6, 7] (by kernel_rfl) (by kernel_rfl) rfl rfl ?_)
           all_goals
             refine lq_norm (0 + 1, .slice (some ⟨_, 0, some 0⟩) (0 + 1) (0 + 1)) (by simp only; omega) (within_lk ⟨rfl, rfl, rfl, rfl, rfl, rfl, rfl, rfl, rfl, rfl, rfl, trivial⟩) ⟨⟨wf_A, gr_A, (by simp only [H.nx_set, H.nx_push, H.nx_bump]; omega)⟩, at_A, by simp only; omega, hnl2, .inr ⟨_, ?_, rfl, by rw [htk, List.take_zero]; exact at_A⟩⟩
             simp only [H.nx_set, H.nx_push, H.nx_bump]; omega
         · have lS := hatS.lt
           have hlS : (((S.take i).map smpW).map (Value.float .f32)).length = i * 1 := by simp; omega
           repeat' (first | with_reducible refine wo_nil ?_ | ((with_reducible refine wo_any ?_); first | refine wq_A (op_move rfl) ?_ | refine wq_A (op_assign rfl) ?_ | ((with_reducible refine ik_bin ?_); first | refine wq_A (op_lss rfl rfl) ?_ | refine wq_A (op_add' rfl rfl (w64 (by omega) (by omega))) ?_) | ((with_reducible refine ik_callv ?_); refine wq_A (op_call rfl rfl (q129 _)) ?_)) | ((with_reducible refine xk_any ?_); first | ((with_reducible refine xk_as0 ?_); first | ((with_reducible refine xk_move ?_); refine wx_q (wt_none rfl) rfl rfl (op_q rfl (op_move rfl)) rfl rfl rfl ?_) | ((with_reducible refine xk_assign ?_); refine wx_q (wt_none rfl) rfl rfl (op_q rfl (op_assign rfl)) rfl rfl rfl ?_) | ((with_reducible refine xk_indexAddr ?_); first | refine wx_q (wt_none rfl) rfl rfl (op_q rfl (op_indexAddr rfl rfl z1)) rfl rfl rfl ?_ | refine wx_q (wt_none rfl) rfl rfl (op_q rfl (op_indexAddr rfl rfl y1)) rfl rfl rfl ?_) | ((with_reducible refine xk_load ?_); first | refine wx_h0 (wt_none rfl) rfl (op_q rfl (op_ldCell rfl Tryz.underlying23 rfl (qz _ gr_A))) rfl rfl rfl ?_ | refine wx_h0 (wt_none rfl) rfl (op_q rfl (op_ldCell rfl Tryz.underlying23 rfl (qy _ gr_A))) rfl rfl rfl ?_ | refine wx_h0 (wt_none rfl) rfl (op_q rfl (op_ldAt rfl at_A Tryz.underlying45 rfl rfl)) rfl rfl rfl ?_) | ((with_reducible refine xk_bin ?_); refine wx_q (wt_none rfl) rfl rfl (op_q rfl (op_add' rfl rfl hadd)) rfl rfl rfl ?_) | ((with_reducible refine xk_fieldAddr ?_); refine wx_q (wt_none rfl) rfl rfl (op_q rfl (op_fieldAddr (o := 9) rfl Tryz.underlying47 rfl zs45 rfl)) rfl rfl rfl ?_) | ((with_reducible refine xk_buildSlice ?_); refine wx_a0 (wt_none rfl) rfl (oa_buildSlice rfl Tryz.underlying45 zs23 zz23 rfl rfl) rfl rfl ?_) | ((with_reducible refine xk_callv ?_); first | refine wx_ee (wt_none rfl) rfl rfl (op_call rfl rfl (q128 _)) rfl rfl ?_ | refine wx_ee (wt_none rfl) rfl rfl (op_call rfl rfl (q128b _)) rfl rfl ?_ | refine wx_ee (wt_none rfl) rfl rfl (op_call rfl rfl (q130 _)) rfl rfl ?_) | with_reducible refine wx_nil0 ?_ ?_) | ((with_reducible refine xk_callb ?_); ((with_reducible refine xk_as1 ?_); refine wx_e1 (wt_none rfl) rfl rfl rfl (op_append rfl rfl (append_own_eq (M := mz G) (st := 45) (xt := 45) (m := 1) Tryz.underlying45 Tryz.underlying45 rfl zs23 zb23 zz23 rfl (Sl.ofAt at_A rfl (Nat.le_refl _)) rfl (b := bs) (c := ((S.take i).map smpW).map (.float .f32)) at_A hlS (by omega) (by omega))) rfl rfl ?_)) | ((with_reducible refine xk_fieldAddr ?_); refine wx_q (wt_none rfl) rfl rfl (op_q rfl (op_fieldAddr (o := 9) rfl Tryz.underlying47 rfl zs45 rfl)) rfl rfl rfl ?_) | ((with_reducible refine xk_store ?_); refine wx_e0n (wt_none rfl) rfl rfl rfl rfl (op_st1 rfl rfl at_A rfl zs41 rfl rfl rfl) rfl ?_) | refine wx_niln ?_ ?_ rfl rfl ?_) | with_reducible exact obl_nil | with_reducible refine obl_cons ?_ ?_ | ((with_reducible refine ik_obs ?_); first | exact obs_nil | refine obs_skip rfl ?_ | refine obs_chkn rfl rfl (op_q rfl (op_ldCell rfl Tryz.underlying23 rfl (qz _ gr_A))) ?_ | refine obs_chkn rfl rfl (op_q rfl (op_ldCell rfl Tryz.underlying23 rfl (qy _ gr_A))) ?_ | refine obs_chkn rfl rfl (op_q rfl (op_ldAt rfl at_A Tryz.underlying45 rfl (by rfl))) ?_) | with_reducible exact stk_nil | with_reducible refine stk_cons ?_ ?_ | ((with_reducible refine ik_stk ?_); first | exact stk_abs rfl rfl | exact stk_freeB rfl rfl wf_A gr_B) | (with_reducible first | refine sq_norm ?_ | refine wc_seq ?_ | refine wc_region ?_ | refine wc_skip ?_ | refine wc_block ?_ | refine bq_norm ?_) | refine wc_iff rfl ?_ | (refine wc_if rfl (fun hb => ?_) (fun hb => dead_A hb); (try simp only [bb_A, reduceCtorEq] at hb)) | refine wc_drawB (id := 21) 14 [0, 1, 0, 7, 15, 31, 0, 64, 0, 448, 960, 2047, 4095, 8191] [0, 1, 2, 3, 4, 5, 6, 7, 8, 9, 10, 11, 12, 13] (by kernel_rfl) (by kernel_rfl) rfl rfl ?_ | refine wc_drawB (id := 24) 8 [0, 1, 0, 4, 12, 31, 63, 127] [0, 1, 2, 3, 4, 5, 6, 7] (by kernel_rfl) (by kernel_rfl) rfl rfl ?_)
           all_goals
             refine lq_norm (i + 1, .slice (some ⟨_, 0, some 0⟩) (i + 1) (i + 1)) (by simp only; omega) (within_lk ⟨rfl, rfl, rfl, rfl, rfl, rfl, rfl, rfl, rfl, rfl, rfl, trivial⟩) ⟨⟨wf_A, gr_A, (by simp only [H.nx_set, H.nx_push, H.nx_bump, H.nx_kill]; omega)⟩, at_A, by simp only; omega, hnl2, .inr ⟨_, ?_, rfl, by rw [htk, List.map_append, List.map_append]; exact at_A⟩⟩
             simp only [H.nx_set, H.nx_push, H.nx_bump, H.nx_kill]; omega
     · have hie : i = tn' := by omega
       subst hie
       rw [List.take_of_length_le (by omega)] at hnl hsv
       have hnb3 := hnb2 hnl
       obtain ⟨w, hwc, hwN, hwk⟩ : ∃ w : Trc, w.cells = [.int .i64 (hd 0), .int .i64 (hd 1), .int .i64 (hd 2), .int .i64 (hd 3), .int .i64 (hd 4), .int .i64 (hd 5), .int .i64 (hd 6), .int .i64 (hd 7), .bool false, sv] ∧ TrN h3 (b8 + 1) w ∧ w.key = (hd, false, S.length, S.map smpW) := by
         rcases hsv with ⟨rfl, hi0⟩ | ⟨bs, hbs, rfl, hatS⟩
         · have : S = [] := List.length_eq_zero_iff.1 (by omega)
           subst this
           exact ⟨⟨hd, false, none, 0, 0, []⟩, rfl, .inl ⟨rfl, rfl, rfl, rfl⟩, rfl⟩
         · exact ⟨⟨hd, false, some ⟨bs, 0, some 0⟩, i, i, S.map smpW⟩, rfl, .inr ⟨⟨bs, true, rfl, by omega, hatS⟩, by simp; omega, rfl⟩, by rw [hSl]; rfl⟩
       have hsv2 : sv = .slice w.sa w.n w.c := by have := congrArg (fun l => l[9]?) hwc; simp [Trc.cells] at this; exact this.symm
       subst hsv2
       have hkn := hkey2 w hwk
       have hvs3 : ∀ t ∈ vs, TrN h3 (b8 + 1) t := fun t ht => (hvs2 t ht).grow g4
       have e0 := c0.grow g4
       have e1 := c1.grow g4
       have e2 := c2.grow g4
       clear hkey2 hnb2 hbad2 hsv hwk hvs2
       rcases hv2 with ⟨rfl, rfl⟩ | ⟨b, hb, hb2, rfl, hatb⟩
       · have hvz : vs = [] := List.length_eq_zero_iff.1 hvl
         subst hvz
         repeat' (first | with_reducible refine wo_nil ?_ | ((with_reducible refine wo_any ?_); first | refine wq_A (op_move rfl) ?_ | refine wq_A (op_assign rfl) ?_ | refine wq_A (op_append rfl rfl (append_nil_eq (M := mz G) (st := 41) (xt := 41) (m := 1) Tryz.underlying41 Tryz.underlying41 rfl zs47 zb47 zz47 rfl (Sl.ofAt at_A rfl (Nat.le_refl _)) rfl (by omega) (by omega))) ?_ | ((with_reducible refine ik_load ?_); first | refine wq_A (op_ldAt rfl at_A Tryz.underlying41 rfl rfl) ?_ | refine wq_A (op_ldAgg rfl at_A Tryz.underlying47 rfl zs47 rfl rfl) ?_) | refine wq_A (op_fieldAddr (o := 1) rfl Tryz.underlying43 rfl zs41 rfl) ?_ | ((with_reducible refine ik_bin ?_); first | refine wq_A (op_lss rfl rfl) ?_ | refine wq_A (op_add' rfl rfl (w64 (by omega) (by omega))) ?_) | refine wq_B (op_st1 rfl rfl at_A rfl zs41 rfl rfl rfl) ?_ | refine wq_A (op_buildSl rfl Tryz.underlying41 zs47 zz47 rfl rfl) ?_) | (with_reducible first | refine sq_norm ?_ | refine wc_seq ?_ | refine wc_region ?_ | refine wc_exit ?_ | refine bq_norm ?_ | refine sq_exit ?_ | refine lq_exit ?_) | refine bq_eq rfl ?_ | (refine wc_if rfl (fun hb => dead_A hb) (fun hb => ?_); (try simp only [bb_A, reduceCtorEq] at hb)))
         all_goals
           rw [← hwc]
           refine lq_norm (0 + 1, .slice (some ⟨_, 0, some 0⟩) (0 + 1) (0 + 1), [w]) (by simp only; omega) (within_lk ⟨rfl, rfl, rfl, rfl, rfl, rfl, rfl, trivial⟩) ⟨⟨wf_A, gr_A, (by simp only [H.nx_set, H.nx_push, H.nx_bump]; omega), at_A, at_A, at_A, at_A⟩, by simp only; omega, hnb3, rfl, (fun t ht => by simp only [List.mem_singleton] at ht; subst ht; exact TrN.set (hwN.grow gr_A) (by show b8 < b8 + 1; omega) _), .inr ⟨_, ?_, rfl, by rw [List.flatMap_singleton]; exact at_A⟩, hkn⟩
           simp only [H.nx_set, H.nx_push, H.nx_bump]; omega
       · have hatb2 := hatb.grow g4
         repeat' (first | with_reducible refine wo_nil ?_ | ((with_reducible refine wo_any ?_); first | refine wq_A (op_move rfl) ?_ | refine wq_A (op_assign rfl) ?_ | refine wq_A (op_append rfl rfl (append_own_eq (M := mz G) (st := 41) (xt := 41) (m := 1) Tryz.underlying41 Tryz.underlying41 rfl zs47 zb47 zz47 rfl (Sl.ofAt at_A rfl (Nat.le_refl _)) rfl (b := b) (c := vs.flatMap Trc.cells) at_A hclen (by omega) (by omega))) ?_ | ((with_reducible refine ik_load ?_); first | refine wq_A (op_ldAt rfl at_A Tryz.underlying41 rfl rfl) ?_ | refine wq_A (op_ldAgg rfl at_A Tryz.underlying47 rfl zs47 rfl rfl) ?_) | refine wq_A (op_fieldAddr (o := 1) rfl Tryz.underlying43 rfl zs41 rfl) ?_ | ((with_reducible refine ik_bin ?_); first | refine wq_A (op_lss rfl rfl) ?_ | refine wq_A (op_add' rfl rfl (w64 (by omega) (by omega))) ?_) | refine wq_B (op_st1 rfl rfl at_A rfl zs41 rfl rfl rfl) ?_ | refine wq_A (op_buildSl rfl Tryz.underlying41 zs47 zz47 rfl rfl) ?_) | (with_reducible first | refine sq_norm ?_ | refine wc_seq ?_ | refine wc_region ?_ | refine wc_exit ?_ | refine bq_norm ?_ | refine sq_exit ?_ | refine lq_exit ?_) | refine bq_eq rfl ?_ | (refine wc_if rfl (fun hb => dead_A hb) (fun hb => ?_); (try simp only [bb_A, reduceCtorEq] at hb)))
         all_goals
           rw [← hwc]
           refine lq_norm (j + 1, .slice (some ⟨_, 0, some 0⟩) (j + 1) (j + 1), vs ++ [w]) (by simp only; omega) (within_lk ⟨rfl, rfl, rfl, rfl, rfl, rfl, rfl, trivial⟩) ⟨⟨wf_A, gr_A, (by simp only [H.nx_set, H.nx_push, H.nx_bump, H.nx_kill]; omega), at_A, at_A, at_A, at_A⟩, by simp only; omega, hnb3, by simp [hvl], (fun t ht => ?_), .inr ⟨_, ?_, rfl, by rw [List.flatMap_append, List.flatMap_singleton]; exact at_A⟩, hkn⟩
           · rcases List.mem_append.1 ht with ht | ht
             · exact TrN.set (TrN.push (TrN.kill10 (c := vs.flatMap Trc.cells) (e := 47) (s := true) (TrN.grow (hvs3 t ht) gr_A) at_A) _) (by show b8 < b8 + 1; omega) _
             · simp only [List.mem_singleton] at ht; subst ht
               exact TrN.set (TrN.push (TrN.kill10 (c := vs.flatMap Trc.cells) (e := 47) (s := true) (TrN.grow hwN gr_A) at_A) _) (by show b8 < b8 + 1; omega) _
           · simp only [H.nx_set, H.nx_push, H.nx_bump, H.nx_kill]; omega
 · have hjk : j = k := by omega
   subst hjk
   have hbad : ¬ ChBad (mrgF addF us) (mskL ts us) := fun ⟨i, q, hh, hl⟩ => by
     have := hnb i q (by omega) hh
     rw [show addL us i (mskL ts us)[i] = mrgF addF us i (((mskL ts us)[i]).l.map smp) from rfl, hl] at this
     cases this
   rcases hv with ⟨rfl, hj0⟩ | ⟨b, hb, rfl, hatb⟩
   · omega
   · repeat' (first | with_reducible refine wo_nil ?_ | ((with_reducible refine wo_any ?_); first | refine wq_A (op_move rfl) ?_ | refine wq_A (op_assign rfl) ?_ | ((with_reducible refine ik_load ?_); first | refine wq_A (op_ldAgg rfl at_A Tryz.underlying43 rfl zs43 rfl rfl) ?_ | refine wq_A (op_ldAt rfl at_A Tryz.underlying41 rfl rfl) ?_) | refine wq_A (op_fieldAddr (o := 1) rfl Tryz.underlying43 rfl zs41 rfl) ?_ | refine wq_A (op_lenSl rfl Tryz.underlying41) ?_ | refine wq_A (op_lss rfl rfl) ?_ | refine wq_B (op_stAgg rfl rfl at_A zs43 rfl rfl rfl rfl) ?_) | (with_reducible first | refine sq_norm ?_ | refine wc_seq ?_ | refine wc_region ?_ | refine wc_ret ?_ | refine wc_exit ?_ | refine sq_exit ?_ | refine lq_exit ?_) | refine bq_eq rfl ?_ | (refine wc_if rfl (fun hb => ?_) (fun hb => ?_) <;> (try simp only [bb_A, reduceCtorEq] at hb) <;> (try (exfalso; omega))))
     all_goals exact rqc2 rfl (ldAgg at_A Tryz.underlying43 rfl zs43 rfl rfl) rfl ⟨.inr (.inr ⟨by first | rfl | trivial, hbad, b, vs, rfl, at_A, fun u hu => (TrN.set (hvs u hu) (by omega) _).ok, ⟨by rw [hvl, hml]; omega, hky⟩⟩), gr_A⟩
end Go.Proofs.YtdelgpbfdimefaaGreatDoor
