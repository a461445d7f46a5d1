/- The law TraceCuts, walked. -/
import Derived.Test.YtdelgpbfdimefaaGreatDoorM4
import Derived.Test.YtdelgpbfdimefaaGreatDoorM6
set_option linter.all false
/- The law of cuts, walked. -/
namespace Go.Proofs.YtdelgpbfdimefaaGreatDoor
open Go Go.Ab Go.Fl
attribute [local irreducible] SeqQ BlkQ LpQ RetQ Wc Wo WD WX Op1 Op1q Op1a Cf Cl From
attribute [local irreducible] Ieee.Format.order Ieee.Format.read Ieee.Format.nearest Ieee.Format.write Ieee.Format.mul Ieee.Format.div Ieee.Datum.order Ieee.Datum.integral smpE smp smpW K J U trE hdrE lchk firstNZ isNameB wid mism shE offs shortB anyLarge spanE folE cutC joinC
set_option maxRecDepth 10000
variable {G : Base} {h : H}
set_option maxHeartbeats 4000000 in
theorem c5n {nm nm' : ByteArray} {a a' : Option Addr} {n m c c' : Nat} {ts us : List Trc} {x y : Int} (s : SlT G h (.slice a n c) n ts) (s' : SlT G h (.slice a' m c') m us) (hS : shortB nm ts = false ∨ shortB nm' us = false) (hw : Wf h) : Cf (mz G) (.func (.func 5) #[] #[]) [.agg ⟨shC nm a n c⟩, .agg ⟨shC nm' a' m c'⟩, .agg ⟨[.int .i64 x, .int .i64 y]⟩] h fun r h' => r = .bool true ∧ Grow h h' := by
  have q28 := fun (h' : H) (g : Grow h h') (w : Wf h') => c28 (nm := nm) (s.grow g) w
  have q28b := fun (h' : H) (g : Grow h h') (w : Wf h') => c28 (nm := nm') (s'.grow g) w
  obtain ⟨S, hS1⟩ : ∃ S, shortB nm ts = S := ⟨_, rfl⟩
  obtain ⟨S', hS2⟩ : ∃ S, shortB nm' us = S := ⟨_, rfl⟩
  rw [hS1] at q28 hS
  rw [hS2] at q28b hS
  cases S with
  | false =>
    clear hS
    refine cf_enter0 84 [.tmp 6] Tryz.func5 rfl rfl rfl rfl ?_
    repeat' (first | with_reducible refine wo_nil ?_ | ((with_reducible refine wo_any ?_); first | ((with_reducible refine ik_move ?_); refine wo_op rfl (op_move rfl) rfl rfl ?_) | ((with_reducible refine ik_assign ?_); refine wo_op rfl (op_assign rfl) rfl rfl ?_) | ((with_reducible refine ik_box ?_); refine wo_op rfl (op_boxAgg rfl zs43 rfl) rfl rfl ?_) | ((with_reducible refine ik_load ?_); refine wo_op rfl (op_ldAgg rfl at_A Tryz.underlying43 rfl zs43 rfl rfl) rfl rfl ?_) | ((with_reducible refine ik_un ?_); refine wo_op rfl (op_not rfl) rfl rfl ?_) | ((with_reducible refine ik_pick ?_); refine wo_op rfl (op_pickt rfl rfl) rfl rfl ?_) | ((with_reducible refine ik_callF (f := 16) ?_); refine wo_op rfl (op_call rfl rfl (c16)) rfl rfl ?_) | ((with_reducible refine ik_callv ?_); (refine wo_call rfl rfl rfl rfl (q28 _ gr_A wf_A) rfl rfl ?_; rintro _ _ ⟨rfl, hq⟩; all_goals ((try (have hqn := hq.nx)); (try simp only [H.nx_push, H.nx_set, H.nx_bump] at hqn)))) | ((with_reducible refine ik_g ?_); refine wo_gskip rfl rfl rfl rfl rfl rfl ?_)) | with_reducible refine sq_norm ?_ | with_reducible refine wc_seq ?_ | with_reducible refine wc_region ?_ | with_reducible refine wc_ret ?_ | with_reducible refine sq_ret ?_ | refine wc_ift rfl ?_)
    all_goals exact rq1 rfl ⟨rfl, gr_A⟩
  | true =>
    have : S' = false := by simpa using hS
    subst this
    clear hS
    refine cf_enter0 84 [.tmp 6] Tryz.func5 rfl rfl rfl rfl ?_
    repeat' (first | with_reducible refine wo_nil ?_ | ((with_reducible refine wo_any ?_); first | ((with_reducible refine ik_move ?_); refine wo_op rfl (op_move rfl) rfl rfl ?_) | ((with_reducible refine ik_assign ?_); refine wo_op rfl (op_assign rfl) rfl rfl ?_) | ((with_reducible refine ik_box ?_); refine wo_op rfl (op_boxAgg rfl zs43 rfl) rfl rfl ?_) | ((with_reducible refine ik_load ?_); refine wo_op rfl (op_ldAgg rfl at_A Tryz.underlying43 rfl zs43 rfl rfl) rfl rfl ?_) | ((with_reducible refine ik_un ?_); refine wo_op rfl (op_not rfl) rfl rfl ?_) | ((with_reducible refine ik_pick ?_); refine wo_op rfl (op_pickf rfl rfl) rfl rfl ?_) | ((with_reducible refine ik_callF (f := 16) ?_); refine wo_op rfl (op_call rfl rfl (c16)) rfl rfl ?_) | ((with_reducible refine ik_callv ?_); (refine wo_call rfl rfl rfl rfl (q28 _ gr_A wf_A) rfl rfl ?_; rintro _ _ ⟨rfl, hq⟩; all_goals ((try (have hqn := hq.nx)); (try simp only [H.nx_push, H.nx_set, H.nx_bump] at hqn)))) | ((with_reducible refine ik_g ?_); first | ((with_reducible refine ig_load ?_); refine wo_grun rfl rfl rfl (op_ldAgg rfl at_A Tryz.underlying43 rfl zs43 rfl rfl) rfl rfl ?_) | ((with_reducible refine ig_un ?_); refine wo_grun rfl rfl rfl (op_not rfl) rfl rfl ?_) | ((with_reducible refine ig_callv ?_); (refine wo_gcall rfl rfl rfl rfl rfl rfl (q28b _ gr_A wf_A) rfl rfl ?_; rintro _ _ ⟨rfl, hq⟩; all_goals ((try (have hqn := hq.nx)); (try simp only [H.nx_push, H.nx_set, H.nx_bump] at hqn)))))) | with_reducible refine sq_norm ?_ | with_reducible refine wc_seq ?_ | with_reducible refine wc_region ?_ | with_reducible refine wc_ret ?_ | with_reducible refine sq_ret ?_ | refine wc_ift rfl ?_)
    all_goals exact rq1 rfl ⟨rfl, gr_A⟩
end Go.Proofs.YtdelgpbfdimefaaGreatDoor

/- The law of cuts, walked: arguments that are short. -/
namespace Go.Proofs.YtdelgpbfdimefaaGreatDoor
open Go Go.Ab Go.Fl
attribute [local irreducible] SeqQ BlkQ LpQ RetQ Wc Wo WD WX Op1 Op1q Op1a Cf Cl From
attribute [local irreducible] Ieee.Format.order Ieee.Format.read Ieee.Format.nearest Ieee.Format.write Ieee.Format.mul Ieee.Format.div Ieee.Datum.order Ieee.Datum.integral smpE smp smpW K J U trE hdrE lchk firstNZ isNameB wid mism shE offs shortB anyLarge spanE folE cutC joinC MadeR
set_option maxRecDepth 10000
variable {G : Base} {h : H}
set_option maxHeartbeats 4000000 in
theorem c5m {nm nm' : ByteArray} {a a' : Option Addr} {n m c c' : Nat} {ts us : List Trc} {x y : Int} (s : SlT G h (.slice a n c) n ts) (s' : SlT G h (.slice a' m c') m us) (hS : shortB nm ts = true) (hS' : shortB nm' us = true) (hn : n ≤ 65) (hm : m ≤ 65) (hl : ∀ t ∈ ts, t.n < 1000000) (hl' : ∀ t ∈ us, t.n < 1000000) (hnm : nm.size ≤ 1000000) (hnm' : nm'.size ≤ 1000000) (hw : Wf h) (hG : ∀ a v, laidBase a = some v → G a = some v) :
    Cf (mz G) (.func (.func 5) #[] #[]) [.agg ⟨shC nm a n c⟩, .agg ⟨shC nm' a' m c'⟩, .agg ⟨[.int .i64 x, .int .i64 y]⟩] h fun r h' => r = .bool true ∧ Grow h h' := by
  have hn6 : n < 1000000 := by omega
  have hm6 : m < 1000000 := by omega
  have q28 := fun (h' : H) (g : Grow h h') (w : Wf h') => c28 (nm := nm) (s.grow g) w
  have q28b := fun (h' : H) (g : Grow h h') (w : Wf h') => c28 (nm := nm') (s'.grow g) w
  rw [hS] at q28
  rw [hS'] at q28b
  have q31 := fun (h' : H) (g : Grow h h') (w : Wf h') => c31 (nm := nm) (s.grow g) hn hl w
  have q31b := fun (h' : H) (g : Grow h h') (w : Wf h') => c31 (nm := nm') (s'.grow g) hm hl' w
  have q35 := fun (h' : H) (g : Grow h h') (w : Wf h') => c35 (nm := nm) (s.grow g) hn6 hl hnm w
  have q35b := fun (h' : H) (g : Grow h h') (w : Wf h') => c35 (nm := nm') (s'.grow g) hm6 hl' hnm' w
  have q37 := fun (h' : H) (g : Grow h h') (w : Wf h') => c37 (nm := nm) (s.grow g) hn6 w
  have q42 := fun (h' : H) (a1 : Option Addr) (c1 : Nat) (vs : List Trc) (st : SlT G h' (.slice a1 n c1) n vs) (q : vs.map Trc.key = ts.map Trc.key) (w : Wf h') => c42m (nm := nm) (x := x) (y := y) st q hn hl w hG
  have q43 := fun (h' : H) (a1 a2 : Option Addr) (c1 c2 : Nat) (vs ws : List Trc) (st : SlT G h' (.slice a1 n c1) n vs) (q : vs.map Trc.key = ts.map Trc.key) (st' : SlT G h' (.slice a2 m c2) m ws) (q' : ws.map Trc.key = us.map Trc.key) (w : Wf h') => c43m (nm := nm) (nm' := nm') st st' q q' hn hm hl hl' w hG
  have q45 := fun (h' : H) (g : Grow h h') (hE : shE nm ts = 0) (hS : spanE x y (wid ts : Nat) = 0) (w : Wf h') => c45m (x := x) (y := y) (s.grow g) hE hS w
  have q46 := fun (h' : H) (g : Grow h h') (hE : shE nm ts = 0) (hE' : shE nm' us = 0) (w : Wf h') => c46m (nm := nm) (nm' := nm') (s.grow g) (s'.grow g) hE hE' w
  have zC := fun (e : cutC nm ts x y = 0) (vs ws : List Trc) z1 z2 => cut_z s e vs ws z1 z2
  have zD := fun (e : joinC nm ts nm' us = 0) (vs ws : List Trc) z1 z2 => join_z s s' e vs ws z1 z2
  have kE := fun (q : shE nm ts ≠ 0) => cutC_E (x := x) (y := y) q
  have kS := fun (q : shE nm ts = 0) (q2 : spanE x y (wid ts : Nat) ≠ 0) => cutC_S q q2
  have kJ : joinC nm ts nm' us = if shE nm ts ≠ 0 then shE nm ts else if shE nm' us ≠ 0 then shE nm' us else folE ts us := by unfold joinC; rw [first3]
  obtain ⟨ZR, hZR⟩ : ∃ Z, (fun vs : List Trc => ∀ lo hi : Nat, x = lo → y = hi → KeyAll vs ts (cutKey lo hi)) = Z := ⟨_, rfl⟩
  obtain ⟨ZW, hZW⟩ : ∃ Z, (fun vs : List Trc => ∀ lo hi : Nat, x = lo → y = hi → KeyAll vs ts (cutKeyR lo hi)) = Z := ⟨_, rfl⟩
  obtain ⟨YR, hYR⟩ : ∃ Z, (fun vs : List Trc => KeyAll vs (mskL ts us) (chKey (mrgF catF us))) = Z := ⟨_, rfl⟩
  obtain ⟨YW, hYW⟩ : ∃ Z, (fun vs : List Trc => KeyAll vs (mskL ts us) (joinKeyR us)) = Z := ⟨_, rfl⟩
  have zC : cutC nm ts x y = 0 → ∀ vs ws, ZR vs → ZW ws → TrsS vs ws ∧ ∀ t ∈ vs, t.n < 1000000 := by subst hZR hZW; exact zC
  have zD : joinC nm ts nm' us = 0 → ∀ vs ws, YR vs → YW ws → TrsS vs ws ∧ ∀ t ∈ vs, t.n < 1000000 := by subst hYR hYW; exact zD
  simp only [hZR] at q42
  simp only [hYR] at q43
  simp only [hZW] at q45
  simp only [hYW] at q46
  clear hZR hZW hYR hYW
  obtain ⟨C, hC⟩ : ∃ C, cutC nm ts x y = C := ⟨_, rfl⟩
  obtain ⟨D, hD⟩ : ∃ D, joinC nm ts nm' us = D := ⟨_, rfl⟩
  simp only [hC] at q42 q45 zC kE kS
  simp only [hD] at q43 q46 zD kJ
  clear hC hD
  obtain ⟨E, hE⟩ : ∃ E, shE nm ts = E := ⟨_, rfl⟩
  obtain ⟨E', hE'⟩ : ∃ E, shE nm' us = E := ⟨_, rfl⟩
  obtain ⟨P, hP⟩ : ∃ P, spanE x y (wid ts : Nat) = P := ⟨_, rfl⟩
  simp only [hE] at q35 q45 q46 kE kS kJ
  simp only [hE'] at q35b q46 kJ
  simp only [hP] at q45 kS
  have q44 := fun (h' : H) => c44 (G := G) (h := h') x y (wid ts : Nat)
  rw [hP] at q44
  clear hE hE' hP hl hl' hnm hnm' hS hS'
  obtain ⟨F, hF⟩ : ∃ F, firstNZ [E, E'] = F := ⟨_, rfl⟩
  have q18 := fun (h' : H) (b : Nat) (at' : At h' b (.cells [.int .i64 E, .int .i64 E'] 3 1 false)) => c18 (G := G) (h := h') (es := [E, E']) (n := 2) (Sl.ofAt at' rfl (Nat.le_refl _)) (by omega)
  simp only [hF] at q18
  rw [first2] at hF
  have mO : ∀ {h' : H} {C : Int} {nm : ByteArray} {n : Nat} {Z : List Trc → Prop}, C ≠ 0 → MadeR G h' C nm n Z .empty none 0 0 := fun e => by unfold MadeR; exact .inl ⟨e, rfl, rfl, rfl, rfl⟩
  refine cf_enter0 84 [.tmp 6] Tryz.func5 rfl rfl rfl rfl ?_
  refine wc_mid (ι := Unit) (fun _ => [(3, .pointer (some ⟨h.nx, 0, some 0⟩)), (4, .pointer (some ⟨h.nx + 1, 0, some 0⟩)), (5, .pointer (some ⟨h.nx + 2, 0, some 0⟩))]) (fun _ h' => Wf h' ∧ Grow h h' ∧ At h' h.nx (.cells (shC nm a n c) 43 2 false) ∧ At h' (h.nx + 1) (.cells (shC nm' a' m c') 43 2 false) ∧ At h' (h.nx + 2) (.cells [.int .i64 x, .int .i64 y] 67 2 false)) ?_ ?_
  · repeat' (first | with_reducible refine wo_nil ?_ | ((with_reducible refine wo_any ?_); first | ((with_reducible refine ik_assign ?_); refine wo_op rfl (op_assign rfl) rfl rfl ?_) | ((with_reducible refine ik_box ?_); refine wo_op rfl (op_boxAgg rfl zs43 rfl) rfl rfl ?_)) | with_reducible refine wc_region ?_)
    exact ⟨rfl, (), within_lk ⟨rfl, rfl, rfl, trivial⟩, wf_A, gr_A, at_A, at_A, at_A⟩
  rintro _ ha ⟨wa, ga, xa, ya, za⟩
  refine wc_mid (ι := Unit) (fun _ => [(3, .pointer (some ⟨h.nx, 0, some 0⟩)), (4, .pointer (some ⟨h.nx + 1, 0, some 0⟩)), (5, .pointer (some ⟨h.nx + 2, 0, some 0⟩))]) (fun _ h' => Wf h' ∧ Grow h h' ∧ At h' h.nx (.cells (shC nm a n c) 43 2 false) ∧ At h' (h.nx + 1) (.cells (shC nm' a' m c') 43 2 false) ∧ At h' (h.nx + 2) (.cells [.int .i64 x, .int .i64 y] 67 2 false)) ?_ ?_
  · repeat' (first | with_reducible refine wo_nil ?_ | ((with_reducible refine wo_any ?_); first | ((with_reducible refine ik_move ?_); refine wo_op rfl (op_move rfl) rfl rfl ?_) | ((with_reducible refine ik_load ?_); refine wo_op rfl (op_ldAgg rfl at_A Tryz.underlying43 rfl zs43 rfl rfl) rfl rfl ?_) | ((with_reducible refine ik_un ?_); refine wo_op rfl (op_not rfl) rfl rfl ?_) | ((with_reducible refine ik_pick ?_); refine wo_op rfl (op_pickf rfl rfl) rfl rfl ?_) | ((with_reducible refine ik_callv ?_); (refine wo_call rfl rfl rfl rfl (q28 _ gr_A wf_A) rfl rfl ?_; rintro _ _ ⟨rfl, hq⟩; all_goals ((try (have hqn := hq.nx)); (try simp only [H.nx_push, H.nx_set, H.nx_bump] at hqn)))) | ((with_reducible refine ik_g ?_); first | ((with_reducible refine ig_load ?_); refine wo_grun rfl rfl rfl (op_ldAgg rfl at_A Tryz.underlying43 rfl zs43 rfl rfl) rfl rfl ?_) | ((with_reducible refine ig_un ?_); refine wo_grun rfl rfl rfl (op_not rfl) rfl rfl ?_) | ((with_reducible refine ig_callv ?_); (refine wo_gcall rfl rfl rfl rfl rfl rfl (q28b _ gr_A wf_A) rfl rfl ?_; rintro _ _ ⟨rfl, hq⟩; all_goals ((try (have hqn := hq.nx)); (try simp only [H.nx_push, H.nx_set, H.nx_bump] at hqn)))))) | with_reducible refine sq_norm ?_ | with_reducible refine wc_seq ?_ | with_reducible refine wc_region ?_ | with_reducible refine wc_skip ?_ | refine wc_iff rfl ?_)
    exact ⟨rfl, (), within_lk ⟨rfl, rfl, rfl, trivial⟩, wf_A, gr_A, at_A, at_A, at_A⟩
  clear wa ga xa ya za ha q28 q28b
  rintro _ hb ⟨wb, gb, xb, yb, zb⟩
  have lz := zb.lt
  refine wc_mid (ι := ByteArray × Option Addr × Nat × Nat × Nat) (fun i => [(3, .pointer (some ⟨h.nx, 0, some 0⟩)), (4, .pointer (some ⟨h.nx + 1, 0, some 0⟩)), (5, .pointer (some ⟨h.nx + 2, 0, some 0⟩)), (7, .pointer (some ⟨i.2.2.2.2, 0, some 0⟩)), (8, .int .i64 C)]) (fun i h' => (Wf h' ∧ Grow h h' ∧ At h' h.nx (.cells (shC nm a n c) 43 2 false) ∧ At h' (h.nx + 1) (.cells (shC nm' a' m c') 43 2 false) ∧ At h' (h.nx + 2) (.cells [.int .i64 x, .int .i64 y] 67 2 false)) ∧ At h' i.2.2.2.2 (.cells (shC i.1 i.2.1 i.2.2.1 i.2.2.2.1) 54 2 false) ∧ MadeR G h' C nm n ZR i.1 i.2.1 i.2.2.1 i.2.2.2.1) ?_ ?_
  · repeat' (first | ((with_reducible refine xk_any ?_); first | ((with_reducible refine xk_as0 ?_); first | ((with_reducible refine xk_move ?_); refine wx_q (wt_none rfl) rfl rfl (op_q rfl (op_move rfl)) rfl rfl rfl ?_) | ((with_reducible refine xk_load ?_); first | refine wx_h0 (wt_none rfl) rfl (op_q rfl (op_ldAgg rfl at_A Tryz.underlying43 rfl zs43 rfl rfl)) rfl rfl rfl ?_ | refine wx_h0 (wt_none rfl) rfl (op_q rfl (op_ldAgg rfl at_A Tryz.underlying67 rfl zs67 rfl rfl)) rfl rfl rfl ?_) | ((with_reducible refine xk_extract ?_); refine wx_q (wt_none rfl) rfl rfl (op_q rfl (op_extract rfl rfl)) rfl rfl rfl ?_) | ((with_reducible refine xk_alloc ?_); refine wx_a0 (wt_none rfl) rfl (oa_alloc zz54 zs54 rfl rfl rfl) rfl rfl ?_) | ((with_reducible refine xk_callv ?_); first | (refine wx_call0 (wt_none rfl) rfl rfl rfl rfl (q31 _ gr_A wf_A) rfl rfl ?_; rintro _ _ ⟨⟨a1, c1, vs, rfl, su, hk⟩, hq⟩; all_goals ((try (have hqn := hq.nx)); (try simp only [H.nx_push, H.nx_set, H.nx_bump] at hqn))) | (refine wx_call0 (wt_none rfl) rfl rfl rfl rfl (q42 _ _ _ _ su hk wf_A) rfl rfl ?_; rintro _ _ ⟨⟨nmR, aR, nR, cR, rfl, mR⟩, hq⟩; all_goals ((try (have hqn := hq.nx)); (try simp only [H.nx_push, H.nx_set, H.nx_bump] at hqn))))) | ((with_reducible refine xk_assign ?_); refine wx_q (wt_none rfl) rfl rfl (op_q rfl (op_assign rfl)) rfl rfl rfl ?_) | ((with_reducible refine xk_store ?_); ((with_reducible refine xk_as1 ?_); refine wx_e01 (wt_none rfl) rfl rfl rfl (op_stAgg rfl rfl at_A zs54 rfl rfl rfl rfl) rfl ?_)) | refine wx_niln ?_ ?_ rfl rfl ?_) | with_reducible exact obl_nil | with_reducible refine obl_cons ?_ ?_ | ((with_reducible refine ik_obs ?_); first | exact obs_nil | refine obs_skip rfl ?_ | refine obs_chkn rfl rfl (op_q rfl (op_ldAgg rfl at_A Tryz.underlying43 rfl zs43 (by rfl) rfl)) ?_ | refine obs_chkn rfl rfl (op_q rfl (op_ldAgg rfl at_A Tryz.underlying67 rfl zs67 (by rfl) rfl)) ?_) | with_reducible exact stk_nil | with_reducible refine stk_cons ?_ ?_ | ((with_reducible refine ik_stk ?_); first | exact stk_abs rfl rfl | exact stk_freeB rfl rfl wf_A gr_B) | refine wc_drawB (id := 3) 10 [0, 1, 0, 7, 15, 31, 31, 0, 191, 511] [0, 1, 2, 3, 4, 5, 6, 7, 8, 9] (by kernel_rfl) (by kernel_rfl) rfl rfl ?_)
    exact ⟨rfl, (_, _, _, _, _), within_lk ⟨rfl, rfl, rfl, rfl, rfl, trivial⟩, ⟨wf_A, gr_A, at_A, at_A, at_A⟩, at_A, (mR.setF (Free.new (i := 7) wb gr_A (by omega)) _).setF (Free.at (c := zShot) (e := 54) (s := false) at_A) _⟩
  clear lz wb gb xb yb zb hb q42
  rintro ⟨nmR, aR, nR, cR, b7⟩ ha ⟨⟨wa, ga, xa, ya, za⟩, at7, mR⟩
  have lz := za.lt
  have l7 := at7.lt
  simp only at at7 mR l7
  refine wc_mid (ι := ByteArray × Option Addr × Nat × Nat × Nat) (fun i => [(3, .pointer (some ⟨h.nx, 0, some 0⟩)), (4, .pointer (some ⟨h.nx + 1, 0, some 0⟩)), (5, .pointer (some ⟨h.nx + 2, 0, some 0⟩)), (7, .pointer (some ⟨b7, 0, some 0⟩)), (8, .int .i64 C), (9, .pointer (some ⟨i.2.2.2.2, 0, some 0⟩)), (10, .int .i64 D)]) (fun i h' => (Wf h' ∧ Grow h h' ∧ At h' h.nx (.cells (shC nm a n c) 43 2 false) ∧ At h' (h.nx + 1) (.cells (shC nm' a' m c') 43 2 false) ∧ At h' (h.nx + 2) (.cells [.int .i64 x, .int .i64 y] 67 2 false)) ∧ At h' b7 (.cells (shC nmR aR nR cR) 54 2 false) ∧ MadeR G h' C nm n ZR nmR aR nR cR ∧ At h' i.2.2.2.2 (.cells (shC i.1 i.2.1 i.2.2.1 i.2.2.2.1) 54 2 false) ∧ MadeR G h' D nm n YR i.1 i.2.1 i.2.2.1 i.2.2.2.1) ?_ ?_
  · repeat' (first | ((with_reducible refine xk_any ?_); first | ((with_reducible refine xk_as0 ?_); first | ((with_reducible refine xk_move ?_); refine wx_q (wt_none rfl) rfl rfl (op_q rfl (op_move rfl)) rfl rfl rfl ?_) | ((with_reducible refine xk_load ?_); refine wx_h0 (wt_none rfl) rfl (op_q rfl (op_ldAgg rfl at_A Tryz.underlying43 rfl zs43 rfl rfl)) rfl rfl rfl ?_) | ((with_reducible refine xk_extract ?_); refine wx_q (wt_none rfl) rfl rfl (op_q rfl (op_extract rfl rfl)) rfl rfl rfl ?_) | ((with_reducible refine xk_alloc ?_); refine wx_a0 (wt_none rfl) rfl (oa_alloc zz54 zs54 rfl rfl rfl) rfl rfl ?_) | ((with_reducible refine xk_callv ?_); first | (refine wx_call0 (wt_none rfl) rfl rfl rfl rfl (q31 _ gr_A wf_A) rfl rfl ?_; rintro _ _ ⟨⟨a1, c1, vs, rfl, su, hk⟩, hq⟩; all_goals ((try (have hqn := hq.nx)); (try simp only [H.nx_push, H.nx_set, H.nx_bump] at hqn))) | (refine wx_call0 (wt_none rfl) rfl rfl rfl rfl (q31b _ gr_A wf_A) rfl rfl ?_; rintro _ _ ⟨⟨a2, c2, ws, rfl, sv, hk'⟩, hq⟩; all_goals ((try (have hqn := hq.nx)); (try simp only [H.nx_push, H.nx_set, H.nx_bump] at hqn))) | (refine wx_call0 (wt_none rfl) rfl rfl rfl rfl (q43 _ _ _ _ _ _ _ (su.grow gr_A) hk (sv.grow gr_A) hk' wf_A) rfl rfl ?_; rintro _ _ ⟨⟨nmS, aS, nS, cS, rfl, mS⟩, hq⟩; all_goals ((try (have hqn := hq.nx)); (try simp only [H.nx_push, H.nx_set, H.nx_bump] at hqn))))) | ((with_reducible refine xk_assign ?_); refine wx_q (wt_none rfl) rfl rfl (op_q rfl (op_assign rfl)) rfl rfl rfl ?_) | ((with_reducible refine xk_store ?_); ((with_reducible refine xk_as1 ?_); refine wx_e01 (wt_none rfl) rfl rfl rfl (op_stAgg rfl rfl at_A zs54 rfl rfl rfl rfl) rfl ?_)) | refine wx_niln ?_ ?_ rfl rfl ?_) | with_reducible exact obl_nil | with_reducible refine obl_cons ?_ ?_ | ((with_reducible refine ik_obs ?_); first | exact obs_nil | refine obs_skip rfl ?_ | refine obs_chkn rfl rfl (op_q rfl (op_ldAgg rfl at_A Tryz.underlying43 rfl zs43 (by rfl) rfl)) ?_) | with_reducible exact stk_nil | with_reducible refine stk_cons ?_ ?_ | ((with_reducible refine ik_stk ?_); first | exact stk_abs rfl rfl | exact stk_freeB rfl rfl wf_A gr_B) | refine wc_drawB (id := 4) 11 [0, 1, 0, 7, 15, 31, 63, 63, 0, 383, 1023] [0, 1, 2, 3, 4, 5, 6, 7, 8, 9, 10] (by kernel_rfl) (by kernel_rfl) rfl rfl ?_)
    exact ⟨rfl, (_, _, _, _, _), within_lk ⟨rfl, rfl, rfl, rfl, rfl, rfl, rfl, trivial⟩, ⟨wf_A, gr_A, at_A, at_A, at_A⟩, at_A, mR.grow gr_A, at_A, (mS.setF (Free.new (i := 8) wa gr_A (by omega)) _).setF (Free.at (c := zShot) (e := 54) (s := false) at_A) _⟩
  clear lz l7 wa ga xa ya za ha q43 q31 q31b mR at7
  rintro ⟨nmS, aS, nS, cS, b9⟩ hb ⟨⟨wb, gb, xb, yb, zb⟩, at7, mR, at9, mS⟩
  have lz := zb.lt
  have l7 := at7.lt
  have l9 := at9.lt
  simp only at at9 mS l9
  refine wc_mid (ι := Unit) (fun _ => [(3, .pointer (some ⟨h.nx, 0, some 0⟩)), (4, .pointer (some ⟨h.nx + 1, 0, some 0⟩)), (5, .pointer (some ⟨h.nx + 2, 0, some 0⟩)), (7, .pointer (some ⟨b7, 0, some 0⟩)), (8, .int .i64 C), (9, .pointer (some ⟨b9, 0, some 0⟩)), (10, .int .i64 D), (11, .int .i64 E), (12, .int .i64 F)]) (fun _ h' => (Wf h' ∧ Grow h h' ∧ At h' h.nx (.cells (shC nm a n c) 43 2 false) ∧ At h' (h.nx + 1) (.cells (shC nm' a' m c') 43 2 false) ∧ At h' (h.nx + 2) (.cells [.int .i64 x, .int .i64 y] 67 2 false)) ∧ At h' b7 (.cells (shC nmR aR nR cR) 54 2 false) ∧ MadeR G h' C nm n ZR nmR aR nR cR ∧ At h' b9 (.cells (shC nmS aS nS cS) 54 2 false) ∧ MadeR G h' D nm n YR nmS aS nS cS) ?_ ?_
  · repeat' (first | ((with_reducible refine xk_any ?_); first | ((with_reducible refine xk_as0 ?_); first | ((with_reducible refine xk_load ?_); refine wx_h0 (wt_none rfl) rfl (op_q rfl (op_ldAgg rfl at_A Tryz.underlying43 rfl zs43 rfl rfl)) rfl rfl rfl ?_) | ((with_reducible refine xk_buildSlice ?_); refine wx_a0 (wt_none rfl) rfl (oa_buildSlice rfl Tryz.underlying25 zs3 zz3 rfl rfl) rfl rfl ?_) | ((with_reducible refine xk_callv ?_); first | (refine wx_call0 (wt_none rfl) rfl rfl rfl rfl (q35 _ gr_A wf_A) rfl rfl ?_; rintro _ _ ⟨rfl, hq⟩; all_goals ((try (have hqn := hq.nx)); (try simp only [H.nx_push, H.nx_set, H.nx_bump] at hqn))) | (refine wx_call0 (wt_none rfl) rfl rfl rfl rfl (q35b _ gr_A wf_A) rfl rfl ?_; rintro _ _ ⟨rfl, hq⟩; all_goals ((try (have hqn := hq.nx)); (try simp only [H.nx_push, H.nx_set, H.nx_bump] at hqn))))) | ((with_reducible refine xk_assign ?_); refine wx_q (wt_none rfl) rfl rfl (op_q rfl (op_assign rfl)) rfl rfl rfl ?_) | ((with_reducible refine xk_callv ?_); ((with_reducible refine xk_as1 ?_); refine wx_e1 (wt_none rfl) rfl rfl rfl (op_call rfl rfl (q18 _ _ at_A)) rfl rfl ?_)) | refine wx_niln ?_ ?_ rfl rfl ?_) | with_reducible exact obl_nil | with_reducible refine obl_cons ?_ ?_ | ((with_reducible refine ik_obs ?_); first | exact obs_nil | refine obs_skip rfl ?_ | refine obs_chkn rfl rfl (op_q rfl (op_ldAgg rfl at_A Tryz.underlying43 rfl zs43 (by rfl) rfl)) ?_) | with_reducible exact stk_nil | with_reducible refine stk_cons ?_ ?_ | ((with_reducible refine ik_stk ?_); first | exact stk_abs rfl rfl | exact stk_freeB rfl rfl wf_A gr_B) | refine wc_drawB (id := 5) 10 [0, 1, 0, 7, 0, 31, 63, 127, 255, 511] [0, 1, 2, 3, 4, 5, 6, 7, 8, 9] (by kernel_rfl) (by kernel_rfl) rfl rfl ?_)
    exact ⟨rfl, (), within_lk ⟨rfl, rfl, rfl, rfl, rfl, rfl, rfl, rfl, rfl, trivial⟩, ⟨wf_A, gr_A, at_A, at_A, at_A⟩, at_A, mR.grow gr_A, at_A, mS.grow gr_A⟩
  clear lz l7 l9 wb gb xb yb zb hb q35 q35b q18 mR mS at7 at9
  rintro _ ha ⟨⟨wa, ga, xa, ya, za⟩, at7, mR, at9, mS⟩
  have l7 := at7.lt
  have l9 := at9.lt
  have lz := za.lt
  obtain ⟨N, hN⟩ : ∃ N, ha.nx = N := ⟨_, rfl⟩
  refine wc_mid (ι := Unit) (fun _ => [(3, .pointer (some ⟨h.nx, 0, some 0⟩)), (4, .pointer (some ⟨h.nx + 1, 0, some 0⟩)), (5, .pointer (some ⟨h.nx + 2, 0, some 0⟩)), (7, .pointer (some ⟨b7, 0, some 0⟩)), (8, .int .i64 C), (9, .pointer (some ⟨b9, 0, some 0⟩)), (10, .int .i64 D), (11, .int .i64 E), (12, .int .i64 F), (13, .pointer (some ⟨N, 0, some 0⟩)), (14, .pointer (some ⟨N + 1, 0, some 0⟩))]) (fun _ h' => ((Wf h' ∧ Grow h h' ∧ At h' h.nx (.cells (shC nm a n c) 43 2 false) ∧ At h' (h.nx + 1) (.cells (shC nm' a' m c') 43 2 false) ∧ At h' (h.nx + 2) (.cells [.int .i64 x, .int .i64 y] 67 2 false)) ∧ At h' b7 (.cells (shC nmR aR nR cR) 54 2 false) ∧ MadeR G h' C nm n ZR nmR aR nR cR ∧ At h' b9 (.cells (shC nmS aS nS cS) 54 2 false) ∧ MadeR G h' D nm n YR nmS aS nS cS) ∧ At h' N (.cells zShot 43 2 false) ∧ At h' (N + 1) (.cells zShot 43 2 false)) ?_ ?_
  · repeat' (first | with_reducible refine wo_nil ?_ | ((with_reducible refine wo_any ?_); ((with_reducible refine ik_alloc ?_); refine wo_op rfl (op_alloc zz54 zs54 rfl rfl rfl) rfl rfl ?_)) | with_reducible refine wc_region ?_)
    rw [← hN]
    exact ⟨rfl, (), within_lk ⟨rfl, rfl, rfl, rfl, rfl, rfl, rfl, rfl, rfl, rfl, rfl, trivial⟩, ⟨⟨wf_A, gr_A, at_A, at_A, at_A⟩, at_A, mR.grow gr_A, at_A, mS.grow gr_A⟩, at_A, at_A⟩
  rw [hN] at l7 l9 lz
  clear wa ga xa ya za mR mS at7 at9 hN ha
  rintro _ hb ⟨⟨⟨wb, gb, xb, yb, zb⟩, at7, mR, at9, mS⟩, u1, u2⟩
  have lM := u2.lt
  obtain ⟨O, hO⟩ : ∃ O : Int, (if E ≠ 0 then E else P) = O := ⟨_, rfl⟩
  refine wc_mid (ι := Unit) (fun _ => [(3, .pointer (some ⟨h.nx, 0, some 0⟩)), (4, .pointer (some ⟨h.nx + 1, 0, some 0⟩)), (5, .pointer (some ⟨h.nx + 2, 0, some 0⟩)), (7, .pointer (some ⟨b7, 0, some 0⟩)), (8, .int .i64 C), (9, .pointer (some ⟨b9, 0, some 0⟩)), (10, .int .i64 D), (11, .int .i64 O), (12, .int .i64 F), (13, .pointer (some ⟨N, 0, some 0⟩)), (14, .pointer (some ⟨N + 1, 0, some 0⟩))]) (fun _ h' => ((Wf h' ∧ Grow h h' ∧ At h' h.nx (.cells (shC nm a n c) 43 2 false) ∧ At h' (h.nx + 1) (.cells (shC nm' a' m c') 43 2 false) ∧ At h' (h.nx + 2) (.cells [.int .i64 x, .int .i64 y] 67 2 false)) ∧ At h' b7 (.cells (shC nmR aR nR cR) 54 2 false) ∧ MadeR G h' C nm n ZR nmR aR nR cR ∧ At h' b9 (.cells (shC nmS aS nS cS) 54 2 false) ∧ MadeR G h' D nm n YR nmS aS nS cS) ∧ At h' N (.cells zShot 43 2 false) ∧ At h' (N + 1) (.cells zShot 43 2 false)) ?_ ?_
  · by_cases h0 : E = 0
    · subst h0
      have hO : P = O := by rw [← hO]; simp
      rw [hO] at q44
      repeat' (first | with_reducible refine wo_nil ?_ | ((with_reducible refine wo_any ?_); first | ((with_reducible refine ik_move ?_); refine wo_op rfl (op_move rfl) rfl rfl ?_) | ((with_reducible refine ik_bin ?_); refine wo_op rfl (op_eql rfl rfl) rfl rfl ?_)) | ((with_reducible refine xk_any ?_); ((with_reducible refine xk_as0 ?_); first | ((with_reducible refine xk_assign ?_); refine wx_q (wt_none rfl) rfl rfl (op_q rfl (op_assign rfl)) rfl rfl rfl ?_) | ((with_reducible refine xk_load ?_); first | refine wx_h0 (wt_none rfl) rfl (op_q rfl (op_ldAgg rfl at_A Tryz.underlying43 rfl zs43 rfl rfl)) rfl rfl rfl ?_ | refine wx_h0 (wt_none rfl) rfl (op_q rfl (op_ldAgg rfl at_A Tryz.underlying67 rfl zs67 rfl rfl)) rfl rfl rfl ?_) | ((with_reducible refine xk_callv ?_); first | (refine wx_call0 (wt_none rfl) rfl rfl rfl rfl (q37 _ gr_A wf_A) rfl rfl ?_; rintro _ _ ⟨rfl, hq⟩; all_goals ((try (have hqn := hq.nx)); (try simp only [H.nx_push, H.nx_set, H.nx_bump] at hqn))) | (refine wx_call0 (wt_none rfl) rfl rfl rfl rfl ((q44 _)) rfl rfl ?_; rintro _ _ ⟨rfl, hq⟩; all_goals ((try (have hqn := hq.nx)); (try simp only [H.nx_push, H.nx_set, H.nx_bump] at hqn)))) | with_reducible refine wx_nil0 ?_ ?_)) | with_reducible exact obl_nil | with_reducible refine obl_cons ?_ ?_ | ((with_reducible refine ik_obs ?_); first | exact obs_nil | refine obs_skip rfl ?_ | refine obs_chkn rfl rfl (op_q rfl (op_ldAgg rfl at_A Tryz.underlying43 rfl zs43 (by rfl) rfl)) ?_ | refine obs_chkn rfl rfl (op_q rfl (op_ldAgg rfl at_A Tryz.underlying67 rfl zs67 (by rfl) rfl)) ?_) | with_reducible refine sq_norm ?_ | with_reducible refine wc_seq ?_ | with_reducible refine wc_region ?_ | refine wc_ift rfl ?_ | refine wc_drawB (id := 8) 5 [0, 0, 2, 7, 15] [0, 1, 2, 3, 4] (by kernel_rfl) (by kernel_rfl) rfl rfl ?_)
      all_goals exact ⟨rfl, (), within_lk ⟨rfl, rfl, rfl, rfl, rfl, rfl, rfl, rfl, rfl, rfl, rfl, trivial⟩, ⟨⟨wf_A, gr_A, at_A, at_A, at_A⟩, at_A, mR.grow gr_A, at_A, mS.grow gr_A⟩, at_A, at_A⟩
    · have hO : E = O := by rw [← hO, if_pos h0]
      subst hO
      repeat' (first | with_reducible refine wo_nil ?_ | ((with_reducible refine wo_any ?_); first | ((with_reducible refine ik_move ?_); refine wo_op rfl (op_move rfl) rfl rfl ?_) | ((with_reducible refine ik_bin ?_); refine wo_op rfl (op_eql rfl rfl) rfl rfl ?_)) | with_reducible refine sq_norm ?_ | with_reducible refine wc_seq ?_ | with_reducible refine wc_region ?_ | with_reducible refine wc_skip ?_ | (refine wc_if rfl (fun hb => dead_A hb) (fun hb => ?_); (try simp only [decide_eq_true_eq, decide_eq_false_iff_not, Bool.not_eq_true', Bool.not_eq_false', Int.not_lt, Int.not_le, Decidable.not_not, not_true_eq_false, not_false_eq_true, beq_self_eq_true, reduceCtorEq] at hb)))
      all_goals exact ⟨rfl, (), within_lk ⟨rfl, rfl, rfl, rfl, rfl, rfl, rfl, rfl, rfl, rfl, rfl, trivial⟩, ⟨⟨wf_A, gr_A, at_A, at_A, at_A⟩, at_A, mR.grow gr_A, at_A, mS.grow gr_A⟩, at_A, at_A⟩
  clear lM wb gb xb yb zb mR mS at7 at9 u1 u2 hb q37 q44
  rintro _ ha ⟨⟨⟨wa, ga, xa, ya, za⟩, at7, mR, at9, mS⟩, u1, u2⟩
  have lM := u2.lt
  refine wc_mid (ι := ByteArray × Option Addr × Nat × Nat) (fun i => [(3, .pointer (some ⟨h.nx, 0, some 0⟩)), (4, .pointer (some ⟨h.nx + 1, 0, some 0⟩)), (5, .pointer (some ⟨h.nx + 2, 0, some 0⟩)), (7, .pointer (some ⟨b7, 0, some 0⟩)), (8, .int .i64 C), (9, .pointer (some ⟨b9, 0, some 0⟩)), (10, .int .i64 D), (11, .int .i64 C), (12, .int .i64 F), (13, .pointer (some ⟨N, 0, some 0⟩)), (14, .pointer (some ⟨N + 1, 0, some 0⟩))]) (fun i h' => ((Wf h' ∧ Grow h h' ∧ At h' h.nx (.cells (shC nm a n c) 43 2 false) ∧ At h' (h.nx + 1) (.cells (shC nm' a' m c') 43 2 false) ∧ At h' (h.nx + 2) (.cells [.int .i64 x, .int .i64 y] 67 2 false)) ∧ At h' b7 (.cells (shC nmR aR nR cR) 54 2 false) ∧ MadeR G h' C nm n ZR nmR aR nR cR ∧ At h' b9 (.cells (shC nmS aS nS cS) 54 2 false) ∧ MadeR G h' D nm n YR nmS aS nS cS) ∧ (At h' N (.cells (shC i.1 i.2.1 i.2.2.1 i.2.2.2) 43 2 false) ∧ MadeR G h' C nm n ZW i.1 i.2.1 i.2.2.1 i.2.2.2) ∧ At h' (N + 1) (.cells zShot 43 2 false)) ?_ ?_
  · by_cases h0 : O = 0
    · have hz : E = 0 ∧ P = 0 := by
        by_cases z : E = 0
        · exact ⟨z, by rw [if_neg (by simp [z])] at hO; omega⟩
        · rw [if_pos z] at hO; omega
      have q45 := fun (h' : H) (g : Grow h h') (w : Wf h') => q45 h' g hz.1 hz.2 w
      subst h0
      repeat' (first | with_reducible refine wo_nil ?_ | ((with_reducible refine wo_any ?_); first | ((with_reducible refine ik_move ?_); refine wo_op rfl (op_move rfl) rfl rfl ?_) | ((with_reducible refine ik_assign ?_); refine wo_op rfl (op_assign rfl) rfl rfl ?_) | ((with_reducible refine ik_load ?_); first | refine wo_op rfl (op_ldAgg rfl at_A Tryz.underlying43 rfl zs43 rfl rfl) rfl rfl ?_ | refine wo_op rfl (op_ldAgg rfl at_A Tryz.underlying67 rfl zs67 rfl rfl) rfl rfl ?_) | ((with_reducible refine ik_extract ?_); refine wo_op rfl (op_extract rfl rfl) rfl rfl ?_) | ((with_reducible refine ik_store ?_); refine wo_op0 rfl (op_stAgg rfl rfl at_A zs54 rfl rfl rfl rfl) rfl ?_) | ((with_reducible refine ik_bin ?_); refine wo_op rfl (op_eql rfl rfl) rfl rfl ?_) | ((with_reducible refine ik_callv ?_); (refine wo_call rfl rfl rfl rfl (q45 _ gr_A wf_A) rfl rfl ?_; rintro _ _ ⟨⟨nmW, aW, nW, cW, rfl, mW⟩, hq⟩; all_goals ((try (have hqn := hq.nx)); (try simp only [H.nx_push, H.nx_set, H.nx_bump] at hqn))))) | with_reducible refine sq_norm ?_ | with_reducible refine wc_seq ?_ | with_reducible refine wc_region ?_ | refine wc_ift rfl ?_)
      all_goals exact ⟨rfl, (_, _, _, _), within_lk ⟨rfl, rfl, rfl, rfl, rfl, rfl, rfl, rfl, rfl, rfl, rfl, trivial⟩, ⟨⟨wf_A, gr_A, at_A, at_A, at_A⟩, at_A, (mR.grow gr_A).setF (Free.at (c := zShot) (e := 43) (s := false) at_A) _, at_A, (mS.grow gr_A).setF (Free.at (c := zShot) (e := 43) (s := false) at_A) _⟩, ⟨at_A, mW.setF (Free.at (c := zShot) (e := 43) (s := false) at_A) _⟩, at_A⟩
    · have hOC : O = C := by
        by_cases z : E = 0
        · rw [if_neg (by simp [z])] at hO
          rw [kS z (by omega)]; exact hO.symm
        · rw [if_pos z] at hO
          rw [kE z]; exact hO.symm
      subst hOC
      repeat' (first | with_reducible refine wo_nil ?_ | ((with_reducible refine wo_any ?_); first | ((with_reducible refine ik_move ?_); refine wo_op rfl (op_move rfl) rfl rfl ?_) | ((with_reducible refine ik_bin ?_); refine wo_op rfl (op_eql rfl rfl) rfl rfl ?_)) | with_reducible refine sq_norm ?_ | with_reducible refine wc_seq ?_ | with_reducible refine wc_region ?_ | with_reducible refine wc_skip ?_ | (refine wc_if rfl (fun hb => dead_A hb) (fun hb => ?_); (try simp only [decide_eq_true_eq, decide_eq_false_iff_not, Bool.not_eq_true', Bool.not_eq_false', Int.not_lt, Int.not_le, Decidable.not_not, not_true_eq_false, not_false_eq_true, beq_self_eq_true, reduceCtorEq] at hb)))
      all_goals exact ⟨rfl, (.empty, none, 0, 0), within_lk ⟨rfl, rfl, rfl, rfl, rfl, rfl, rfl, rfl, rfl, rfl, rfl, trivial⟩, ⟨⟨wf_A, gr_A, at_A, at_A, at_A⟩, at_A, mR.grow gr_A, at_A, mS.grow gr_A⟩, ⟨u1.grow gr_A, mO h0⟩, at_A⟩
  clear lM wa ga xa ya za mR mS at7 at9 u1 u2 ha q45 kS kE
  rintro ⟨nmW, aW, nW, cW⟩ hb ⟨⟨⟨wb, gb, xb, yb, zb⟩, at7, mR, at9, mS⟩, ⟨u1, mW⟩, u2⟩
  have lM := u2.lt
  simp only at u1 mW
  refine wc_mid (ι := ByteArray × Option Addr × Nat × Nat) (fun i => [(3, .pointer (some ⟨h.nx, 0, some 0⟩)), (4, .pointer (some ⟨h.nx + 1, 0, some 0⟩)), (5, .pointer (some ⟨h.nx + 2, 0, some 0⟩)), (7, .pointer (some ⟨b7, 0, some 0⟩)), (8, .int .i64 C), (9, .pointer (some ⟨b9, 0, some 0⟩)), (10, .int .i64 D), (11, .int .i64 C), (12, .int .i64 D), (13, .pointer (some ⟨N, 0, some 0⟩)), (14, .pointer (some ⟨N + 1, 0, some 0⟩))]) (fun i h' => ((Wf h' ∧ Grow h h' ∧ At h' h.nx (.cells (shC nm a n c) 43 2 false) ∧ At h' (h.nx + 1) (.cells (shC nm' a' m c') 43 2 false) ∧ At h' (h.nx + 2) (.cells [.int .i64 x, .int .i64 y] 67 2 false)) ∧ At h' b7 (.cells (shC nmR aR nR cR) 54 2 false) ∧ MadeR G h' C nm n ZR nmR aR nR cR ∧ At h' b9 (.cells (shC nmS aS nS cS) 54 2 false) ∧ MadeR G h' D nm n YR nmS aS nS cS) ∧ (At h' N (.cells (shC nmW aW nW cW) 43 2 false) ∧ MadeR G h' C nm n ZW nmW aW nW cW) ∧ At h' (N + 1) (.cells (shC i.1 i.2.1 i.2.2.1 i.2.2.2) 43 2 false) ∧ MadeR G h' D nm n YW i.1 i.2.1 i.2.2.1 i.2.2.2) ?_ ?_
  · by_cases h0 : F = 0
    · have hz : E = 0 ∧ E' = 0 := by
        by_cases z : E = 0
        · exact ⟨z, by rw [if_neg (by simp [z])] at hF; omega⟩
        · rw [if_pos z] at hF; omega
      have q46 := fun (h' : H) (g : Grow h h') (w : Wf h') => q46 h' g hz.1 hz.2 w
      subst h0
      repeat' (first | with_reducible refine wo_nil ?_ | ((with_reducible refine wo_any ?_); first | ((with_reducible refine ik_move ?_); refine wo_op rfl (op_move rfl) rfl rfl ?_) | ((with_reducible refine ik_assign ?_); refine wo_op rfl (op_assign rfl) rfl rfl ?_) | ((with_reducible refine ik_load ?_); refine wo_op rfl (op_ldAgg rfl at_A Tryz.underlying43 rfl zs43 rfl rfl) rfl rfl ?_) | ((with_reducible refine ik_extract ?_); refine wo_op rfl (op_extract rfl rfl) rfl rfl ?_) | ((with_reducible refine ik_store ?_); refine wo_op0 rfl (op_stAgg rfl rfl at_A zs54 rfl rfl rfl rfl) rfl ?_) | ((with_reducible refine ik_bin ?_); refine wo_op rfl (op_eql rfl rfl) rfl rfl ?_) | ((with_reducible refine ik_callv ?_); (refine wo_call rfl rfl rfl rfl (q46 _ gr_A wf_A) rfl rfl ?_; rintro _ _ ⟨⟨nmX, aX, nX, cX, rfl, mX⟩, hq⟩; all_goals ((try (have hqn := hq.nx)); (try simp only [H.nx_push, H.nx_set, H.nx_bump] at hqn))))) | with_reducible refine sq_norm ?_ | with_reducible refine wc_seq ?_ | with_reducible refine wc_region ?_ | refine wc_ift rfl ?_)
      all_goals exact ⟨rfl, (_, _, _, _), within_lk ⟨rfl, rfl, rfl, rfl, rfl, rfl, rfl, rfl, rfl, rfl, rfl, trivial⟩, ⟨⟨wf_A, gr_A, at_A, at_A, at_A⟩, at_A, (mR.grow gr_A).setF (Free.at (c := zShot) (e := 43) (s := false) at_A) _, at_A, (mS.grow gr_A).setF (Free.at (c := zShot) (e := 43) (s := false) at_A) _⟩, ⟨at_A, (mW.grow gr_A).setF (Free.at (c := zShot) (e := 43) (s := false) at_A) _⟩, at_A, mX.setF (Free.at (c := zShot) (e := 43) (s := false) at_A) _⟩
    · have hFD : F = D := by
        rw [kJ]
        by_cases z : E = 0
        · rw [if_neg (by simp [z])] at hF ⊢
          rw [if_pos (by omega)]; exact hF.symm
        · rw [if_pos z] at hF ⊢; exact hF.symm
      subst hFD
      repeat' (first | with_reducible refine wo_nil ?_ | ((with_reducible refine wo_any ?_); first | ((with_reducible refine ik_move ?_); refine wo_op rfl (op_move rfl) rfl rfl ?_) | ((with_reducible refine ik_bin ?_); refine wo_op rfl (op_eql rfl rfl) rfl rfl ?_)) | with_reducible refine sq_norm ?_ | with_reducible refine wc_seq ?_ | with_reducible refine wc_region ?_ | with_reducible refine wc_skip ?_ | (refine wc_if rfl (fun hb => dead_A hb) (fun hb => ?_); (try simp only [decide_eq_true_eq, decide_eq_false_iff_not, Bool.not_eq_true', Bool.not_eq_false', Int.not_lt, Int.not_le, Decidable.not_not, not_true_eq_false, not_false_eq_true, beq_self_eq_true, reduceCtorEq] at hb)))
      all_goals exact ⟨rfl, (.empty, none, 0, 0), within_lk ⟨rfl, rfl, rfl, rfl, rfl, rfl, rfl, rfl, rfl, rfl, rfl, trivial⟩, ⟨⟨wf_A, gr_A, at_A, at_A, at_A⟩, at_A, mR.grow gr_A, at_A, mS.grow gr_A⟩, ⟨at_A, mW.grow gr_A⟩, u2.grow gr_A, mO h0⟩
  clear lM wb gb xb yb zb mR mS mW at7 at9 u1 u2 hb q46 kJ
  rintro ⟨nmX, aX, nX, cX⟩ ha ⟨⟨⟨wa, ga, xa, ya, za⟩, at7, mR, at9, mS⟩, ⟨u1, mW⟩, u2, mX⟩
  simp only at u2 mX
  have q47 := fun (h' : H) (g : Grow ha h') (w : Wf h') => c47m (mR.grow g) (mW.grow g) zC hn w
  have q47b := fun (h' : H) (g : Grow ha h') (w : Wf h') => c47m (mS.grow g) (mX.grow g) zD hn w
  repeat' (first | with_reducible refine wo_nil ?_ | ((with_reducible refine wo_any ?_); first | ((with_reducible refine ik_move ?_); refine wo_op rfl (op_move rfl) rfl rfl ?_) | ((with_reducible refine ik_assign ?_); refine wo_op rfl (op_assign rfl) rfl rfl ?_) | ((with_reducible refine ik_load ?_); first | refine wo_op rfl (op_ldAgg rfl at_A Tryz.underlying43 rfl zs43 rfl rfl) rfl rfl ?_ | refine wo_op rfl (op_ldAgg rfl at_A Tryz.underlying54 rfl zs54 rfl rfl) rfl rfl ?_) | ((with_reducible refine ik_pick ?_); refine wo_op rfl (op_pickt rfl rfl) rfl rfl ?_) | ((with_reducible refine ik_callv ?_); (refine wo_call rfl rfl rfl rfl (q47 _ gr_A wf_A) rfl rfl ?_; rintro _ _ ⟨rfl, hq⟩; all_goals ((try (have hqn := hq.nx)); (try simp only [H.nx_push, H.nx_set, H.nx_bump] at hqn)))) | ((with_reducible refine ik_g ?_); first | ((with_reducible refine ig_move ?_); refine wo_grun rfl rfl rfl (op_move rfl) rfl rfl ?_) | ((with_reducible refine ig_load ?_); first | refine wo_grun rfl rfl rfl (op_ldAgg rfl at_A Tryz.underlying43 rfl zs43 rfl rfl) rfl rfl ?_ | refine wo_grun rfl rfl rfl (op_ldAgg rfl at_A Tryz.underlying54 rfl zs54 rfl rfl) rfl rfl ?_) | ((with_reducible refine ig_callF (f := 16) ?_); refine wo_grun rfl rfl rfl (op_call rfl rfl (c16)) rfl rfl ?_) | ((with_reducible refine ig_callv ?_); (refine wo_gcall rfl rfl rfl rfl rfl rfl (q47b _ gr_A wf_A) rfl rfl ?_; rintro _ _ ⟨rfl, hq⟩; all_goals ((try (have hqn := hq.nx)); (try simp only [H.nx_push, H.nx_set, H.nx_bump] at hqn)))))) | with_reducible refine sq_norm ?_ | with_reducible refine wc_seq ?_ | with_reducible refine wc_region ?_ | with_reducible refine wc_ret ?_)
  all_goals exact rq1 rfl ⟨by first | rfl | simp, gr_A⟩
end Go.Proofs.YtdelgpbfdimefaaGreatDoor

/- The law of cuts: all arguments. -/
namespace Go.Proofs.YtdelgpbfdimefaaGreatDoor
open Go Go.Ab Go.Fl
variable {G : Base} {h : H}
theorem c5 {nm nm' : ByteArray} {a a' : Option Addr} {n m c c' : Nat} {ts us : List Trc} {x y : Int} (s : SlT G h (.slice a n c) n ts) (s' : SlT G h (.slice a' m c') m us) (hw : Wf h) (hG : ∀ a v, laidBase a = some v → G a = some v) : Cf (mz G) (.func (.func 5) #[] #[]) [.agg ⟨shC nm a n c⟩, .agg ⟨shC nm' a' m c'⟩, .agg ⟨[.int .i64 x, .int .i64 y]⟩] h fun r h' => r = .bool true ∧ Grow h h' := by
  by_cases h1 : shortB nm ts = true
  · by_cases h2 : shortB nm' us = true
    · obtain ⟨a1, a2, a3⟩ := short_facts s h1
      obtain ⟨b1, b2, b3⟩ := short_facts s' h2
      exact c5m s s' h1 h2 a1 b1 a2 b2 a3 b3 hw hG
    · exact c5n s s' (.inr (by simpa using h2)) hw
  · exact c5n s s' (.inl (by simpa using h1)) hw
end Go.Proofs.YtdelgpbfdimefaaGreatDoor
