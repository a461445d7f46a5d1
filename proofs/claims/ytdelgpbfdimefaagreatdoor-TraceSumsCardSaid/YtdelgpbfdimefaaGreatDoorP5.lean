/- The law TraceSums, walked. -/
import Derived.Test.YtdelgpbfdimefaaGreatDoorP4
import Derived.Test.YtdelgpbfdimefaaGreatDoorM6
set_option linter.all false
/- The law TraceSums, walked. -/
namespace Go.Proofs.YtdelgpbfdimefaaGreatDoor
open Go Go.Ab Go.Fl
attribute [local irreducible] SeqQ BlkQ LpQ RetQ Wc Wo WD WX Op1 Op1q Op1a Cf Cl From
attribute [local irreducible] Ieee.Format.order Ieee.Format.read Ieee.Format.nearest Ieee.Format.write Ieee.Format.mul Ieee.Format.div Ieee.Datum.order Ieee.Datum.integral smpE smp smpW K J U trE hdrE lchk firstNZ isNameB wid mism shE offs shortB anyLarge spanE folE rngE MadeR HeardR chC sumC sclC dlyC stkC
set_option maxRecDepth 10000
variable {G : Base} {h : H}
theorem wid_lt {ts : List Trc} (z : ∀ t ∈ ts, t.n < 1000000) : wid ts < 1000000 := by
 induction ts with
 | nil => unfold wid; omega
 | cons t us ih =>
   unfold wid
   split
   · exact ih (fun t ht => z t (List.mem_cons_of_mem _ ht))
   · exact z t List.mem_cons_self
theorem sum_z {nm nm' : ByteArray} {v : Value} {n : Nat} {ts us : List Trc} (s : SlT G h v n ts) (hC : chC (sumC nm ts nm' us) (mrgF addF us) (mskL ts us) = 0) : ∀ vs ws, ZK (mrgF addF us) (mskL ts us) vs → ZK (mrgF addF us) (mskL ts us) ws → TrsS vs ws ∧ ∀ t ∈ vs, t.n < 1000000 := by
 have h0 := (chC_zero hC).1
 have e := first3_zero (by unfold sumC at h0; exact h0)
 have vt := val_of s e.1
 refine ch_z hC fun i t ht => ?_
 obtain ⟨j, q, rfl⟩ := List.mem_iff_getElem.1 ht
 have a1 : j < ts.length := by unfold mskL at q; simp at q; omega
 have a2 : j < us.length := by unfold mskL at q; simp at q; omega
 rw [mskL_get q a1 a2]
 have b := (vt.tr _ (List.getElem_mem a1)).2.2
 unfold mrgF addF msk
 simp
 omega
theorem scl_z {nm : ByteArray} {v : Value} {n : Nat} {ts : List Trc} {x y : Int} (s : SlT G h v n ts) (hC : chC (sclC nm ts x y) (sclF x y) ts = 0) : ∀ vs ws, ZK (sclF x y) ts vs → ZK (sclF x y) ts ws → TrsS vs ws ∧ ∀ t ∈ vs, t.n < 1000000 := by
 have h0 := (chC_zero hC).1
 have e := first3_zero (by unfold sclC at h0; exact h0)
 have vt := val_of s e.1
 refine ch_z hC fun i t ht => ?_
 have b := (vt.tr _ ht).2.2
 unfold sclF
 simp
 omega
theorem del_z {nm : ByteArray} {v : Value} {n : Nat} {ts : List Trc} {x : Int} (s : SlT G h v n ts) (hC : chC (dlyC nm ts x) (dlyF x) ts = 0) : ∀ vs ws, ZK (dlyF x) ts vs → KeyAll ws ts (lstKey (dlyG x)) → TrsS vs ws ∧ ∀ t ∈ vs, t.n < 1000000 := by
 have h0 := (chC_zero hC).1
 have e := first2_zero (by unfold dlyC at h0; exact h0)
 exact dly_z (val_of s e.1)
theorem del_zero {nm : ByteArray} {v : Value} {n : Nat} {ts : List Trc} {x : Int} (s : SlT G h v n ts) (h0 : dlyC nm ts x = 0) : chC (dlyC nm ts x) (dlyF x) ts = 0 := by
 have e := first2_zero (by unfold dlyC at h0; exact h0)
 rw [h0]
 exact chC_ok (dly_bad (val_of s e.1))
theorem stk_self {nm : ByteArray} {v : Value} {n : Nat} {ts : List Trc} (s : SlT G h v n ts) (h0 : stkC nm ts = 0) : selfEq ((stkL ts (wid ts)).map smpW) := by
 unfold stkC at h0
 by_cases hE : shE nm ts = 0
 · rw [if_neg (by simp [hE])] at h0
   have vt := val_of s hE
   cases hA : anyW ts with
   | false => rw [hA] at h0; exact absurd h0 (by decide)
   | true =>
     rw [cntN_any] at hA
     have hc := of_decide_eq_true hA
     intro w hw
     obtain ⟨k, hk, rfl⟩ := List.mem_map.1 hw
     unfold stkL at hk
     obtain ⟨i, _, rfl⟩ := List.mem_map.1 hk
     exact smpW_self (stkV_le (fun t ht => (vt.tr t ht).2.2.2.2) hc)
 · rw [if_pos hE] at h0; exact absurd h0 hE
set_option maxHeartbeats 4000000 in
theorem c6n {nm nm' : ByteArray} {a a' : Option Addr} {n m c c' : Nat} {ts us : List Trc} {x y z : Int} (s : SlT G h (.slice a n c) n ts) (s' : SlT G h (.slice a' m c') m us) (hS : shortB nm ts = false ∨ shortB nm' us = false) (hw : Wf h) : Cf (mz G) (.func (.func 6) #[] #[]) [.agg ⟨shC nm a n c⟩, .agg ⟨shC nm' a' m c'⟩, .agg ⟨[.int .i64 x, .int .i64 y, .int .i64 z]⟩] h fun r h' => r = .bool true ∧ Grow h h' := by
 have q28 := fun (h' : H) (g : Grow h h') (w : Wf h') => c28 (nm := nm) (s.grow g) w
 have q28b := fun (h' : H) (g : Grow h h') (w : Wf h') => c28 (nm := nm') (s'.grow g) w
 obtain ⟨S, hS1⟩ : ∃ S, shortB nm ts = S := ⟨_, rfl⟩
 obtain ⟨S', hS2⟩ : ∃ S, shortB nm' us = S := ⟨_, rfl⟩
 rw [hS1] at q28 hS
 rw [hS2] at q28b hS
 cases S with
 | false =>
   clear hS
   refine cf_enter0 149 [.tmp 6] Tryz.func6 rfl rfl rfl rfl ?_
   repeat' (first | with_reducible refine wo_nil ?_ | ((with_reducible refine wo_any ?_); first | refine wq_A (op_move rfl) ?_ | refine wq_A (op_assign rfl) ?_ | ((with_reducible refine ik_box ?_); first | refine wq_A (op_boxAgg rfl zs43 rfl) ?_ | refine wq_A (op_boxAgg rfl zs77 rfl) ?_) | refine wq_A (op_ldAgg rfl at_A Tryz.underlying43 rfl zs43 rfl rfl) ?_ | refine wq_A (op_not rfl) ?_ | refine wq_A (op_pickt rfl rfl) ?_ | ((with_reducible refine ik_callF (f := 16) ?_); refine wq_A (op_call rfl rfl (c16)) ?_) | ((with_reducible refine ik_callv ?_); (refine wo_call rfl rfl rfl rfl (q28 _ gr_A wf_A) rfl rfl ?_; rintro _ _ ⟨rfl, hq⟩; all_goals ((try (have hqn := hq.nx)); (try simp only [nx_A] at hqn)))) | ((with_reducible refine ik_g ?_); refine wo_gskip rfl rfl rfl rfl rfl rfl ?_)) | (with_reducible first | refine sq_norm ?_ | refine wc_seq ?_ | refine wc_region ?_ | refine wc_ret ?_ | refine sq_ret ?_) | refine wc_ift rfl ?_)
   all_goals exact rq1 rfl ⟨rfl, gr_A⟩
 | true =>
   have : S' = false := by simpa using hS
   subst this
   clear hS
   refine cf_enter0 149 [.tmp 6] Tryz.func6 rfl rfl rfl rfl ?_
   repeat' (first | with_reducible refine wo_nil ?_ | ((with_reducible refine wo_any ?_); first | refine wq_A (op_move rfl) ?_ | refine wq_A (op_assign rfl) ?_ | ((with_reducible refine ik_box ?_); first | refine wq_A (op_boxAgg rfl zs43 rfl) ?_ | refine wq_A (op_boxAgg rfl zs77 rfl) ?_) | refine wq_A (op_ldAgg rfl at_A Tryz.underlying43 rfl zs43 rfl rfl) ?_ | refine wq_A (op_not rfl) ?_ | refine wq_A (op_pickf rfl rfl) ?_ | ((with_reducible refine ik_callF (f := 16) ?_); refine wq_A (op_call rfl rfl (c16)) ?_) | ((with_reducible refine ik_callv ?_); (refine wo_call rfl rfl rfl rfl (q28 _ gr_A wf_A) rfl rfl ?_; rintro _ _ ⟨rfl, hq⟩; all_goals ((try (have hqn := hq.nx)); (try simp only [nx_A] at hqn)))) | ((with_reducible refine ik_g ?_); first | refine wo_grun rfl rfl rfl (op_ldAgg rfl at_A Tryz.underlying43 rfl zs43 rfl rfl) rfl rfl ?_ | refine wo_grun rfl rfl rfl (op_not rfl) rfl rfl ?_ | ((with_reducible refine ig_callv ?_); (refine wo_gcall rfl rfl rfl rfl rfl rfl (q28b _ gr_A wf_A) rfl rfl ?_; rintro _ _ ⟨rfl, hq⟩; all_goals ((try (have hqn := hq.nx)); (try simp only [nx_A] at hqn)))))) | (with_reducible first | refine sq_norm ?_ | refine wc_seq ?_ | refine wc_region ?_ | refine wc_ret ?_ | refine sq_ret ?_) | refine wc_ift rfl ?_)
   all_goals exact rq1 rfl ⟨rfl, gr_A⟩
set_option maxHeartbeats 4000000 in
theorem c6m {nm nm' : ByteArray} {a a' : Option Addr} {n m c c' : Nat} {ts us : List Trc} {x y z : Int} (s : SlT G h (.slice a n c) n ts) (s' : SlT G h (.slice a' m c') m us) (hS : shortB nm ts = true) (hS' : shortB nm' us = true) (hw : Wf h) (hG : ∀ a v, laidBase a = some v → G a = some v) : Cf (mz G) (.func (.func 6) #[] #[]) [.agg ⟨shC nm a n c⟩, .agg ⟨shC nm' a' m c'⟩, .agg ⟨[.int .i64 x, .int .i64 y, .int .i64 z]⟩] h fun r h' => r = .bool true ∧ Grow h h' := by
 obtain ⟨hn, hl, hnm⟩ := short_facts s hS
 obtain ⟨hm, hl', hnm'⟩ := short_facts s' hS'
 have hn6 : n < 1000000 := by omega
 have hm6 : m < 1000000 := by omega
 have q28 := fun (h' : H) (g : Grow h h') (w : Wf h') => c28 (nm := nm) (s.grow g) w
 have q28b := fun (h' : H) (g : Grow h h') (w : Wf h') => c28 (nm := nm') (s'.grow g) w
 rw [hS] at q28
 rw [hS'] at q28b
 have q31 := fun (h' : H) (g : Grow h h') (w : Wf h') => c31 (nm := nm) (s.grow g) hn hl w
 have q31b := fun (h' : H) (g : Grow h h') (w : Wf h') => c31 (nm := nm') (s'.grow g) hm hl' w
 have q35 := fun (h' : H) (g : Grow h h') (w : Wf h') => c35 (nm := nm) (s.grow g) hn6 hl hnm w
 have q35b := fun (h' : H) (g : Grow h h') (w : Wf h') => c35 (nm := nm') (s'.grow g) hm6 hl' hnm' w
 have q48 := fun (h' : H) (a1 a2 : Option Addr) (c1 c2 : Nat) (vs ws : List Trc) (st : SlT G h' (.slice a1 n c1) n vs) (q : vs.map Trc.key = ts.map Trc.key) (st' : SlT G h' (.slice a2 m c2) m ws) (q' : ws.map Trc.key = us.map Trc.key) (w : Wf h') => c48m (nm := nm) (nm' := nm') st st' q q' hn hm hl hl' w hG
 have q49 := fun (h' : H) (a1 : Option Addr) (c1 : Nat) (vs : List Trc) (st : SlT G h' (.slice a1 n c1) n vs) (q : vs.map Trc.key = ts.map Trc.key) (w : Wf h') => c49m (nm := nm) (x := x) (y := y) st q hn hl w hG
 have q50 := fun (h' : H) (a1 : Option Addr) (c1 : Nat) (vs : List Trc) (st : SlT G h' (.slice a1 n c1) n vs) (q : vs.map Trc.key = ts.map Trc.key) (w : Wf h') => c50m (nm := nm) (x := z) st q hn hl w hG
 have q51 := fun (h' : H) (a1 : Option Addr) (c1 : Nat) (vs : List Trc) (st : SlT G h' (.slice a1 n c1) n vs) (q : vs.map Trc.key = ts.map Trc.key) (w : Wf h') => c51m (nm := nm) st q hn hl w hG
 have q52 := fun (h' : H) (g : Grow h h') (hE : shE nm ts = 0) (hE' : shE nm' us = 0) (w : Wf h') => c52m (nm := nm) (nm' := nm') (s.grow g) (s'.grow g) hE hE' w
 have q53 := fun (h' : H) (g : Grow h h') (hE : sclC nm ts x y = 0) (w : Wf h') => c53m (nm := nm) (s.grow g) hE w
 have q54 := fun (h' : H) (g : Grow h h') (hE : dlyC nm ts z = 0) (w : Wf h') => c54m (nm := nm) (s.grow g) hE w
 have q55 := fun (h' : H) (g : Grow h h') (hE : shE nm ts = 0) (w : Wf h') => c55m (nm := nm) (s.grow g) hE w
 have zS := sum_z (nm := nm) (nm' := nm') (us := us) s
 have zX := scl_z (nm := nm) (x := x) (y := y) s
 have zD := del_z (nm := nm) (x := z) s
 have kS := fun (q : sumC nm ts nm' us ≠ 0) => chC_E (F := mrgF addF us) (ms := mskL ts us) q
 have kX := fun (q : sclC nm ts x y ≠ 0) => chC_E (F := sclF x y) (ms := ts) q
 have kD := fun (q : dlyC nm ts z ≠ 0) => chC_E (F := dlyF z) (ms := ts) q
 have kD0 := fun (q : dlyC nm ts z = 0) => del_zero s q
 have kK : shE nm ts ≠ 0 → stkC nm ts = shE nm ts := fun q => by unfold stkC; rw [if_pos q]
 have hKs := fun (q : stkC nm ts = 0) => stk_self s q
 have hKl : ((stkL ts (wid ts)).map smpW).length < 1000000 := by have := wid_lt hl; simpa [stkL] using this
 have kF : sumC nm ts nm' us = if shE nm ts ≠ 0 then shE nm ts else if shE nm' us ≠ 0 then shE nm' us else alkE ts us := by unfold sumC; rw [first3]
 obtain ⟨ZS, hZS⟩ : ∃ Z, ZK (mrgF addF us) (mskL ts us) = Z := ⟨_, rfl⟩
 obtain ⟨ZX, hZX⟩ : ∃ Z, ZK (sclF x y) ts = Z := ⟨_, rfl⟩
 obtain ⟨ZD, hZD⟩ : ∃ Z, ZK (dlyF z) ts = Z := ⟨_, rfl⟩
 obtain ⟨ZE, hZE⟩ : ∃ Z, (fun vs : List Trc => KeyAll vs ts (lstKey (dlyG z))) = Z := ⟨_, rfl⟩
 have zD : chC (dlyC nm ts z) (dlyF z) ts = 0 → ∀ vs ws, ZD vs → ZE ws → TrsS vs ws ∧ ∀ t ∈ vs, t.n < 1000000 := by subst hZD hZE; exact zD
 rw [hZS] at q48 q52 zS
 rw [hZX] at q49 q53 zX
 rw [hZD] at q50
 rw [hZE] at q54
 clear hZS hZX hZD hZE
 obtain ⟨CS, hCS⟩ : ∃ C, chC (sumC nm ts nm' us) (mrgF addF us) (mskL ts us) = C := ⟨_, rfl⟩
 obtain ⟨CX, hCX⟩ : ∃ C, chC (sclC nm ts x y) (sclF x y) ts = C := ⟨_, rfl⟩
 obtain ⟨CD, hCD⟩ : ∃ C, chC (dlyC nm ts z) (dlyF z) ts = C := ⟨_, rfl⟩
 obtain ⟨CK, hCK⟩ : ∃ C, stkC nm ts = C := ⟨_, rfl⟩
 obtain ⟨LK, hLK⟩ : ∃ C, (stkL ts (wid ts)).map smpW = C := ⟨_, rfl⟩
 rw [hCS] at q48 q52 zS kS
 rw [hCX] at q49 q53 zX kX
 rw [hCD] at q50 zD kD kD0
 rw [hCK] at q51 q55 kK hKs
 rw [hLK] at q51 q55 hKs hKl
 clear hCS hCX hCD hCK hLK
 obtain ⟨E, hE⟩ : ∃ E, shE nm ts = E := ⟨_, rfl⟩
 obtain ⟨E', hE'⟩ : ∃ E, shE nm' us = E := ⟨_, rfl⟩
 obtain ⟨F1, hF1⟩ : ∃ F, firstNZ [E, E'] = F := ⟨_, rfl⟩
 obtain ⟨RX, hRX⟩ : ∃ F, rngE x (-1024) 1024 = F := ⟨_, rfl⟩
 obtain ⟨RY, hRY⟩ : ∃ F, rngE y 1 1024 = F := ⟨_, rfl⟩
 obtain ⟨RZ, hRZ⟩ : ∃ F, rngE z (-1024) 1024 = F := ⟨_, rfl⟩
 obtain ⟨F2, hF2⟩ : ∃ F, sclC nm ts x y = F := ⟨_, rfl⟩
 obtain ⟨F3, hF3⟩ : ∃ F, dlyC nm ts z = F := ⟨_, rfl⟩
 have eF2 : firstNZ [E, RX, RY] = F2 := by rw [← hF2]; unfold sclC; rw [hE, hRX, hRY]
 have eF3 : firstNZ [E, RZ] = F3 := by rw [← hF3]; unfold dlyC; rw [hE, hRZ]
 rw [hF2] at q53 kX
 rw [hF3] at q54 kD kD0
 rw [hE] at q35 q52 q55 kK kF
 rw [hE'] at q35b q52 kF
 have q19 := fun (h' : H) => c19 (G := G) (h := h') x (-1024) 1024
 have q19b := fun (h' : H) => c19 (G := G) (h := h') y 1 1024
 have q19c := fun (h' : H) => c19 (G := G) (h := h') z (-1024) 1024
 rw [hRX] at q19
 rw [hRY] at q19b
 rw [hRZ] at q19c
 clear hF2 hF3 hE hE' hRX hRY hRZ hl hl' hnm hnm' hS hS'
 have q18 := fun (h' : H) (b : Nat) (at' : At h' b (.cells [.int .i64 E, .int .i64 E'] 3 1 false)) => c18 (G := G) (h := h') (es := [E, E']) (n := 2) (Sl.ofAt at' rfl (Nat.le_refl _)) (by omega)
 have q18b := fun (h' : H) (b : Nat) (at' : At h' b (.cells [.int .i64 E, .int .i64 RX, .int .i64 RY] 3 1 false)) => c18 (G := G) (h := h') (es := [E, RX, RY]) (n := 3) (Sl.ofAt at' rfl (Nat.le_refl _)) (by omega)
 have q18c := fun (h' : H) (b : Nat) (at' : At h' b (.cells [.int .i64 E, .int .i64 RZ] 3 1 false)) => c18 (G := G) (h := h') (es := [E, RZ]) (n := 2) (Sl.ofAt at' rfl (Nat.le_refl _)) (by omega)
 simp only [hF1] at q18
 simp only [eF2] at q18b
 simp only [eF3] at q18c
 clear eF2 eF3
 rw [first2] at hF1
 have mO : ∀ {h' : H} {C : Int} {nm : ByteArray} {n : Nat} {Z : List Trc → Prop}, C ≠ 0 → MadeR G h' C nm n Z .empty none 0 0 := fun e => by unfold MadeR; exact .inl ⟨e, rfl, rfl, rfl, rfl⟩
 have hO : ∀ {h' : H} {C : Int} {l : List Nat}, C ≠ 0 → HeardR G h' C l (.slice none 0 0) := fun e => by unfold HeardR; exact .inl ⟨e, rfl⟩
 refine cf_enter0 149 [.tmp 6] Tryz.func6 rfl rfl rfl rfl ?_
 refine wc_mid (ι := Unit) (fun _ => [(3, .pointer (some ⟨h.nx, 0, some 0⟩)), (4, .pointer (some ⟨h.nx + 1, 0, some 0⟩)), (5, .pointer (some ⟨h.nx + 2, 0, some 0⟩))]) (fun _ h' => Wf h' ∧ Grow h h' ∧ At h' h.nx (.cells (shC nm a n c) 43 2 false) ∧ At h' (h.nx + 1) (.cells (shC nm' a' m c') 43 2 false) ∧ At h' (h.nx + 2) (.cells [.int .i64 x, .int .i64 y, .int .i64 z] 77 3 false)) ?_ ?_
 · repeat' (first | with_reducible refine wo_nil ?_ | ((with_reducible refine wo_any ?_); first | refine wq_A (op_assign rfl) ?_ | ((with_reducible refine ik_box ?_); first | refine wq_A (op_boxAgg rfl zs43 rfl) ?_ | refine wq_A (op_boxAgg rfl zs77 rfl) ?_)) | with_reducible refine wc_region ?_)
   exact ⟨rfl, (), within_lk ⟨rfl, rfl, rfl, trivial⟩, wf_A, gr_A, at_A, at_A, at_A⟩
 rintro _ ha ⟨wa, ga, xa, ya, za⟩
 refine wc_mid (ι := Unit) (fun _ => [(3, .pointer (some ⟨h.nx, 0, some 0⟩)), (4, .pointer (some ⟨h.nx + 1, 0, some 0⟩)), (5, .pointer (some ⟨h.nx + 2, 0, some 0⟩))]) (fun _ h' => Wf h' ∧ Grow h h' ∧ At h' h.nx (.cells (shC nm a n c) 43 2 false) ∧ At h' (h.nx + 1) (.cells (shC nm' a' m c') 43 2 false) ∧ At h' (h.nx + 2) (.cells [.int .i64 x, .int .i64 y, .int .i64 z] 77 3 false)) ?_ ?_
 · repeat' (first | with_reducible refine wo_nil ?_ | ((with_reducible refine wo_any ?_); first | refine wq_A (op_move rfl) ?_ | refine wq_A (op_ldAgg rfl at_A Tryz.underlying43 rfl zs43 rfl rfl) ?_ | refine wq_A (op_not rfl) ?_ | refine wq_A (op_pickf rfl rfl) ?_ | ((with_reducible refine ik_callv ?_); (refine wo_call rfl rfl rfl rfl (q28 _ gr_A wf_A) rfl rfl ?_; rintro _ _ ⟨rfl, hq⟩; all_goals ((try (have hqn := hq.nx)); (try simp only [nx_A] at hqn)))) | ((with_reducible refine ik_g ?_); first | refine wo_grun rfl rfl rfl (op_ldAgg rfl at_A Tryz.underlying43 rfl zs43 rfl rfl) rfl rfl ?_ | refine wo_grun rfl rfl rfl (op_not rfl) rfl rfl ?_ | ((with_reducible refine ig_callv ?_); (refine wo_gcall rfl rfl rfl rfl rfl rfl (q28b _ gr_A wf_A) rfl rfl ?_; rintro _ _ ⟨rfl, hq⟩; all_goals ((try (have hqn := hq.nx)); (try simp only [nx_A] at hqn)))))) | (with_reducible first | refine sq_norm ?_ | refine wc_seq ?_ | refine wc_region ?_ | refine wc_skip ?_) | refine wc_iff rfl ?_)
   exact ⟨rfl, (), within_lk ⟨rfl, rfl, rfl, trivial⟩, wf_A, gr_A, at_A, at_A, at_A⟩
 clear wa ga xa ya za ha q28 q28b
 rintro _ hb ⟨wb, gb, xb, yb, zb⟩
 have lz := zb.lt
 refine wc_mid (ι := ByteArray × Option Addr × Nat × Nat × Nat) (fun i => [(3, .pointer (some ⟨h.nx, 0, some 0⟩)), (4, .pointer (some ⟨h.nx + 1, 0, some 0⟩)), (5, .pointer (some ⟨h.nx + 2, 0, some 0⟩)), (7, .pointer (some ⟨i.2.2.2.2, 0, some 0⟩)), (8, .int .i64 CS)]) (fun i h' => (Wf h' ∧ Grow h h' ∧ At h' h.nx (.cells (shC nm a n c) 43 2 false) ∧ At h' (h.nx + 1) (.cells (shC nm' a' m c') 43 2 false) ∧ At h' (h.nx + 2) (.cells [.int .i64 x, .int .i64 y, .int .i64 z] 77 3 false)) ∧ At h' i.2.2.2.2 (.cells (shC i.1 i.2.1 i.2.2.1 i.2.2.2.1) 54 2 false) ∧ MadeR G h' CS nm n ZS i.1 i.2.1 i.2.2.1 i.2.2.2.1) ?_ ?_
 · repeat' (first | ((with_reducible refine xk_any ?_); first | ((with_reducible refine xk_as0 ?_); first | ((with_reducible refine xk_move ?_); refine wx_q (wt_none rfl) rfl rfl (op_q rfl (op_move rfl)) rfl rfl rfl ?_) | ((with_reducible refine xk_load ?_); refine wx_h0 (wt_none rfl) rfl (op_q rfl (op_ldAgg rfl at_A Tryz.underlying43 rfl zs43 rfl rfl)) rfl rfl rfl ?_) | ((with_reducible refine xk_extract ?_); refine wx_q (wt_none rfl) rfl rfl (op_q rfl (op_extract rfl rfl)) rfl rfl rfl ?_) | ((with_reducible refine xk_alloc ?_); refine wx_a0 (wt_none rfl) rfl (oa_alloc zz54 zs54 rfl rfl rfl) rfl rfl ?_) | ((with_reducible refine xk_callv ?_); first | (refine wx_call0 (wt_none rfl) rfl rfl rfl rfl (q31 _ gr_A wf_A) rfl rfl ?_; rintro _ _ ⟨⟨a1, c1, vs, rfl, su, hk⟩, hq⟩; all_goals ((try (have hqn := hq.nx)); (try simp only [nx_A] at hqn))) | (refine wx_call0 (wt_none rfl) rfl rfl rfl rfl (q31b _ gr_A wf_A) rfl rfl ?_; rintro _ _ ⟨⟨a2, c2, ws, rfl, sv, hk'⟩, hq⟩; all_goals ((try (have hqn := hq.nx)); (try simp only [nx_A] at hqn))) | (refine wx_call0 (wt_none rfl) rfl rfl rfl rfl (q48 _ _ _ _ _ _ _ (su.grow gr_A) hk (sv.grow gr_A) hk' wf_A) rfl rfl ?_; rintro _ _ ⟨⟨nmR, aR, nR, cR, rfl, mR⟩, hq⟩; all_goals ((try (have hqn := hq.nx)); (try simp only [nx_A] at hqn))))) | ((with_reducible refine xk_assign ?_); refine wx_q (wt_none rfl) rfl rfl (op_q rfl (op_assign rfl)) rfl rfl rfl ?_) | ((with_reducible refine xk_store ?_); ((with_reducible refine xk_as1 ?_); refine wx_e01 (wt_none rfl) rfl rfl rfl (op_stAgg rfl rfl at_A zs54 rfl rfl rfl rfl) rfl ?_)) | refine wx_niln ?_ ?_ rfl rfl ?_) | with_reducible exact obl_nil | with_reducible refine obl_cons ?_ ?_ | ((with_reducible refine ik_obs ?_); first | exact obs_nil | refine obs_skip rfl ?_ | refine obs_chkn rfl rfl (op_q rfl (op_ldAgg rfl at_A Tryz.underlying43 rfl zs43 (by rfl) rfl)) ?_) | with_reducible exact stk_nil | with_reducible refine stk_cons ?_ ?_ | ((with_reducible refine ik_stk ?_); first | exact stk_abs rfl rfl | exact stk_freeB rfl rfl wf_A gr_B) | refine wc_drawB (id := 3) 11 [0, 1, 0, 7, 15, 31, 63, 63, 0, 383, 1023] [0, 1, 2, 3, 4, 5, 6, 7, 8, 9, 10] (by kernel_rfl) (by kernel_rfl) rfl rfl ?_)
   exact ⟨rfl, (_, _, _, _, _), within_lk ⟨rfl, rfl, rfl, rfl, rfl, trivial⟩, ⟨wf_A, gr_A, at_A, at_A, at_A⟩, at_A, (mR.setF (Free.new (i := 8) wb gr_A (by omega)) _).setF (Free.at (c := zShot) (e := 54) (s := false) at_A) _⟩
 clear lz hb wb gb xb yb zb q48
 rintro ⟨nmS, aS, nS, cS, bS⟩ ha ⟨⟨wa, ga, xa, ya, za⟩, tS, mS⟩
 simp only at tS mS
 have lz := za.lt
 have lS := tS.lt
 refine wc_mid (ι := ByteArray × Option Addr × Nat × Nat × Nat) (fun i => [(3, .pointer (some ⟨h.nx, 0, some 0⟩)), (4, .pointer (some ⟨h.nx + 1, 0, some 0⟩)), (5, .pointer (some ⟨h.nx + 2, 0, some 0⟩)), (7, .pointer (some ⟨bS, 0, some 0⟩)), (8, .int .i64 CS), (9, .pointer (some ⟨i.2.2.2.2, 0, some 0⟩)), (10, .int .i64 CX)]) (fun i h' => (Wf h' ∧ Grow h h' ∧ At h' h.nx (.cells (shC nm a n c) 43 2 false) ∧ At h' (h.nx + 1) (.cells (shC nm' a' m c') 43 2 false) ∧ At h' (h.nx + 2) (.cells [.int .i64 x, .int .i64 y, .int .i64 z] 77 3 false)) ∧ At h' bS (.cells (shC nmS aS nS cS) 54 2 false) ∧ MadeR G h' CS nm n ZS nmS aS nS cS ∧ At h' i.2.2.2.2 (.cells (shC i.1 i.2.1 i.2.2.1 i.2.2.2.1) 54 2 false) ∧ MadeR G h' CX nm n ZX i.1 i.2.1 i.2.2.1 i.2.2.2.1) ?_ ?_
 · repeat' (first | ((with_reducible refine xk_any ?_); first | ((with_reducible refine xk_as0 ?_); first | ((with_reducible refine xk_move ?_); refine wx_q (wt_none rfl) rfl rfl (op_q rfl (op_move rfl)) rfl rfl rfl ?_) | ((with_reducible refine xk_load ?_); first | refine wx_h0 (wt_none rfl) rfl (op_q rfl (op_ldAgg rfl at_A Tryz.underlying43 rfl zs43 rfl rfl)) rfl rfl rfl ?_ | refine wx_h0 (wt_none rfl) rfl (op_q rfl (op_ldAt rfl at_A Tryz.underlying3 rfl rfl)) rfl rfl rfl ?_) | ((with_reducible refine xk_extract ?_); refine wx_q (wt_none rfl) rfl rfl (op_q rfl (op_extract rfl rfl)) rfl rfl rfl ?_) | ((with_reducible refine xk_alloc ?_); refine wx_a0 (wt_none rfl) rfl (oa_alloc zz54 zs54 rfl rfl rfl) rfl rfl ?_) | ((with_reducible refine xk_indexAddr ?_); refine wx_q (wt_none rfl) rfl rfl (op_q rfl (op_idxArr' rfl rfl Tryz.underlying77 zs3 (by omega) (by omega))) rfl rfl rfl ?_) | ((with_reducible refine xk_callv ?_); first | (refine wx_call0 (wt_none rfl) rfl rfl rfl rfl (q31 _ gr_A wf_A) rfl rfl ?_; rintro _ _ ⟨⟨a1, c1, vs, rfl, su, hk⟩, hq⟩; all_goals ((try (have hqn := hq.nx)); (try simp only [nx_A] at hqn))) | (refine wx_call0 (wt_none rfl) rfl rfl rfl rfl (q49 _ _ _ _ su hk wf_A) rfl rfl ?_; rintro _ _ ⟨⟨nmR, aR, nR, cR, rfl, mR⟩, hq⟩; all_goals ((try (have hqn := hq.nx)); (try simp only [nx_A] at hqn))))) | ((with_reducible refine xk_assign ?_); refine wx_q (wt_none rfl) rfl rfl (op_q rfl (op_assign rfl)) rfl rfl rfl ?_) | ((with_reducible refine xk_store ?_); ((with_reducible refine xk_as1 ?_); refine wx_e01 (wt_none rfl) rfl rfl rfl (op_stAgg rfl rfl at_A zs54 rfl rfl rfl rfl) rfl ?_)) | refine wx_niln ?_ ?_ rfl rfl ?_) | with_reducible exact obl_nil | with_reducible refine obl_cons ?_ ?_ | ((with_reducible refine ik_obs ?_); first | exact obs_nil | refine obs_skip rfl ?_ | refine obs_chkn rfl rfl (op_q rfl (op_ldAgg rfl at_A Tryz.underlying43 rfl zs43 (by rfl) rfl)) ?_ | refine obs_chkn rfl rfl (op_q rfl (op_ldAt rfl at_A Tryz.underlying3 rfl (by rfl))) ?_) | with_reducible exact stk_nil | with_reducible refine stk_cons ?_ ?_ | ((with_reducible refine ik_stk ?_); first | exact stk_abs rfl rfl | exact stk_freeB rfl rfl wf_A gr_B) | refine wc_drawB (id := 4) 13 [0, 1, 0, 4, 0, 16, 63, 127, 255, 255, 0, 1535, 4095] [0, 1, 2, 3, 4, 5, 6, 7, 8, 9, 10, 11, 12] (by kernel_rfl) (by kernel_rfl) rfl rfl ?_)
   exact ⟨rfl, (_, _, _, _, _), within_lk ⟨rfl, rfl, rfl, rfl, rfl, rfl, rfl, trivial⟩, ⟨wf_A, gr_A, at_A, at_A, at_A⟩, at_A, mS.grow gr_A, at_A, (mR.setF (Free.new (i := 10) wa gr_A (by omega)) _).setF (Free.at (c := zShot) (e := 54) (s := false) at_A) _⟩
 clear lz lS ha wa ga xa ya za tS mS q49 q31b
 rintro ⟨nmX, aX, nX, cX, bX⟩ hb ⟨⟨wb, gb, xb, yb, zb⟩, tS, mS, tX, mX⟩
 simp only at tX mX
 have lz := zb.lt
 have lS := tS.lt
 have lX := tX.lt
 refine wc_mid (ι := ByteArray × Option Addr × Nat × Nat × Nat) (fun i => [(3, .pointer (some ⟨h.nx, 0, some 0⟩)), (4, .pointer (some ⟨h.nx + 1, 0, some 0⟩)), (5, .pointer (some ⟨h.nx + 2, 0, some 0⟩)), (7, .pointer (some ⟨bS, 0, some 0⟩)), (8, .int .i64 CS), (9, .pointer (some ⟨bX, 0, some 0⟩)), (10, .int .i64 CX), (11, .pointer (some ⟨i.2.2.2.2, 0, some 0⟩)), (12, .int .i64 CD)]) (fun i h' => (Wf h' ∧ Grow h h' ∧ At h' h.nx (.cells (shC nm a n c) 43 2 false) ∧ At h' (h.nx + 1) (.cells (shC nm' a' m c') 43 2 false) ∧ At h' (h.nx + 2) (.cells [.int .i64 x, .int .i64 y, .int .i64 z] 77 3 false)) ∧ At h' bS (.cells (shC nmS aS nS cS) 54 2 false) ∧ MadeR G h' CS nm n ZS nmS aS nS cS ∧ At h' bX (.cells (shC nmX aX nX cX) 54 2 false) ∧ MadeR G h' CX nm n ZX nmX aX nX cX ∧ At h' i.2.2.2.2 (.cells (shC i.1 i.2.1 i.2.2.1 i.2.2.2.1) 54 2 false) ∧ MadeR G h' CD nm n ZD i.1 i.2.1 i.2.2.1 i.2.2.2.1) ?_ ?_
 · repeat' (first | ((with_reducible refine xk_any ?_); first | ((with_reducible refine xk_as0 ?_); first | ((with_reducible refine xk_move ?_); refine wx_q (wt_none rfl) rfl rfl (op_q rfl (op_move rfl)) rfl rfl rfl ?_) | ((with_reducible refine xk_load ?_); first | refine wx_h0 (wt_none rfl) rfl (op_q rfl (op_ldAgg rfl at_A Tryz.underlying43 rfl zs43 rfl rfl)) rfl rfl rfl ?_ | refine wx_h0 (wt_none rfl) rfl (op_q rfl (op_ldAt rfl at_A Tryz.underlying3 rfl rfl)) rfl rfl rfl ?_) | ((with_reducible refine xk_extract ?_); refine wx_q (wt_none rfl) rfl rfl (op_q rfl (op_extract rfl rfl)) rfl rfl rfl ?_) | ((with_reducible refine xk_alloc ?_); refine wx_a0 (wt_none rfl) rfl (oa_alloc zz54 zs54 rfl rfl rfl) rfl rfl ?_) | ((with_reducible refine xk_indexAddr ?_); refine wx_q (wt_none rfl) rfl rfl (op_q rfl (op_idxArr' rfl rfl Tryz.underlying77 zs3 (by omega) (by omega))) rfl rfl rfl ?_) | ((with_reducible refine xk_callv ?_); first | (refine wx_call0 (wt_none rfl) rfl rfl rfl rfl (q31 _ gr_A wf_A) rfl rfl ?_; rintro _ _ ⟨⟨a1, c1, vs, rfl, su, hk⟩, hq⟩; all_goals ((try (have hqn := hq.nx)); (try simp only [nx_A] at hqn))) | (refine wx_call0 (wt_none rfl) rfl rfl rfl rfl (q50 _ _ _ _ su hk wf_A) rfl rfl ?_; rintro _ _ ⟨⟨nmR, aR, nR, cR, rfl, mR⟩, hq⟩; all_goals ((try (have hqn := hq.nx)); (try simp only [nx_A] at hqn))))) | ((with_reducible refine xk_assign ?_); refine wx_q (wt_none rfl) rfl rfl (op_q rfl (op_assign rfl)) rfl rfl rfl ?_) | ((with_reducible refine xk_store ?_); ((with_reducible refine xk_as1 ?_); refine wx_e01 (wt_none rfl) rfl rfl rfl (op_stAgg rfl rfl at_A zs54 rfl rfl rfl rfl) rfl ?_)) | refine wx_niln ?_ ?_ rfl rfl ?_) | with_reducible exact obl_nil | with_reducible refine obl_cons ?_ ?_ | ((with_reducible refine ik_obs ?_); first | exact obs_nil | refine obs_skip rfl ?_ | refine obs_chkn rfl rfl (op_q rfl (op_ldAgg rfl at_A Tryz.underlying43 rfl zs43 (by rfl) rfl)) ?_ | refine obs_chkn rfl rfl (op_q rfl (op_ldAt rfl at_A Tryz.underlying3 rfl (by rfl))) ?_) | with_reducible exact stk_nil | with_reducible refine stk_cons ?_ ?_ | ((with_reducible refine ik_stk ?_); first | exact stk_abs rfl rfl | exact stk_freeB rfl rfl wf_A gr_B) | refine wc_drawB (id := 5) 11 [0, 1, 0, 4, 15, 31, 63, 63, 0, 383, 1023] [0, 1, 2, 3, 4, 5, 6, 7, 8, 9, 10] (by kernel_rfl) (by kernel_rfl) rfl rfl ?_)
   exact ⟨rfl, (_, _, _, _, _), within_lk ⟨rfl, rfl, rfl, rfl, rfl, rfl, rfl, rfl, rfl, trivial⟩, ⟨wf_A, gr_A, at_A, at_A, at_A⟩, at_A, mS.grow gr_A, at_A, mX.grow gr_A, at_A, (mR.setF (Free.new (i := 8) wb gr_A (by omega)) _).setF (Free.at (c := zShot) (e := 54) (s := false) at_A) _⟩
 clear lz lS lX hb wb gb xb yb zb tS mS tX mX q50
 rintro ⟨nmD, aD, nD, cD, bD⟩ ha ⟨⟨wa, ga, xa, ya, za⟩, tS, mS, tX, mX, tD, mD⟩
 simp only at tD mD
 have lz := za.lt
 have lS := tS.lt
 have lX := tX.lt
 have lD := tD.lt
 refine wc_mid (ι := Option Addr × Nat × Nat) (fun i => [(3, .pointer (some ⟨h.nx, 0, some 0⟩)), (4, .pointer (some ⟨h.nx + 1, 0, some 0⟩)), (5, .pointer (some ⟨h.nx + 2, 0, some 0⟩)), (7, .pointer (some ⟨bS, 0, some 0⟩)), (8, .int .i64 CS), (9, .pointer (some ⟨bX, 0, some 0⟩)), (10, .int .i64 CX), (11, .pointer (some ⟨bD, 0, some 0⟩)), (12, .int .i64 CD), (13, .slice i.1 i.2.1 i.2.2), (14, .int .i64 CK)]) (fun i h' => (Wf h' ∧ Grow h h' ∧ At h' h.nx (.cells (shC nm a n c) 43 2 false) ∧ At h' (h.nx + 1) (.cells (shC nm' a' m c') 43 2 false) ∧ At h' (h.nx + 2) (.cells [.int .i64 x, .int .i64 y, .int .i64 z] 77 3 false)) ∧ At h' bS (.cells (shC nmS aS nS cS) 54 2 false) ∧ MadeR G h' CS nm n ZS nmS aS nS cS ∧ At h' bX (.cells (shC nmX aX nX cX) 54 2 false) ∧ MadeR G h' CX nm n ZX nmX aX nX cX ∧ At h' bD (.cells (shC nmD aD nD cD) 54 2 false) ∧ MadeR G h' CD nm n ZD nmD aD nD cD ∧ HeardR G h' CK LK (.slice i.1 i.2.1 i.2.2)) ?_ ?_
 · repeat' (first | with_reducible refine wo_nil ?_ | ((with_reducible refine wo_any ?_); first | refine wq_A (op_move rfl) ?_ | refine wq_A (op_assign rfl) ?_ | refine wq_A (op_ldAgg rfl at_A Tryz.underlying43 rfl zs43 rfl rfl) ?_ | refine wq_A (op_extract rfl rfl) ?_ | ((with_reducible refine ik_callv ?_); first | (refine wo_call rfl rfl rfl rfl (q31 _ gr_A wf_A) rfl rfl ?_; rintro _ _ ⟨⟨a1, c1, vs, rfl, su, hk⟩, hq⟩; all_goals ((try (have hqn := hq.nx)); (try simp only [nx_A] at hqn))) | (refine wo_call rfl rfl rfl rfl (q51 _ _ _ _ su hk wf_A) rfl rfl ?_; rintro _ _ ⟨⟨aR, nR, cR, rfl, mR⟩, hq⟩; all_goals ((try (have hqn := hq.nx)); (try simp only [nx_A] at hqn))))) | with_reducible refine wc_region ?_)
   exact ⟨rfl, (_, _, _), within_lk ⟨rfl, rfl, rfl, rfl, rfl, rfl, rfl, rfl, rfl, rfl, rfl, trivial⟩, ⟨wf_A, gr_A, at_A, at_A, at_A⟩, at_A, mS.grow gr_A, at_A, mX.grow gr_A, at_A, mD.grow gr_A, mR.grow gr_A⟩
 clear lz lS lX lD ha wa ga xa ya za tS mS tX mX tD mD q51 q31
 rintro ⟨aK, nK, cK⟩ hb ⟨⟨wb, gb, xb, yb, zb⟩, tS, mS, tX, mX, tD, mD, mK⟩
 simp only at mK
 have lz := zb.lt
 have lS := tS.lt
 have lX := tX.lt
 have lD := tD.lt
 refine wc_mid (ι := Unit) (fun _ => [(3, .pointer (some ⟨h.nx, 0, some 0⟩)), (4, .pointer (some ⟨h.nx + 1, 0, some 0⟩)), (5, .pointer (some ⟨h.nx + 2, 0, some 0⟩)), (7, .pointer (some ⟨bS, 0, some 0⟩)), (8, .int .i64 CS), (9, .pointer (some ⟨bX, 0, some 0⟩)), (10, .int .i64 CX), (11, .pointer (some ⟨bD, 0, some 0⟩)), (12, .int .i64 CD), (13, .slice aK nK cK), (14, .int .i64 CK), (15, .int .i64 E)]) (fun _ h' => (Wf h' ∧ Grow h h' ∧ At h' h.nx (.cells (shC nm a n c) 43 2 false) ∧ At h' (h.nx + 1) (.cells (shC nm' a' m c') 43 2 false) ∧ At h' (h.nx + 2) (.cells [.int .i64 x, .int .i64 y, .int .i64 z] 77 3 false)) ∧ At h' bS (.cells (shC nmS aS nS cS) 54 2 false) ∧ MadeR G h' CS nm n ZS nmS aS nS cS ∧ At h' bX (.cells (shC nmX aX nX cX) 54 2 false) ∧ MadeR G h' CX nm n ZX nmX aX nX cX ∧ At h' bD (.cells (shC nmD aD nD cD) 54 2 false) ∧ MadeR G h' CD nm n ZD nmD aD nD cD ∧ HeardR G h' CK LK (.slice aK nK cK)) ?_ ?_
 · repeat' (first | with_reducible refine wo_nil ?_ | ((with_reducible refine wo_any ?_); first | refine wq_A (op_assign rfl) ?_ | refine wq_A (op_ldAgg rfl at_A Tryz.underlying43 rfl zs43 rfl rfl) ?_ | ((with_reducible refine ik_callv ?_); (refine wo_call rfl rfl rfl rfl (q35 _ gr_A wf_A) rfl rfl ?_; rintro _ _ ⟨rfl, hq⟩; all_goals ((try (have hqn := hq.nx)); (try simp only [nx_A] at hqn))))) | with_reducible refine wc_region ?_)
   exact ⟨rfl, (), within_lk ⟨rfl, rfl, rfl, rfl, rfl, rfl, rfl, rfl, rfl, rfl, rfl, rfl, trivial⟩, ⟨wf_A, gr_A, at_A, at_A, at_A⟩, at_A, mS.grow gr_A, at_A, mX.grow gr_A, at_A, mD.grow gr_A, mK.grow gr_A⟩
 clear lz lS lX lD hb wb gb xb yb zb tS mS tX mX tD mD mK q35
 rintro _ ha ⟨⟨wa, ga, xa, ya, za⟩, tS, mS, tX, mX, tD, mD, mK⟩
 have lz := za.lt
 have lS := tS.lt
 have lX := tX.lt
 have lD := tD.lt
 refine wc_mid (ι := Unit) (fun _ => [(3, .pointer (some ⟨h.nx, 0, some 0⟩)), (4, .pointer (some ⟨h.nx + 1, 0, some 0⟩)), (5, .pointer (some ⟨h.nx + 2, 0, some 0⟩)), (7, .pointer (some ⟨bS, 0, some 0⟩)), (8, .int .i64 CS), (9, .pointer (some ⟨bX, 0, some 0⟩)), (10, .int .i64 CX), (11, .pointer (some ⟨bD, 0, some 0⟩)), (12, .int .i64 CD), (13, .slice aK nK cK), (14, .int .i64 CK), (15, .int .i64 E), (16, .int .i64 F1), (17, .int .i64 E)]) (fun _ h' => (Wf h' ∧ Grow h h' ∧ At h' h.nx (.cells (shC nm a n c) 43 2 false) ∧ At h' (h.nx + 1) (.cells (shC nm' a' m c') 43 2 false) ∧ At h' (h.nx + 2) (.cells [.int .i64 x, .int .i64 y, .int .i64 z] 77 3 false)) ∧ At h' bS (.cells (shC nmS aS nS cS) 54 2 false) ∧ MadeR G h' CS nm n ZS nmS aS nS cS ∧ At h' bX (.cells (shC nmX aX nX cX) 54 2 false) ∧ MadeR G h' CX nm n ZX nmX aX nX cX ∧ At h' bD (.cells (shC nmD aD nD cD) 54 2 false) ∧ MadeR G h' CD nm n ZD nmD aD nD cD ∧ HeardR G h' CK LK (.slice aK nK cK)) ?_ ?_
 · repeat' (first | with_reducible refine wo_nil ?_ | ((with_reducible refine wo_any ?_); first | refine wq_A (op_move rfl) ?_ | refine wq_A (op_assign rfl) ?_ | refine wq_A (op_ldAgg rfl at_A Tryz.underlying43 rfl zs43 rfl rfl) ?_ | refine wq_A (op_buildSl rfl Tryz.underlying25 zs3 zz3 rfl rfl) ?_ | ((with_reducible refine ik_callv ?_); first | refine wq_A (op_call rfl rfl (q18 _ _ at_A)) ?_ | (refine wo_call rfl rfl rfl rfl (q35b _ gr_A wf_A) rfl rfl ?_; rintro _ _ ⟨rfl, hq⟩; all_goals ((try (have hqn := hq.nx)); (try simp only [nx_A] at hqn))))) | with_reducible refine wc_region ?_)
   exact ⟨rfl, (), within_lk ⟨rfl, rfl, rfl, rfl, rfl, rfl, rfl, rfl, rfl, rfl, rfl, rfl, rfl, rfl, trivial⟩, ⟨wf_A, gr_A, at_A, at_A, at_A⟩, at_A, mS.grow gr_A, at_A, mX.grow gr_A, at_A, mD.grow gr_A, mK.grow gr_A⟩
 clear lz lS lX lD ha wa ga xa ya za tS mS tX mX tD mD mK q35b q18
 rintro _ hb ⟨⟨wb, gb, xb, yb, zb⟩, tS, mS, tX, mX, tD, mD, mK⟩
 have lz := zb.lt
 have lS := tS.lt
 have lX := tX.lt
 have lD := tD.lt
 refine wc_mid (ι := Unit) (fun _ => [(3, .pointer (some ⟨h.nx, 0, some 0⟩)), (4, .pointer (some ⟨h.nx + 1, 0, some 0⟩)), (5, .pointer (some ⟨h.nx + 2, 0, some 0⟩)), (7, .pointer (some ⟨bS, 0, some 0⟩)), (8, .int .i64 CS), (9, .pointer (some ⟨bX, 0, some 0⟩)), (10, .int .i64 CX), (11, .pointer (some ⟨bD, 0, some 0⟩)), (12, .int .i64 CD), (13, .slice aK nK cK), (14, .int .i64 CK), (15, .int .i64 E), (16, .int .i64 F1), (17, .int .i64 E), (18, .int .i64 F2)]) (fun _ h' => (Wf h' ∧ Grow h h' ∧ At h' h.nx (.cells (shC nm a n c) 43 2 false) ∧ At h' (h.nx + 1) (.cells (shC nm' a' m c') 43 2 false) ∧ At h' (h.nx + 2) (.cells [.int .i64 x, .int .i64 y, .int .i64 z] 77 3 false)) ∧ At h' bS (.cells (shC nmS aS nS cS) 54 2 false) ∧ MadeR G h' CS nm n ZS nmS aS nS cS ∧ At h' bX (.cells (shC nmX aX nX cX) 54 2 false) ∧ MadeR G h' CX nm n ZX nmX aX nX cX ∧ At h' bD (.cells (shC nmD aD nD cD) 54 2 false) ∧ MadeR G h' CD nm n ZD nmD aD nD cD ∧ HeardR G h' CK LK (.slice aK nK cK)) ?_ ?_
 · repeat' (first | ((with_reducible refine xk_any ?_); first | ((with_reducible refine xk_as0 ?_); first | ((with_reducible refine xk_move ?_); refine wx_q (wt_none rfl) rfl rfl (op_q rfl (op_move rfl)) rfl rfl rfl ?_) | ((with_reducible refine xk_load ?_); refine wx_h0 (wt_none rfl) rfl (op_q rfl (op_ldAt rfl at_A Tryz.underlying3 rfl rfl)) rfl rfl rfl ?_) | ((with_reducible refine xk_indexAddr ?_); refine wx_q (wt_none rfl) rfl rfl (op_q rfl (op_idxArr' rfl rfl Tryz.underlying77 zs3 (by omega) (by omega))) rfl rfl rfl ?_) | ((with_reducible refine xk_buildSlice ?_); refine wx_a0 (wt_none rfl) rfl (oa_buildSlice rfl Tryz.underlying25 zs3 zz3 rfl rfl) rfl rfl ?_) | ((with_reducible refine xk_callv ?_); first | refine wx_ee (wt_none rfl) rfl rfl (op_call rfl rfl (q19 _)) rfl rfl ?_ | refine wx_ee (wt_none rfl) rfl rfl (op_call rfl rfl (q19b _)) rfl rfl ?_)) | ((with_reducible refine xk_assign ?_); refine wx_q (wt_none rfl) rfl rfl (op_q rfl (op_assign rfl)) rfl rfl rfl ?_) | ((with_reducible refine xk_callv ?_); ((with_reducible refine xk_as1 ?_); refine wx_e1 (wt_none rfl) rfl rfl rfl (op_call rfl rfl (q18b _ _ at_A)) rfl rfl ?_)) | refine wx_niln ?_ ?_ rfl rfl ?_) | with_reducible exact obl_nil | with_reducible refine obl_cons ?_ ?_ | ((with_reducible refine ik_obs ?_); first | exact obs_nil | refine obs_skip rfl ?_ | refine obs_chkn rfl rfl (op_q rfl (op_ldAt rfl at_A Tryz.underlying3 rfl (by rfl))) ?_) | with_reducible exact stk_nil | with_reducible refine stk_cons ?_ ?_ | ((with_reducible refine ik_stk ?_); first | exact stk_abs rfl rfl | exact stk_freeB rfl rfl wf_A gr_B) | refine wc_drawB (id := 9) 10 [0, 0, 2, 6, 0, 16, 62, 127, 255, 511] [0, 1, 2, 3, 4, 5, 6, 7, 8, 9] (by kernel_rfl) (by kernel_rfl) rfl rfl ?_)
   exact ⟨rfl, (), within_lk ⟨rfl, rfl, rfl, rfl, rfl, rfl, rfl, rfl, rfl, rfl, rfl, rfl, rfl, rfl, rfl, trivial⟩, ⟨wf_A, gr_A, at_A, at_A, at_A⟩, at_A, mS.grow gr_A, at_A, mX.grow gr_A, at_A, mD.grow gr_A, mK.grow gr_A⟩
 clear lz lS lX lD hb wb gb xb yb zb tS mS tX mX tD mD mK q19 q19b q18b
 rintro _ ha ⟨⟨wa, ga, xa, ya, za⟩, tS, mS, tX, mX, tD, mD, mK⟩
 have lz := za.lt
 have lS := tS.lt
 have lX := tX.lt
 have lD := tD.lt
 refine wc_mid (ι := Unit) (fun _ => [(3, .pointer (some ⟨h.nx, 0, some 0⟩)), (4, .pointer (some ⟨h.nx + 1, 0, some 0⟩)), (5, .pointer (some ⟨h.nx + 2, 0, some 0⟩)), (7, .pointer (some ⟨bS, 0, some 0⟩)), (8, .int .i64 CS), (9, .pointer (some ⟨bX, 0, some 0⟩)), (10, .int .i64 CX), (11, .pointer (some ⟨bD, 0, some 0⟩)), (12, .int .i64 CD), (13, .slice aK nK cK), (14, .int .i64 CK), (15, .int .i64 E), (16, .int .i64 F1), (17, .int .i64 E), (18, .int .i64 F2), (19, .int .i64 F3)]) (fun _ h' => (Wf h' ∧ Grow h h' ∧ At h' h.nx (.cells (shC nm a n c) 43 2 false) ∧ At h' (h.nx + 1) (.cells (shC nm' a' m c') 43 2 false) ∧ At h' (h.nx + 2) (.cells [.int .i64 x, .int .i64 y, .int .i64 z] 77 3 false)) ∧ At h' bS (.cells (shC nmS aS nS cS) 54 2 false) ∧ MadeR G h' CS nm n ZS nmS aS nS cS ∧ At h' bX (.cells (shC nmX aX nX cX) 54 2 false) ∧ MadeR G h' CX nm n ZX nmX aX nX cX ∧ At h' bD (.cells (shC nmD aD nD cD) 54 2 false) ∧ MadeR G h' CD nm n ZD nmD aD nD cD ∧ HeardR G h' CK LK (.slice aK nK cK)) ?_ ?_
 · repeat' (first | with_reducible refine wo_nil ?_ | ((with_reducible refine wo_any ?_); first | refine wq_A (op_move rfl) ?_ | refine wq_A (op_assign rfl) ?_ | refine wq_A (op_ldAt rfl at_A Tryz.underlying3 rfl rfl) ?_ | refine wq_A (op_idxArr' rfl rfl Tryz.underlying77 zs3 (by omega) (by omega)) ?_ | refine wq_A (op_buildSl rfl Tryz.underlying25 zs3 zz3 rfl rfl) ?_ | ((with_reducible refine ik_callv ?_); first | refine wq_A (op_call rfl rfl (q19c _)) ?_ | refine wq_A (op_call rfl rfl (q18c _ _ at_A)) ?_)) | with_reducible refine wc_region ?_)
   exact ⟨rfl, (), within_lk ⟨rfl, rfl, rfl, rfl, rfl, rfl, rfl, rfl, rfl, rfl, rfl, rfl, rfl, rfl, rfl, rfl, trivial⟩, ⟨wf_A, gr_A, at_A, at_A, at_A⟩, at_A, mS.grow gr_A, at_A, mX.grow gr_A, at_A, mD.grow gr_A, mK.grow gr_A⟩
 clear lz lS lX lD ha wa ga xa ya za tS mS tX mX tD mD mK q19c q18c
 rintro _ hb ⟨⟨wb, gb, xb, yb, zb⟩, tS, mS, tX, mX, tD, mD, mK⟩
 have lz := zb.lt
 have lS := tS.lt
 have lX := tX.lt
 have lD := tD.lt
 obtain ⟨N, hN⟩ : ∃ N, hb.nx = N := ⟨_, rfl⟩
 refine wc_mid (ι := Unit) (fun _ => [(3, .pointer (some ⟨h.nx, 0, some 0⟩)), (4, .pointer (some ⟨h.nx + 1, 0, some 0⟩)), (5, .pointer (some ⟨h.nx + 2, 0, some 0⟩)), (7, .pointer (some ⟨bS, 0, some 0⟩)), (8, .int .i64 CS), (9, .pointer (some ⟨bX, 0, some 0⟩)), (10, .int .i64 CX), (11, .pointer (some ⟨bD, 0, some 0⟩)), (12, .int .i64 CD), (13, .slice aK nK cK), (14, .int .i64 CK), (15, .int .i64 E), (16, .int .i64 F1), (17, .int .i64 E), (18, .int .i64 F2), (19, .int .i64 F3), (20, .pointer (some ⟨N, 0, some 0⟩)), (21, .pointer (some ⟨N + 1, 0, some 0⟩)), (22, .pointer (some ⟨N + 2, 0, some 0⟩))]) (fun _ h' => (Wf h' ∧ Grow h h' ∧ At h' h.nx (.cells (shC nm a n c) 43 2 false) ∧ At h' (h.nx + 1) (.cells (shC nm' a' m c') 43 2 false) ∧ At h' (h.nx + 2) (.cells [.int .i64 x, .int .i64 y, .int .i64 z] 77 3 false)) ∧ At h' bS (.cells (shC nmS aS nS cS) 54 2 false) ∧ MadeR G h' CS nm n ZS nmS aS nS cS ∧ At h' bX (.cells (shC nmX aX nX cX) 54 2 false) ∧ MadeR G h' CX nm n ZX nmX aX nX cX ∧ At h' bD (.cells (shC nmD aD nD cD) 54 2 false) ∧ MadeR G h' CD nm n ZD nmD aD nD cD ∧ HeardR G h' CK LK (.slice aK nK cK) ∧ At h' N (.cells zShot 43 2 false) ∧ At h' (N + 1) (.cells zShot 43 2 false) ∧ At h' (N + 2) (.cells zShot 43 2 false)) ?_ ?_
 · repeat' (first | with_reducible refine wo_nil ?_ | ((with_reducible refine wo_any ?_); refine wq_A (op_alloc zz54 zs54 rfl rfl rfl) ?_) | with_reducible refine wc_region ?_)
   rw [← hN]
   exact ⟨rfl, (), within_lk ⟨rfl, rfl, rfl, rfl, rfl, rfl, rfl, rfl, rfl, rfl, rfl, rfl, rfl, rfl, rfl, rfl, rfl, rfl, rfl, trivial⟩, ⟨wf_A, gr_A, at_A, at_A, at_A⟩, at_A, mS.grow gr_A, at_A, mX.grow gr_A, at_A, mD.grow gr_A, mK.grow gr_A, at_A, at_A, at_A⟩
 rw [hN] at lz lS lX lD
 clear hN hb wb gb xb yb zb tS mS tX mX tD mD mK
 rintro _ ha ⟨⟨wa, ga, xa, ya, za⟩, tS, mS, tX, mX, tD, mD, mK, u0, u1, u2⟩
 have lM := u2.lt
 refine wc_mid (ι := Unit) (fun _ => [(3, .pointer (some ⟨h.nx, 0, some 0⟩)), (4, .pointer (some ⟨h.nx + 1, 0, some 0⟩)), (5, .pointer (some ⟨h.nx + 2, 0, some 0⟩)), (7, .pointer (some ⟨bS, 0, some 0⟩)), (8, .int .i64 CS), (9, .pointer (some ⟨bX, 0, some 0⟩)), (10, .int .i64 CX), (11, .pointer (some ⟨bD, 0, some 0⟩)), (12, .int .i64 CD), (13, .slice aK nK cK), (14, .int .i64 CK), (15, .int .i64 E), (16, .int .i64 F1), (17, .int .i64 E), (18, .int .i64 F2), (19, .int .i64 F3), (20, .pointer (some ⟨N, 0, some 0⟩)), (21, .pointer (some ⟨N + 1, 0, some 0⟩)), (22, .pointer (some ⟨N + 2, 0, some 0⟩)), (23, .slice none 0 0)]) (fun _ h' => (Wf h' ∧ Grow h h' ∧ At h' h.nx (.cells (shC nm a n c) 43 2 false) ∧ At h' (h.nx + 1) (.cells (shC nm' a' m c') 43 2 false) ∧ At h' (h.nx + 2) (.cells [.int .i64 x, .int .i64 y, .int .i64 z] 77 3 false)) ∧ At h' bS (.cells (shC nmS aS nS cS) 54 2 false) ∧ MadeR G h' CS nm n ZS nmS aS nS cS ∧ At h' bX (.cells (shC nmX aX nX cX) 54 2 false) ∧ MadeR G h' CX nm n ZX nmX aX nX cX ∧ At h' bD (.cells (shC nmD aD nD cD) 54 2 false) ∧ MadeR G h' CD nm n ZD nmD aD nD cD ∧ HeardR G h' CK LK (.slice aK nK cK) ∧ At h' N (.cells zShot 43 2 false) ∧ At h' (N + 1) (.cells zShot 43 2 false) ∧ At h' (N + 2) (.cells zShot 43 2 false)) ?_ ?_
 · repeat' (first | with_reducible refine wo_nil ?_ | ((with_reducible refine wo_any ?_); refine wq_A (op_assign rfl) ?_) | with_reducible refine wc_region ?_)
   exact ⟨rfl, (), within_lk ⟨rfl, rfl, rfl, rfl, rfl, rfl, rfl, rfl, rfl, rfl, rfl, rfl, rfl, rfl, rfl, rfl, rfl, rfl, rfl, rfl, trivial⟩, ⟨wf_A, gr_A, at_A, at_A, at_A⟩, at_A, mS.grow gr_A, at_A, mX.grow gr_A, at_A, mD.grow gr_A, mK.grow gr_A, at_A, at_A, at_A⟩
 clear lM ha wa ga xa ya za tS mS tX mX tD mD mK u0 u1 u2
 rintro _ hb ⟨⟨wb, gb, xb, yb, zb⟩, tS, mS, tX, mX, tD, mD, mK, u0, u1, u2⟩
 have lM := u2.lt
 refine wc_mid (ι := ByteArray × Option Addr × Nat × Nat) (fun i => [(3, .pointer (some ⟨h.nx, 0, some 0⟩)), (4, .pointer (some ⟨h.nx + 1, 0, some 0⟩)), (5, .pointer (some ⟨h.nx + 2, 0, some 0⟩)), (7, .pointer (some ⟨bS, 0, some 0⟩)), (8, .int .i64 CS), (9, .pointer (some ⟨bX, 0, some 0⟩)), (10, .int .i64 CX), (11, .pointer (some ⟨bD, 0, some 0⟩)), (12, .int .i64 CD), (13, .slice aK nK cK), (14, .int .i64 CK), (15, .int .i64 E), (16, .int .i64 CS), (17, .int .i64 E), (18, .int .i64 F2), (19, .int .i64 F3), (20, .pointer (some ⟨N, 0, some 0⟩)), (21, .pointer (some ⟨N + 1, 0, some 0⟩)), (22, .pointer (some ⟨N + 2, 0, some 0⟩)), (23, .slice none 0 0)]) (fun i h' => (Wf h' ∧ Grow h h' ∧ At h' h.nx (.cells (shC nm a n c) 43 2 false) ∧ At h' (h.nx + 1) (.cells (shC nm' a' m c') 43 2 false) ∧ At h' (h.nx + 2) (.cells [.int .i64 x, .int .i64 y, .int .i64 z] 77 3 false)) ∧ At h' bS (.cells (shC nmS aS nS cS) 54 2 false) ∧ MadeR G h' CS nm n ZS nmS aS nS cS ∧ At h' bX (.cells (shC nmX aX nX cX) 54 2 false) ∧ MadeR G h' CX nm n ZX nmX aX nX cX ∧ At h' bD (.cells (shC nmD aD nD cD) 54 2 false) ∧ MadeR G h' CD nm n ZD nmD aD nD cD ∧ HeardR G h' CK LK (.slice aK nK cK) ∧ (At h' N (.cells (shC i.1 i.2.1 i.2.2.1 i.2.2.2) 43 2 false) ∧ MadeR G h' CS nm n ZS i.1 i.2.1 i.2.2.1 i.2.2.2) ∧ At h' (N + 1) (.cells zShot 43 2 false) ∧ At h' (N + 2) (.cells zShot 43 2 false)) ?_ ?_
 · by_cases h0 : F1 = 0
   · have hz : E = 0 ∧ E' = 0 := by
       by_cases q : E = 0
       · exact ⟨q, by rw [if_neg (by simp [q])] at hF1; omega⟩
       · rw [if_pos q] at hF1; omega
     have q52 := fun (h' : H) (g : Grow h h') (w : Wf h') => q52 h' g hz.1 hz.2 w
     subst h0
     repeat' (first | with_reducible refine wo_nil ?_ | ((with_reducible refine wo_any ?_); first | refine wq_A (op_move rfl) ?_ | refine wq_A (op_assign rfl) ?_ | refine wq_A (op_ldAgg rfl at_A Tryz.underlying43 rfl zs43 rfl rfl) ?_ | refine wq_A (op_extract rfl rfl) ?_ | refine wq_B (op_stAgg rfl rfl at_A zs54 rfl rfl rfl rfl) ?_ | refine wq_A (op_eql rfl rfl) ?_ | ((with_reducible refine ik_callv ?_); (refine wo_call rfl rfl rfl rfl (q52 _ gr_A wf_A) rfl rfl ?_; rintro _ _ ⟨⟨nmW, aW, nW, cW, rfl, mW⟩, hq⟩; all_goals ((try (have hqn := hq.nx)); (try simp only [nx_A] at hqn))))) | (with_reducible first | refine sq_norm ?_ | refine wc_seq ?_ | refine wc_region ?_) | refine wc_ift rfl ?_)
     all_goals exact ⟨rfl, (_, _, _, _), within_lk ⟨rfl, rfl, rfl, rfl, rfl, rfl, rfl, rfl, rfl, rfl, rfl, rfl, rfl, rfl, rfl, rfl, rfl, rfl, rfl, rfl, trivial⟩, ⟨wf_A, gr_A, at_A, at_A, at_A⟩, at_A, (mS.grow gr_A).setF (Free.at (c := zShot) (e := 43) (s := false) at_A) _, at_A, (mX.grow gr_A).setF (Free.at (c := zShot) (e := 43) (s := false) at_A) _, at_A, (mD.grow gr_A).setF (Free.at (c := zShot) (e := 43) (s := false) at_A) _, (mK.grow gr_A).setF (Free.at (c := zShot) (e := 43) (s := false) at_A) _, ⟨at_A, mW.setF (Free.at (c := zShot) (e := 43) (s := false) at_A) _⟩, at_A, at_A⟩
   · have hFC : CS = F1 := by
       by_cases q : E = 0
       · rw [if_neg (by simp [q])] at hF1
         rw [if_neg (by simp [q]), if_pos (by omega)] at kF
         rw [kS (by omega), kF]; exact hF1
       · rw [if_pos q] at hF1 kF
         rw [kS (by omega), kF]; exact hF1
     subst hFC
     repeat' (first | with_reducible refine wo_nil ?_ | ((with_reducible refine wo_any ?_); first | refine wq_A (op_move rfl) ?_ | refine wq_A (op_eql rfl rfl) ?_) | (with_reducible first | refine sq_norm ?_ | refine wc_seq ?_ | refine wc_region ?_ | refine wc_skip ?_) | (refine wc_if rfl (fun hb => dead_A hb) (fun hb => ?_); (try simp only [bb_A, reduceCtorEq] at hb)))
     all_goals exact ⟨rfl, (.empty, none, 0, 0), within_lk ⟨rfl, rfl, rfl, rfl, rfl, rfl, rfl, rfl, rfl, rfl, rfl, rfl, rfl, rfl, rfl, rfl, rfl, rfl, rfl, rfl, trivial⟩, ⟨wf_A, gr_A, at_A, at_A, at_A⟩, at_A, mS.grow gr_A, at_A, mX.grow gr_A, at_A, mD.grow gr_A, mK.grow gr_A, ⟨u0.grow gr_A, mO h0⟩, at_A, at_A⟩
 clear lM hb wb gb xb yb zb tS mS tX mX tD mD mK u0 u1 u2 q52 kS kF hF1
 rintro ⟨nm1, a1, n1, c1⟩ ha ⟨⟨wa, ga, xa, ya, za⟩, tS, mS, tX, mX, tD, mD, mK, ⟨u0, m1⟩, u1, u2⟩
 simp only at u0 m1
 have lM := u2.lt
 refine wc_mid (ι := ByteArray × Option Addr × Nat × Nat) (fun i => [(3, .pointer (some ⟨h.nx, 0, some 0⟩)), (4, .pointer (some ⟨h.nx + 1, 0, some 0⟩)), (5, .pointer (some ⟨h.nx + 2, 0, some 0⟩)), (7, .pointer (some ⟨bS, 0, some 0⟩)), (8, .int .i64 CS), (9, .pointer (some ⟨bX, 0, some 0⟩)), (10, .int .i64 CX), (11, .pointer (some ⟨bD, 0, some 0⟩)), (12, .int .i64 CD), (13, .slice aK nK cK), (14, .int .i64 CK), (15, .int .i64 E), (16, .int .i64 CS), (17, .int .i64 E), (18, .int .i64 CX), (19, .int .i64 F3), (20, .pointer (some ⟨N, 0, some 0⟩)), (21, .pointer (some ⟨N + 1, 0, some 0⟩)), (22, .pointer (some ⟨N + 2, 0, some 0⟩)), (23, .slice none 0 0)]) (fun i h' => (Wf h' ∧ Grow h h' ∧ At h' h.nx (.cells (shC nm a n c) 43 2 false) ∧ At h' (h.nx + 1) (.cells (shC nm' a' m c') 43 2 false) ∧ At h' (h.nx + 2) (.cells [.int .i64 x, .int .i64 y, .int .i64 z] 77 3 false)) ∧ At h' bS (.cells (shC nmS aS nS cS) 54 2 false) ∧ MadeR G h' CS nm n ZS nmS aS nS cS ∧ At h' bX (.cells (shC nmX aX nX cX) 54 2 false) ∧ MadeR G h' CX nm n ZX nmX aX nX cX ∧ At h' bD (.cells (shC nmD aD nD cD) 54 2 false) ∧ MadeR G h' CD nm n ZD nmD aD nD cD ∧ HeardR G h' CK LK (.slice aK nK cK) ∧ (At h' N (.cells (shC nm1 a1 n1 c1) 43 2 false) ∧ MadeR G h' CS nm n ZS nm1 a1 n1 c1) ∧ (At h' (N + 1) (.cells (shC i.1 i.2.1 i.2.2.1 i.2.2.2) 43 2 false) ∧ MadeR G h' CX nm n ZX i.1 i.2.1 i.2.2.1 i.2.2.2) ∧ At h' (N + 2) (.cells zShot 43 2 false)) ?_ ?_
 · by_cases h0 : F2 = 0
   · have q53x := fun (h' : H) (g : Grow h h') (w : Wf h') => q53 h' g h0 w
     subst h0
     repeat' (first | with_reducible refine wo_nil ?_ | ((with_reducible refine wo_any ?_); first | refine wq_A (op_move rfl) ?_ | refine wq_A (op_assign rfl) ?_ | ((with_reducible refine ik_load ?_); first | refine wq_A (op_ldAgg rfl at_A Tryz.underlying43 rfl zs43 rfl rfl) ?_ | refine wq_A (op_ldAt rfl at_A Tryz.underlying3 rfl rfl) ?_) | refine wq_A (op_extract rfl rfl) ?_ | refine wq_B (op_stAgg rfl rfl at_A zs54 rfl rfl rfl rfl) ?_ | refine wq_A (op_idxArr' rfl rfl Tryz.underlying77 zs3 (by omega) (by omega)) ?_ | refine wq_A (op_eql rfl rfl) ?_ | ((with_reducible refine ik_callv ?_); (refine wo_call rfl rfl rfl rfl (q53x _ gr_A wf_A) rfl rfl ?_; rintro _ _ ⟨⟨nmW, aW, nW, cW, rfl, mW⟩, hq⟩; all_goals ((try (have hqn := hq.nx)); (try simp only [nx_A] at hqn))))) | (with_reducible first | refine sq_norm ?_ | refine wc_seq ?_ | refine wc_region ?_) | refine wc_ift rfl ?_)
     all_goals exact ⟨rfl, (_, _, _, _), within_lk ⟨rfl, rfl, rfl, rfl, rfl, rfl, rfl, rfl, rfl, rfl, rfl, rfl, rfl, rfl, rfl, rfl, rfl, rfl, rfl, rfl, trivial⟩, ⟨wf_A, gr_A, at_A, at_A, at_A⟩, at_A, (mS.grow gr_A).setF (Free.at (c := zShot) (e := 43) (s := false) at_A) _, at_A, (mX.grow gr_A).setF (Free.at (c := zShot) (e := 43) (s := false) at_A) _, at_A, (mD.grow gr_A).setF (Free.at (c := zShot) (e := 43) (s := false) at_A) _, (mK.grow gr_A).setF (Free.at (c := zShot) (e := 43) (s := false) at_A) _, ⟨at_A, (m1.grow gr_A).setF (Free.at (c := zShot) (e := 43) (s := false) at_A) _⟩, ⟨at_A, mW.setF (Free.at (c := zShot) (e := 43) (s := false) at_A) _⟩, at_A⟩
   · have hFC := kX h0
     subst hFC
     repeat' (first | with_reducible refine wo_nil ?_ | ((with_reducible refine wo_any ?_); first | refine wq_A (op_move rfl) ?_ | refine wq_A (op_eql rfl rfl) ?_) | (with_reducible first | refine sq_norm ?_ | refine wc_seq ?_ | refine wc_region ?_ | refine wc_skip ?_) | (refine wc_if rfl (fun hb => dead_A hb) (fun hb => ?_); (try simp only [bb_A, reduceCtorEq] at hb)))
     all_goals exact ⟨rfl, (.empty, none, 0, 0), within_lk ⟨rfl, rfl, rfl, rfl, rfl, rfl, rfl, rfl, rfl, rfl, rfl, rfl, rfl, rfl, rfl, rfl, rfl, rfl, rfl, rfl, trivial⟩, ⟨wf_A, gr_A, at_A, at_A, at_A⟩, at_A, mS.grow gr_A, at_A, mX.grow gr_A, at_A, mD.grow gr_A, mK.grow gr_A, ⟨at_A, m1.grow gr_A⟩, ⟨u1.grow gr_A, mO h0⟩, at_A⟩
 clear lM ha wa ga xa ya za tS mS tX mX tD mD mK u0 m1 u1 u2 q53 kX
 rintro ⟨nm2, a2, n2, c2⟩ hb ⟨⟨wb, gb, xb, yb, zb⟩, tS, mS, tX, mX, tD, mD, mK, ⟨u0, m1⟩, ⟨u1, m2⟩, u2⟩
 simp only at u1 m2
 have lM := u2.lt
 refine wc_mid (ι := ByteArray × Option Addr × Nat × Nat) (fun i => [(3, .pointer (some ⟨h.nx, 0, some 0⟩)), (4, .pointer (some ⟨h.nx + 1, 0, some 0⟩)), (5, .pointer (some ⟨h.nx + 2, 0, some 0⟩)), (7, .pointer (some ⟨bS, 0, some 0⟩)), (8, .int .i64 CS), (9, .pointer (some ⟨bX, 0, some 0⟩)), (10, .int .i64 CX), (11, .pointer (some ⟨bD, 0, some 0⟩)), (12, .int .i64 CD), (13, .slice aK nK cK), (14, .int .i64 CK), (15, .int .i64 E), (16, .int .i64 CS), (17, .int .i64 E), (18, .int .i64 CX), (19, .int .i64 CD), (20, .pointer (some ⟨N, 0, some 0⟩)), (21, .pointer (some ⟨N + 1, 0, some 0⟩)), (22, .pointer (some ⟨N + 2, 0, some 0⟩)), (23, .slice none 0 0)]) (fun i h' => (Wf h' ∧ Grow h h' ∧ At h' h.nx (.cells (shC nm a n c) 43 2 false) ∧ At h' (h.nx + 1) (.cells (shC nm' a' m c') 43 2 false) ∧ At h' (h.nx + 2) (.cells [.int .i64 x, .int .i64 y, .int .i64 z] 77 3 false)) ∧ At h' bS (.cells (shC nmS aS nS cS) 54 2 false) ∧ MadeR G h' CS nm n ZS nmS aS nS cS ∧ At h' bX (.cells (shC nmX aX nX cX) 54 2 false) ∧ MadeR G h' CX nm n ZX nmX aX nX cX ∧ At h' bD (.cells (shC nmD aD nD cD) 54 2 false) ∧ MadeR G h' CD nm n ZD nmD aD nD cD ∧ HeardR G h' CK LK (.slice aK nK cK) ∧ (At h' N (.cells (shC nm1 a1 n1 c1) 43 2 false) ∧ MadeR G h' CS nm n ZS nm1 a1 n1 c1) ∧ (At h' (N + 1) (.cells (shC nm2 a2 n2 c2) 43 2 false) ∧ MadeR G h' CX nm n ZX nm2 a2 n2 c2) ∧ (At h' (N + 2) (.cells (shC i.1 i.2.1 i.2.2.1 i.2.2.2) 43 2 false) ∧ MadeR G h' CD nm n ZE i.1 i.2.1 i.2.2.1 i.2.2.2)) ?_ ?_
 · by_cases h0 : F3 = 0
   · have q54x := fun (h' : H) (g : Grow h h') (w : Wf h') => q54 h' g h0 w
     have hFC := kD0 h0
     subst h0 hFC
     repeat' (first | with_reducible refine wo_nil ?_ | ((with_reducible refine wo_any ?_); first | refine wq_A (op_move rfl) ?_ | ((with_reducible refine ik_load ?_); first | refine wq_A (op_ldAgg rfl at_A Tryz.underlying43 rfl zs43 rfl rfl) ?_ | refine wq_A (op_ldAt rfl at_A Tryz.underlying3 rfl rfl) ?_) | refine wq_B (op_stAgg rfl rfl at_A zs54 rfl rfl rfl rfl) ?_ | refine wq_A (op_idxArr' rfl rfl Tryz.underlying77 zs3 (by omega) (by omega)) ?_ | refine wq_A (op_eql rfl rfl) ?_ | ((with_reducible refine ik_callv ?_); (refine wo_call rfl rfl rfl rfl (q54x _ gr_A wf_A) rfl rfl ?_; rintro _ _ ⟨⟨nmW, aW, nW, cW, rfl, mW⟩, hq⟩; all_goals ((try (have hqn := hq.nx)); (try simp only [nx_A] at hqn))))) | (with_reducible first | refine sq_norm ?_ | refine wc_seq ?_ | refine wc_region ?_) | refine wc_ift rfl ?_)
     all_goals exact ⟨rfl, (_, _, _, _), within_lk ⟨rfl, rfl, rfl, rfl, rfl, rfl, rfl, rfl, rfl, rfl, rfl, rfl, rfl, rfl, rfl, rfl, rfl, rfl, rfl, rfl, trivial⟩, ⟨wf_A, gr_A, at_A, at_A, at_A⟩, at_A, (mS.grow gr_A).setF (Free.at (c := zShot) (e := 43) (s := false) at_A) _, at_A, (mX.grow gr_A).setF (Free.at (c := zShot) (e := 43) (s := false) at_A) _, at_A, (mD.grow gr_A).setF (Free.at (c := zShot) (e := 43) (s := false) at_A) _, (mK.grow gr_A).setF (Free.at (c := zShot) (e := 43) (s := false) at_A) _, ⟨at_A, (m1.grow gr_A).setF (Free.at (c := zShot) (e := 43) (s := false) at_A) _⟩, ⟨at_A, (m2.grow gr_A).setF (Free.at (c := zShot) (e := 43) (s := false) at_A) _⟩, ⟨at_A, mW.setF (Free.at (c := zShot) (e := 43) (s := false) at_A) _⟩⟩
   · have hFC := kD h0
     subst hFC
     repeat' (first | with_reducible refine wo_nil ?_ | ((with_reducible refine wo_any ?_); first | refine wq_A (op_move rfl) ?_ | refine wq_A (op_eql rfl rfl) ?_) | (with_reducible first | refine sq_norm ?_ | refine wc_seq ?_ | refine wc_region ?_ | refine wc_skip ?_) | (refine wc_if rfl (fun hb => dead_A hb) (fun hb => ?_); (try simp only [bb_A, reduceCtorEq] at hb)))
     all_goals exact ⟨rfl, (.empty, none, 0, 0), within_lk ⟨rfl, rfl, rfl, rfl, rfl, rfl, rfl, rfl, rfl, rfl, rfl, rfl, rfl, rfl, rfl, rfl, rfl, rfl, rfl, rfl, trivial⟩, ⟨wf_A, gr_A, at_A, at_A, at_A⟩, at_A, mS.grow gr_A, at_A, mX.grow gr_A, at_A, mD.grow gr_A, mK.grow gr_A, ⟨at_A, m1.grow gr_A⟩, ⟨at_A, m2.grow gr_A⟩, ⟨u2.grow gr_A, mO h0⟩⟩
 clear lM hb wb gb xb yb zb tS mS tX mX tD mD mK u0 m1 u1 m2 u2 q54 kD kD0
 rintro ⟨nm3, a3, n3, c3⟩ ha ⟨⟨wa, ga, xa, ya, za⟩, tS, mS, tX, mX, tD, mD, mK, ⟨u0, m1⟩, ⟨u1, m2⟩, ⟨u2, m3⟩⟩
 simp only at u2 m3
 have lM := u2.lt
 refine wc_mid (ι := Option Addr × Nat × Nat) (fun i => [(3, .pointer (some ⟨h.nx, 0, some 0⟩)), (4, .pointer (some ⟨h.nx + 1, 0, some 0⟩)), (5, .pointer (some ⟨h.nx + 2, 0, some 0⟩)), (7, .pointer (some ⟨bS, 0, some 0⟩)), (8, .int .i64 CS), (9, .pointer (some ⟨bX, 0, some 0⟩)), (10, .int .i64 CX), (11, .pointer (some ⟨bD, 0, some 0⟩)), (12, .int .i64 CD), (13, .slice aK nK cK), (14, .int .i64 CK), (15, .int .i64 E), (16, .int .i64 CS), (17, .int .i64 CK), (18, .int .i64 CX), (19, .int .i64 CD), (20, .pointer (some ⟨N, 0, some 0⟩)), (21, .pointer (some ⟨N + 1, 0, some 0⟩)), (22, .pointer (some ⟨N + 2, 0, some 0⟩)), (23, .slice i.1 i.2.1 i.2.2)]) (fun i h' => (Wf h' ∧ Grow h h' ∧ At h' h.nx (.cells (shC nm a n c) 43 2 false) ∧ At h' (h.nx + 1) (.cells (shC nm' a' m c') 43 2 false) ∧ At h' (h.nx + 2) (.cells [.int .i64 x, .int .i64 y, .int .i64 z] 77 3 false)) ∧ At h' bS (.cells (shC nmS aS nS cS) 54 2 false) ∧ MadeR G h' CS nm n ZS nmS aS nS cS ∧ At h' bX (.cells (shC nmX aX nX cX) 54 2 false) ∧ MadeR G h' CX nm n ZX nmX aX nX cX ∧ At h' bD (.cells (shC nmD aD nD cD) 54 2 false) ∧ MadeR G h' CD nm n ZD nmD aD nD cD ∧ HeardR G h' CK LK (.slice aK nK cK) ∧ (At h' N (.cells (shC nm1 a1 n1 c1) 43 2 false) ∧ MadeR G h' CS nm n ZS nm1 a1 n1 c1) ∧ (At h' (N + 1) (.cells (shC nm2 a2 n2 c2) 43 2 false) ∧ MadeR G h' CX nm n ZX nm2 a2 n2 c2) ∧ (At h' (N + 2) (.cells (shC nm3 a3 n3 c3) 43 2 false) ∧ MadeR G h' CD nm n ZE nm3 a3 n3 c3) ∧ HeardR G h' CK LK (.slice i.1 i.2.1 i.2.2)) ?_ ?_
 · by_cases h0 : E = 0
   · have q55x := fun (h' : H) (g : Grow h h') (w : Wf h') => q55 h' g h0 w
     subst h0
     repeat' (first | with_reducible refine wo_nil ?_ | ((with_reducible refine wo_any ?_); first | refine wq_A (op_move rfl) ?_ | refine wq_A (op_assign rfl) ?_ | refine wq_A (op_ldAgg rfl at_A Tryz.underlying43 rfl zs43 rfl rfl) ?_ | refine wq_A (op_extract rfl rfl) ?_ | refine wq_A (op_eql rfl rfl) ?_ | ((with_reducible refine ik_callv ?_); (refine wo_call rfl rfl rfl rfl (q55x _ gr_A wf_A) rfl rfl ?_; rintro _ _ ⟨⟨aW, nW, cW, rfl, mW⟩, hq⟩; all_goals ((try (have hqn := hq.nx)); (try simp only [nx_A] at hqn))))) | (with_reducible first | refine sq_norm ?_ | refine wc_seq ?_ | refine wc_region ?_) | refine wc_ift rfl ?_)
     all_goals exact ⟨rfl, (_, _, _), within_lk ⟨rfl, rfl, rfl, rfl, rfl, rfl, rfl, rfl, rfl, rfl, rfl, rfl, rfl, rfl, rfl, rfl, rfl, rfl, rfl, rfl, trivial⟩, ⟨wf_A, gr_A, at_A, at_A, at_A⟩, at_A, mS.grow gr_A, at_A, mX.grow gr_A, at_A, mD.grow gr_A, mK.grow gr_A, ⟨at_A, m1.grow gr_A⟩, ⟨at_A, m2.grow gr_A⟩, ⟨at_A, m3.grow gr_A⟩, mW.grow gr_A⟩
   · have hFC := kK h0
     subst hFC
     repeat' (first | with_reducible refine wo_nil ?_ | ((with_reducible refine wo_any ?_); first | refine wq_A (op_move rfl) ?_ | refine wq_A (op_eql rfl rfl) ?_) | (with_reducible first | refine sq_norm ?_ | refine wc_seq ?_ | refine wc_region ?_ | refine wc_skip ?_) | (refine wc_if rfl (fun hb => dead_A hb) (fun hb => ?_); (try simp only [bb_A, reduceCtorEq] at hb)))
     all_goals exact ⟨rfl, (none, 0, 0), within_lk ⟨rfl, rfl, rfl, rfl, rfl, rfl, rfl, rfl, rfl, rfl, rfl, rfl, rfl, rfl, rfl, rfl, rfl, rfl, rfl, rfl, trivial⟩, ⟨wf_A, gr_A, at_A, at_A, at_A⟩, at_A, mS.grow gr_A, at_A, mX.grow gr_A, at_A, mD.grow gr_A, mK.grow gr_A, ⟨at_A, m1.grow gr_A⟩, ⟨at_A, m2.grow gr_A⟩, ⟨at_A, m3.grow gr_A⟩, hO h0⟩
 clear lM ha wa ga xa ya za tS mS tX mX tD mD mK u0 m1 u1 m2 u2 m3 q55 kK
 rintro ⟨aL, nL, cL⟩ hb ⟨⟨wb, gb, xb, yb, zb⟩, tS, mS, tX, mX, tD, mD, mK, ⟨u0, m1⟩, ⟨u1, m2⟩, ⟨u2, m3⟩, mL⟩
 simp only at mL
 have q47 := fun (h' : H) (g : Grow hb h') (w : Wf h') => c47m (mS.grow g) (m1.grow g) zS hn w
 have q47b := fun (h' : H) (g : Grow hb h') (w : Wf h') => c47m (mX.grow g) (m2.grow g) zX hn w
 have q47c := fun (h' : H) (g : Grow hb h') (w : Wf h') => c47m (mD.grow g) (m3.grow g) zD hn w
 have q56 := fun (h' : H) (g : Grow hb h') => c56m (mK.grow g) (mL.grow g) hKl hKs
 repeat' (first | with_reducible refine wo_nil ?_ | ((with_reducible refine wo_any ?_); first | refine wq_A (op_move rfl) ?_ | refine wq_A (op_assign rfl) ?_ | ((with_reducible refine ik_load ?_); first | refine wq_A (op_ldAgg rfl at_A Tryz.underlying43 rfl zs43 rfl rfl) ?_ | refine wq_A (op_ldAgg rfl at_A Tryz.underlying54 rfl zs54 rfl rfl) ?_) | refine wq_A (op_pickt rfl rfl) ?_ | ((with_reducible refine ik_callv ?_); (refine wo_call rfl rfl rfl rfl (q47 _ gr_A wf_A) rfl rfl ?_; rintro _ _ ⟨rfl, hq⟩; all_goals ((try (have hqn := hq.nx)); (try simp only [nx_A] at hqn)))) | ((with_reducible refine ik_g ?_); first | refine wo_grun rfl rfl rfl (op_move rfl) rfl rfl ?_ | ((with_reducible refine ig_load ?_); first | refine wo_grun rfl rfl rfl (op_ldAgg rfl at_A Tryz.underlying43 rfl zs43 rfl rfl) rfl rfl ?_ | refine wo_grun rfl rfl rfl (op_ldAgg rfl at_A Tryz.underlying54 rfl zs54 rfl rfl) rfl rfl ?_) | ((with_reducible refine ig_callF (f := 16) ?_); refine wo_grun rfl rfl rfl (op_call rfl rfl (c16)) rfl rfl ?_) | ((with_reducible refine ig_callv ?_); first | (refine wo_gcall rfl rfl rfl rfl rfl rfl (q47b _ gr_A wf_A) rfl rfl ?_; rintro _ _ ⟨rfl, hq⟩; all_goals ((try (have hqn := hq.nx)); (try simp only [nx_A] at hqn))) | (refine wo_gcall rfl rfl rfl rfl rfl rfl (q47c _ gr_A wf_A) rfl rfl ?_; rintro _ _ ⟨rfl, hq⟩; all_goals ((try (have hqn := hq.nx)); (try simp only [nx_A] at hqn))) | (refine wo_gcall rfl rfl rfl rfl rfl rfl (q56 _ gr_A) rfl rfl ?_; rintro _ _ ⟨rfl, hq⟩; all_goals ((try (have hqn := hq.nx)); (try simp only [nx_A] at hqn)))))) | (with_reducible first | refine sq_norm ?_ | refine wc_seq ?_ | refine wc_region ?_ | refine wc_ret ?_))
 all_goals exact rq1 rfl ⟨by first | rfl | simp, gr_A⟩
theorem c6 {nm nm' : ByteArray} {a a' : Option Addr} {n m c c' : Nat} {ts us : List Trc} {x y z : Int} (s : SlT G h (.slice a n c) n ts) (s' : SlT G h (.slice a' m c') m us) (hw : Wf h) (hG : ∀ a v, laidBase a = some v → G a = some v) : Cf (mz G) (.func (.func 6) #[] #[]) [.agg ⟨shC nm a n c⟩, .agg ⟨shC nm' a' m c'⟩, .agg ⟨[.int .i64 x, .int .i64 y, .int .i64 z]⟩] h fun r h' => r = .bool true ∧ Grow h h' := by
 by_cases h1 : shortB nm ts = true
 · by_cases h2 : shortB nm' us = true
   · exact c6m s s' h1 h2 hw hG
   · exact c6n s s' (.inr (by simpa using h2)) hw
 · exact c6n s s' (.inl (by simpa using h1)) hw
end Go.Proofs.YtdelgpbfdimefaaGreatDoor
