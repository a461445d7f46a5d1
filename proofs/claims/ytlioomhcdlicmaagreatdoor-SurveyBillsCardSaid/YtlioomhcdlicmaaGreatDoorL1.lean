/- The law SurveyBills, walked. -/
import Derived.Test.YtlioomhcdlicmaaGreatDoorC20
import Derived.Test.YtlioomhcdlicmaaGreatDoorC19
set_option linter.all false
/- The law SurveyBills. -/
namespace Go.Proofs.YtlioomhcdlicmaaGreatDoor
open Go Go.Ab Go.Fl
attribute [local irreducible] SeqQ BlkQ LpQ RetQ Wc Wo WD WX Op1 Op1q Op1a Cf Cl From
attribute [local irreducible] Ieee.Format.order Ieee.Format.read Ieee.Format.nearest Ieee.Format.write Ieee.Format.mul Ieee.Format.div Ieee.Format.sqrt Ieee.Datum.order Ieee.Datum.integral K U rngE errN ptE firstNZ vesE watE sgE sgsE allE hitB sqD insB qsL lvl rn rl altB isNameB nmE foE clE accL othL rtE ctE
set_option maxRecDepth 10000
variable {G : Base} {h : H}

attribute [local irreducible] spE numM cauW cnum cauN enE hrK ensE rssE lowN lowD bilC bilE outC freeI cntK
theorem eg24 : Tryz.prog.eqGuardType Tryz.prog.depth 24 = false := by kernel_rfl
theorem eqv24 (a0 a1 a2 a3 a4 a5 a6 a7 b0 b1 b2 b3 b4 b5 b6 b7 : Int) : eqV Tryz.prog 3 24 [.int .i64 a0, .int .i64 a1, .int .i64 a2, .int .i64 a3, .int .i64 a4, .int .i64 a5, .int .i64 a6, .int .i64 a7] [.int .i64 b0, .int .i64 b1, .int .i64 b2, .int .i64 b3, .int .i64 b4, .int .i64 b5, .int .i64 b6, .int .i64 b7] = some ((decide (a0 = b0) && (decide (a1 = b1) && (decide (a2 = b2) && (decide (a3 = b3) && (decide (a4 = b4) && (decide (a5 = b5) && true)))))) && (decide (a6 = b6) && (decide (a7 = b7) && true))) := by kernel_rfl
theorem eqv24_self (a0 a1 a2 a3 a4 a5 a6 a7 : Int) : eqV Tryz.prog 3 24 [.int .i64 a0, .int .i64 a1, .int .i64 a2, .int .i64 a3, .int .i64 a4, .int .i64 a5, .int .i64 a6, .int .i64 a7] [.int .i64 a0, .int .i64 a1, .int .i64 a2, .int .i64 a3, .int .i64 a4, .int .i64 a5, .int .i64 a6, .int .i64 a7] = some true := by
  rw [eqv24]; simp
theorem bilC_eight {c0 c1 c2 c3 c4 c5 c6 c7 c8 : Int} {l : List En} {rs : List Rs} : ∃ a0 a1 a2 a3 a4 a5 a6 a7 : Int, bilC c0 c1 c2 c3 c4 c5 c6 c7 c8 l rs = [.int .i64 a0, .int .i64 a1, .int .i64 a2, .int .i64 a3, .int .i64 a4, .int .i64 a5, .int .i64 a6, .int .i64 a7] := by
  unfold bilC
  split
  · obtain ⟨z0, z1, z2, z3, z4, z5, hz⟩ := six (hrK_len (l := l) l.length)
    rw [hz, bilL_eq]
    exact ⟨_, _, _, _, _, _, _, _, rfl⟩
  · exact ⟨0, 0, 0, 0, 0, 0, 0, 0, rfl⟩
theorem bilE_parts {c0 c1 c2 c3 c4 c5 c6 c7 c8 : Int} {l : List En} {rs : List Rs} (hh : bilE c0 c1 c2 c3 c4 c5 c6 c7 c8 l rs = 0) : ctE c0 c1 c2 c3 c4 c5 c6 c7 c8 = 0 ∧ ensE l = 0 ∧ rssE rs = 0 := by
  unfold bilE at hh
  have e := firstNZ_zero hh
  exact ⟨e _ (by simp), e _ (by simp), e _ (by simp)⟩
theorem bilC_good {c0 c1 c2 c3 c4 c5 c6 c7 c8 : Int} {l : List En} {rs : List Rs} (hh : bilE c0 c1 c2 c3 c4 c5 c6 c7 c8 l rs = 0) : bilC c0 c1 c2 c3 c4 c5 c6 c7 c8 l rs = (bilL (hrK l l.length) c0 c1 c2 c3 c4 c5 c6 c7 c8 (accL rs).length (othL rs).length).map (.int .i64) := by
  unfold bilC; rw [if_pos hh]
theorem bilC_bad {c0 c1 c2 c3 c4 c5 c6 c7 c8 : Int} {l : List En} {rs : List Rs} (hh : bilE c0 c1 c2 c3 c4 c5 c6 c7 c8 l rs ≠ 0) : bilC c0 c1 c2 c3 c4 c5 c6 c7 c8 l rs = [.int .i64 0, .int .i64 0, .int .i64 0, .int .i64 0, .int .i64 0, .int .i64 0, .int .i64 0, .int .i64 0] := by
  unfold bilC; rw [if_neg hh]
theorem wc_midB {M : Mc} {ro : Option Nat} {a b : Code} {sz : Nat} {l : KL} {h : H} {Q : X → KL → H → Prop} {ι : Type} (L : ι → KL) (I : ι → H → Prop) (hA : Wc M ro a sz l h (fun x l' h' => (x = .norm ∧ ∃ i, (∀ t v, lk (L i) t = some v → lk l' t = some v) ∧ I i h') ∨ (x = .ret ∧ Q .ret l' h'))) (hB : ∀ i h, I i h → Wc M ro b sz (L i) h Q) : Wc M ro (a.seq b) sz l h Q :=
  wc_seq (wc_mono hA fun x l' h' q => by
    rcases q with ⟨e, i, hl, hi⟩ | ⟨e, q⟩
    · subst e
      exact sq_norm (wc_less hl (hB i h' hi))
    · subst e
      exact sq_ret q)
set_option maxHeartbeats 32000000 in
theorem c8 {c0 c1 c2 c3 c4 c5 c6 c7 c8 : Int} {va ra : Option Addr} {n vc m rc : Nat} {l : List En} {rs : List Rs} (s : Sl G h 3 (.slice va n vc) n (l.flatMap En.cells)) (hl : l.length = n) (hnm : n ≤ maxLen) (sr : Sl G h 3 (.slice ra m rc) m (rs.flatMap Rs.cells)) (hrl : rs.length = m) (hmm : m ≤ maxLen) (hw : Wf h) : Cf (mz G) (.func (.func 8) #[] #[]) [.agg ⟨[.int .i64 c0, .int .i64 c1, .int .i64 c2, .int .i64 c3, .int .i64 c4, .int .i64 c5, .int .i64 c6, .int .i64 c7, .int .i64 c8]⟩, .slice va n vc, .slice ra m rc] h fun r h' => r = .bool true ∧ Grow h h' := by
  have q38 := fun (h' : H) (g : Grow h h') (w' : Wf h') => c38 (s.grow g) hl hnm w'
  cases hS : shoE l with
  | false =>
    rw [hS] at q38
    refine cf_enter0 127 [.tmp 6] Tryz.func8 rfl rfl rfl rfl ?_
    repeat' (first | with_reducible refine wo_nil ?_ | ((with_reducible refine wo_any ?_); first | ((with_reducible refine ik_move ?_); refine wo_op rfl (op_move rfl) rfl rfl ?_) | ((with_reducible refine ik_assign ?_); refine wo_op rfl (op_assign rfl) rfl rfl ?_) | ((with_reducible refine ik_box ?_); refine wo_op rfl (op_boxAgg rfl zs105 rfl) rfl rfl ?_) | ((with_reducible refine ik_un ?_); refine wo_op rfl (op_not rfl) rfl rfl ?_) | ((with_reducible refine ik_pick ?_); refine wo_op rfl (op_pickt rfl rfl) rfl rfl ?_) | ((with_reducible refine ik_callF (f := 15) ?_); refine wo_op rfl (op_call rfl rfl (c15)) rfl rfl ?_) | ((with_reducible refine ik_callv ?_); (refine wo_call rfl rfl rfl rfl (q38 _ gr_A wf_A) rfl rfl ?_; rintro _ _ ⟨rfl, hq⟩; all_goals ((try (have hqn := hq.nx)); (try simp only [H.nx_push, H.nx_set, H.nx_bump] at hqn)))) | ((with_reducible refine ik_g ?_); refine wo_gskip rfl rfl rfl rfl rfl rfl ?_)) | with_reducible refine sq_norm ?_ | with_reducible refine wc_seq ?_ | with_reducible refine wc_region ?_ | with_reducible refine wc_ret ?_ | with_reducible refine sq_ret ?_ | refine wc_ift rfl ?_)
    exact rq1 rfl ⟨rfl, gr_A⟩
  | true =>
  rw [hS] at q38
  have hn : n < 1000000 := by
    unfold shoE at hS
    simp only [Bool.and_eq_true, decide_eq_true_eq] at hS
    omega
  clear hS
  have q52 := fun (h' : H) (g : Grow h h') (w' : Wf h') => c52 (s.grow g) hl hn w'
  have q53 := fun (h' : H) (g : Grow h h') (w' : Wf h') => c53 (sr.grow g) hrl hmm w'
  cases hS2 : shoR rs with
  | false =>
    rw [hS2] at q53
    refine cf_enter0 127 [.tmp 6] Tryz.func8 rfl rfl rfl rfl ?_
    repeat' (first | with_reducible refine wo_nil ?_ | ((with_reducible refine wo_any ?_); first | ((with_reducible refine ik_move ?_); refine wo_op rfl (op_move rfl) rfl rfl ?_) | ((with_reducible refine ik_assign ?_); refine wo_op rfl (op_assign rfl) rfl rfl ?_) | ((with_reducible refine ik_box ?_); refine wo_op rfl (op_boxAgg rfl zs105 rfl) rfl rfl ?_) | ((with_reducible refine ik_un ?_); refine wo_op rfl (op_not rfl) rfl rfl ?_) | ((with_reducible refine ik_pick ?_); first | refine wo_op rfl (op_pickt rfl rfl) rfl rfl ?_ | refine wo_op rfl (op_pickf rfl rfl) rfl rfl ?_) | ((with_reducible refine ik_callF (f := 15) ?_); refine wo_op rfl (op_call rfl rfl (c15)) rfl rfl ?_) | ((with_reducible refine ik_callv ?_); (refine wo_call rfl rfl rfl rfl (q38 _ gr_A wf_A) rfl rfl ?_; rintro _ _ ⟨rfl, hq⟩; all_goals ((try (have hqn := hq.nx)); (try simp only [H.nx_push, H.nx_set, H.nx_bump] at hqn)))) | ((with_reducible refine ik_g ?_); first | refine wo_gskip rfl rfl rfl rfl rfl rfl ?_ | ((with_reducible refine ig_move ?_); refine wo_grun rfl rfl rfl (op_move rfl) rfl rfl ?_) | ((with_reducible refine ig_un ?_); refine wo_grun rfl rfl rfl (op_not rfl) rfl rfl ?_) | ((with_reducible refine ig_callv ?_); first | (refine wo_gcall rfl rfl rfl rfl rfl rfl (q52 _ gr_A wf_A) rfl rfl ?_; rintro _ _ ⟨⟨(_ | _), rfl⟩, hq⟩; all_goals ((try (have hqn := hq.nx)); (try simp only [H.nx_push, H.nx_set, H.nx_bump] at hqn))) | (refine wo_gcall rfl rfl rfl rfl rfl rfl (q53 _ gr_A wf_A) rfl rfl ?_; rintro _ _ ⟨rfl, hq⟩; all_goals ((try (have hqn := hq.nx)); (try simp only [H.nx_push, H.nx_set, H.nx_bump] at hqn)))))) | with_reducible refine sq_norm ?_ | with_reducible refine wc_seq ?_ | with_reducible refine wc_region ?_ | with_reducible refine wc_ret ?_ | with_reducible refine sq_ret ?_ | refine wc_ift rfl ?_)
    all_goals exact rq1 rfl ⟨rfl, gr_A⟩
  | true =>
  rw [hS2] at q53
  have hm : m < 1000000 := by
    unfold shoR at hS2
    simp only [Bool.and_eq_true, decide_eq_true_eq] at hS2
    omega
  have hsz : ∀ r ∈ rs, r.nm.size ≤ 1000000 := by
    unfold shoR at hS2
    simp only [Bool.and_eq_true, decide_eq_true_eq, List.all_eq_true] at hS2
    exact fun r hr => by have := hS2.1 r hr; omega
  clear hS2
  have q40 := fun (h' : H) (g : Grow h h') (w' : Wf h') => cf_formW (c40 (s.grow g) hl hn w')
  have q55 := fun (h' : H) (g : Grow h h') (w' : Wf h') => cf_formW (c55 (sr.grow g) hrl hm w')
  have q54 := fun (h' : H) (v : Value) (s1 : Sl G h' 3 v m (rs.flatMap Rs.cells)) (w' : Wf h') => (c54 s1 hrl hm w').mono (Q' := fun r h2 => (∃ z : Option Addr × Nat × Option Addr × Nat, r = .tuple #[.slice z.1 (if rssE rs = 0 then accL rs else []).length z.2.1, .slice z.2.2.1 (if rssE rs = 0 then othL rs else []).length z.2.2.2, .int .i64 (rssE rs)] ∧ Sl G h2 1 (.slice z.1 (if rssE rs = 0 then accL rs else []).length z.2.1) (if rssE rs = 0 then accL rs else []).length ((if rssE rs = 0 then accL rs else []).map Value.string) ∧ Sl G h2 1 (.slice z.2.2.1 (if rssE rs = 0 then othL rs else []).length z.2.2.2) (if rssE rs = 0 then othL rs else []).length ((if rssE rs = 0 then othL rs else []).map Value.string)) ∧ Grow h' h2) (fun r h2 ⟨⟨x, y, e, q⟩, g⟩ => by
    obtain ⟨a, c, b, d, e1, e2, e3, e4⟩ := q.form (G := G)
    subst e1 e2
    exact ⟨⟨(a, c, b, d), e, e3, e4⟩, g⟩)
  have q60 := fun (hr : rssE rs = 0) (h' : H) (g : Grow h h') (w' : Wf h') => (c60 (sr.grow g) hrl hm w').mono (Q' := fun r h2 => (∃ z : Option Addr × Nat × Option Addr × Nat, r = .tuple #[.slice z.1 (if rssE rs = 0 then accL rs else []).length z.2.1, .slice z.2.2.1 (if rssE rs = 0 then othL rs else []).length z.2.2.2] ∧ Sl G h2 1 (.slice z.1 (if rssE rs = 0 then accL rs else []).length z.2.1) (if rssE rs = 0 then accL rs else []).length ((if rssE rs = 0 then accL rs else []).map Value.string) ∧ Sl G h2 1 (.slice z.2.2.1 (if rssE rs = 0 then othL rs else []).length z.2.2.2) (if rssE rs = 0 then othL rs else []).length ((if rssE rs = 0 then othL rs else []).map Value.string)) ∧ Grow h' h2) (fun r h2 ⟨⟨x, y, e, q⟩, g⟩ => by
    rw [if_pos hr, if_pos hr]
    obtain ⟨a, c, b, d, e1, e2, e3, e4⟩ := q.form (G := G)
    subst e1 e2
    exact ⟨⟨(a, c, b, d), e, e3, e4⟩, g⟩)
  have q56 := fun (h' : H) (a b : Option Addr) (c d : Nat) (s1 : Sl G h' 3 (.slice a n c) n (l.flatMap En.cells)) (s2 : Sl G h' 3 (.slice b m d) m (rs.flatMap Rs.cells)) (w' : Wf h') => c56 (c0 := c0) (c1 := c1) (c2 := c2) (c3 := c3) (c4 := c4) (c5 := c5) (c6 := c6) (c7 := c7) (c8 := c8) s1 hl hn s2 hrl hm w'
  have q57 := fun (h' : H) (a b : Option Addr) (c d : Nat) (s1 : Sl G h' 3 (.slice a n c) n (l.flatMap En.cells)) (s2 : Sl G h' 3 (.slice b m d) m (rs.flatMap Rs.cells)) (w' : Wf h') => c57 (c0 := c0) (c1 := c1) (c2 := c2) (c3 := c3) (c4 := c4) (c5 := c5) (c6 := c6) (c7 := c7) (c8 := c8) s1 hl hn s2 hrl hm w'
  have q58 := fun (h' : H) (g : Grow h h') (w' : Wf h') => c58 (sr.grow g) hrl hm hsz w'
  have q59 := fun (h' : H) (g : Grow h h') (w' : Wf h') => c59 (c0 := c0) (c1 := c1) (c2 := c2) (c3 := c3) (c4 := c4) (c5 := c5) (c6 := c6) (c7 := c7) (c8 := c8) (s.grow g) hl hn (sr.grow g) hrl hm w' hsz
  have q61 := fun (hE : bilE c0 c1 c2 c3 c4 c5 c6 c7 c8 l rs = 0) (h' : H) (g : Grow h h') (w' : Wf h') => c61 (c0 := c0) (c1 := c1) (c2 := c2) (c3 := c3) (c4 := c4) (c5 := c5) (c6 := c6) (c7 := c7) (c8 := c8) (s.grow g) hl hn (sr.grow g) hrl hm w' (bilE_parts hE).1 (bilE_parts hE).2.1 (bilE_parts hE).2.2
  have q61 := fun (hE : bilE c0 c1 c2 c3 c4 c5 c6 c7 c8 l rs = 0) (h' : H) (g : Grow h h') (w' : Wf h') => (q61 hE h' g w').mono (Q' := fun r h2 => r = .agg ⟨bilC c0 c1 c2 c3 c4 c5 c6 c7 c8 l rs⟩ ∧ Grow h' h2) (fun r h2 q => by rw [bilC_good hE]; exact q)
  have q62 := fun (h' : H) (w' : Wf h') => c62 (G := G) (h := h') (c0 := c0) (c1 := c1) (c2 := c2) (c3 := c3) (c4 := c4) (c5 := c5) (c6 := c6) (c7 := c7) (c8 := c8) w'
  have q63 := fun (h' : H) (w' : Wf h') => c63 (G := G) (h := h') (c0 := c0) (c1 := c1) (c2 := c2) (c3 := c3) (c4 := c4) (c5 := c5) (c6 := c6) (c7 := c7) (c8 := c8) w'
  have q64 := fun (h' : H) (v : Value) (s1 : Sl G h' 3 v m (rs.flatMap Rs.cells)) (w' : Wf h') => c64 s1 hrl hm w'
  have hbad := fun (hE : bilE c0 c1 c2 c3 c4 c5 c6 c7 c8 l rs ≠ 0) => bilC_bad hE
  have hAl : (if rssE rs = 0 then accL rs else []).length ≤ m := by split; · have := acc_len rs; omega
                                                                    · exact Nat.zero_le _
  have hOl : (if rssE rs = 0 then othL rs else []).length ≤ m := by split; · have := oth_len rs; omega
                                                                    · exact Nat.zero_le _
  have hAn : rssE rs ≠ 0 → (if rssE rs = 0 then accL rs else []) = [] := fun q => if_neg q
  have hOn : rssE rs ≠ 0 → (if rssE rs = 0 then othL rs else []) = [] := fun q => if_neg q
  obtain ⟨i0, i1, i2, i3, i4, i5, i6, i7, hI⟩ := bilC_eight (c0 := c0) (c1 := c1) (c2 := c2) (c3 := c3) (c4 := c4) (c5 := c5) (c6 := c6) (c7 := c7) (c8 := c8) (l := l) (rs := rs)
  obtain ⟨E, hE⟩ : ∃ E, bilE c0 c1 c2 c3 c4 c5 c6 c7 c8 l rs = E := ⟨_, rfl⟩
  rw [hI, hE] at q56 q57 hbad
  rw [hE] at q59
  rw [hI, hE] at q61
  obtain ⟨AL, hA⟩ : ∃ A, (if rssE rs = 0 then accL rs else []) = A := ⟨_, rfl⟩
  obtain ⟨OL, hO⟩ : ∃ A, (if rssE rs = 0 then othL rs else []) = A := ⟨_, rfl⟩
  rw [hA, hO] at q54 q60
  rw [hA] at hAl hAn
  rw [hO] at hOl hOn
  obtain ⟨R, hR⟩ : ∃ R, rssE rs = R := ⟨_, rfl⟩
  rw [hR] at q54 q58 q64 q60 hAn hOn
  obtain ⟨K1, hK1⟩ : ∃ k, AL.length = k := ⟨_, rfl⟩
  obtain ⟨K2, hK2⟩ : ∃ k, OL.length = k := ⟨_, rfl⟩
  rw [hK1] at q54 q60 hAl
  rw [hK2] at q54 q60 hOl
  obtain ⟨X, hX⟩ : ∃ X, ctE c0 c1 c2 c3 c4 c5 c6 c7 c8 = X := ⟨_, rfl⟩
  rw [hX] at q62 q63
  have qsA := fun (h' : H) (v1 v2 : Value) (s1 : Sl G h' 1 v1 K1 (AL.map Value.string)) (s2 : Sl G h' 1 v2 K1 (AL.map Value.string)) (w' : Wf h') => c13 s1 s2 (by omega) w'
  have qsO := fun (h' : H) (v1 v2 : Value) (s1 : Sl G h' 1 v1 K2 (OL.map Value.string)) (s2 : Sl G h' 1 v2 K2 (OL.map Value.string)) (w' : Wf h') => c13 s1 s2 (by omega) w'
  have eqI := eqv24_self i0 i1 i2 i3 i4 i5 i6 i7
  clear hI hE hA hO hR hX
  refine cf_enter0 127 [.tmp 6] Tryz.func8 rfl rfl rfl rfl ?_
  refine wc_mid (ι := Unit) (fun _ => [(1, .slice va n vc), (2, .slice ra m rc), (3, .pointer (some ⟨h.nx, 0, some 0⟩))]) (fun _ h' => (Wf h' ∧ Grow h h') ∧ At h' h.nx (.cells [.int .i64 c0, .int .i64 c1, .int .i64 c2, .int .i64 c3, .int .i64 c4, .int .i64 c5, .int .i64 c6, .int .i64 c7, .int .i64 c8] 105 9 false)) ?_ ?_
  · clear q38 q52 q53 q40 q55 q54 q60 q56 q57 q58 q59 q61 q62 q63 q64 qsA qsO
    repeat' (first | with_reducible refine wo_nil ?_ | ((with_reducible refine wo_any ?_); first | ((with_reducible refine ik_assign ?_); refine wo_op rfl (op_assign rfl) rfl rfl ?_) | ((with_reducible refine ik_box ?_); refine wo_op rfl (op_boxAgg rfl zs105 rfl) rfl rfl ?_)) | with_reducible refine wc_region ?_)
    exact ⟨rfl, (), within_lk ⟨rfl, rfl, rfl, trivial⟩, ⟨wf_A, gr_A⟩, at_A⟩
  rintro _ h1 ⟨⟨w1, g1⟩, aX⟩
  refine wc_midB (ι := Unit) (fun _ => [(1, .slice va n vc), (2, .slice ra m rc), (3, .pointer (some ⟨h.nx, 0, some 0⟩))]) (fun _ h' => Wf h' ∧ Grow h1 h') ?_ ?_
  · clear q40 q55 q54 q60 q56 q57 q58 q59 q61 q62 q63 q64 qsA qsO
    have n1 := g1.nx
    repeat' (first | with_reducible refine wo_nil ?_ | ((with_reducible refine wo_any ?_); first | ((with_reducible refine ik_move ?_); refine wo_op rfl (op_move rfl) rfl rfl ?_) | ((with_reducible refine ik_assign ?_); refine wo_op rfl (op_assign rfl) rfl rfl ?_) | ((with_reducible refine ik_un ?_); refine wo_op rfl (op_not rfl) rfl rfl ?_) | ((with_reducible refine ik_pick ?_); first | refine wo_op rfl (op_pickt rfl rfl) rfl rfl ?_ | refine wo_op rfl (op_pickf rfl rfl) rfl rfl ?_) | ((with_reducible refine ik_callF (f := 15) ?_); refine wo_op rfl (op_call rfl rfl (c15)) rfl rfl ?_) | ((with_reducible refine ik_callv ?_); (refine wo_call rfl rfl rfl rfl (q38 _ (g1.trans gr_A) wf_A) rfl rfl ?_; rintro _ _ ⟨rfl, hq⟩; all_goals ((try (have hqn := hq.nx)); (try simp only [H.nx_push, H.nx_set, H.nx_bump] at hqn)))) | ((with_reducible refine ik_g ?_); first | refine wo_gskip rfl rfl rfl rfl rfl rfl ?_ | ((with_reducible refine ig_move ?_); refine wo_grun rfl rfl rfl (op_move rfl) rfl rfl ?_) | ((with_reducible refine ig_un ?_); refine wo_grun rfl rfl rfl (op_not rfl) rfl rfl ?_) | ((with_reducible refine ig_callv ?_); first | (refine wo_gcall rfl rfl rfl rfl rfl rfl (q52 _ (g1.trans gr_A) wf_A) rfl rfl ?_; rintro _ _ ⟨⟨(_ | _), rfl⟩, hq⟩; all_goals ((try (have hqn := hq.nx)); (try simp only [H.nx_push, H.nx_set, H.nx_bump] at hqn))) | (refine wo_gcall rfl rfl rfl rfl rfl rfl (q53 _ (g1.trans gr_A) wf_A) rfl rfl ?_; rintro _ _ ⟨rfl, hq⟩; all_goals ((try (have hqn := hq.nx)); (try simp only [H.nx_push, H.nx_set, H.nx_bump] at hqn)))))) | with_reducible refine sq_norm ?_ | with_reducible refine wc_seq ?_ | with_reducible refine wc_region ?_ | with_reducible refine wc_skip ?_ | with_reducible refine wc_ret ?_ | refine wc_ift rfl ?_ | refine wc_iff rfl ?_)
    · exact .inr ⟨rfl, rq1 rfl ⟨rfl, g1.trans gr_A⟩⟩
    · exact .inl ⟨rfl, (), within_lk ⟨rfl, rfl, rfl, trivial⟩, wf_A, gr_A⟩
  clear w1 q38 q52 q53
  rintro _ h2 ⟨w1, g2⟩
  have aX := aX.grow g2
  have g1 := g1.trans g2
  clear g2
  refine wc_mid (ι := Option Addr × Nat × Option Addr × Nat) (fun xa => [(1, .slice va n vc), (2, .slice ra m rc), (3, .pointer (some ⟨h.nx, 0, some 0⟩)), (7, .slice xa.1 K1 xa.2.1), (8, .slice xa.2.2.1 K2 xa.2.2.2), (9, .int .i64 R)]) (fun xa h' => (Wf h' ∧ Grow h2 h') ∧ Sl G h' 1 (.slice xa.1 K1 xa.2.1) K1 (AL.map Value.string) ∧ Sl G h' 1 (.slice xa.2.2.1 K2 xa.2.2.2) K2 (OL.map Value.string)) ?_ ?_
  · clear q40 q60 q56 q57 q58 q59 q61 q62 q63 q64 qsA qsO
    have n1 := g1.nx
    repeat' (first | with_reducible refine wo_nil ?_ | ((with_reducible refine wo_any ?_); first | ((with_reducible refine ik_move ?_); refine wo_op rfl (op_move rfl) rfl rfl ?_) | ((with_reducible refine ik_assign ?_); refine wo_op rfl (op_assign rfl) rfl rfl ?_) | ((with_reducible refine ik_extract ?_); refine wo_op rfl (op_extract rfl rfl) rfl rfl ?_) | ((with_reducible refine ik_callv ?_); first | (refine wo_call rfl rfl rfl rfl (q55 _ (g1.trans gr_A) wf_A) rfl rfl ?_; rintro _ _ ⟨⟨a1, d1, rfl, s1⟩, hq⟩; all_goals ((try (have hqn := hq.nx)); (try simp only [H.nx_push, H.nx_set, H.nx_bump] at hqn))) | (refine wo_call rfl rfl rfl rfl (q54 _ _ (s1.grow gr_A) wf_A) rfl rfl ?_; rintro _ _ ⟨⟨xa, rfl, sA, sO⟩, hq⟩; all_goals ((try (have hqn := hq.nx)); (try simp only [H.nx_push, H.nx_set, H.nx_bump] at hqn))))) | with_reducible refine wc_region ?_)
    exact ⟨rfl, xa, within_lk ⟨rfl, rfl, rfl, rfl, rfl, rfl, trivial⟩, ⟨wf_A, gr_A⟩, sA.grow gr_A, sO.grow gr_A⟩
  clear w1 q54
  rintro xa h3 ⟨⟨w1, g2⟩, sA, sO⟩
  have aX := aX.grow g2
  have g1 := g1.trans g2
  clear g2
  refine wc_mid (ι := Nat) (fun b10 => [(1, .slice va n vc), (2, .slice ra m rc), (3, .pointer (some ⟨h.nx, 0, some 0⟩)), (7, .slice xa.1 K1 xa.2.1), (8, .slice xa.2.2.1 K2 xa.2.2.2), (9, .int .i64 R), (10, .pointer (some ⟨b10, 0, some 0⟩)), (11, .int .i64 E)]) (fun b10 h' => (Wf h' ∧ Grow h3 h') ∧ At h' b10 (.cells [.int .i64 i0, .int .i64 i1, .int .i64 i2, .int .i64 i3, .int .i64 i4, .int .i64 i5, .int .i64 i6, .int .i64 i7] 29 8 false)) ?_ ?_
  · clear q60 q57 q58 q59 q61 q62 q63 q64 qsA qsO
    have n1 := g1.nx
    have lX := aX.lt
    repeat' (first | ((with_reducible refine xk_any ?_); first | ((with_reducible refine xk_as0 ?_); first | ((with_reducible refine xk_move ?_); refine wx_q (wt_none rfl) rfl rfl (op_q rfl (op_move rfl)) rfl rfl rfl ?_) | ((with_reducible refine xk_extract ?_); refine wx_q (wt_none rfl) rfl rfl (op_q rfl (op_extract rfl rfl)) rfl rfl rfl ?_) | ((with_reducible refine xk_load ?_); refine wx_h0 (wt_none rfl) rfl (op_q rfl (op_ldAgg rfl at_A Tryz.underlying105 rfl zs105 rfl rfl)) rfl rfl rfl ?_) | ((with_reducible refine xk_alloc ?_); refine wx_a0 (wt_none rfl) rfl (oa_alloc zz29 zs29 rfl rfl rfl) rfl rfl ?_) | ((with_reducible refine xk_callv ?_); first | (refine wx_call0 (wt_none rfl) rfl rfl rfl rfl (q40 _ (g1.trans gr_A) wf_A) rfl rfl ?_; rintro _ _ ⟨⟨a1, d1, rfl, s1⟩, hq⟩; all_goals ((try (have hqn := hq.nx)); (try simp only [H.nx_push, H.nx_set, H.nx_bump] at hqn))) | (refine wx_call0 (wt_none rfl) rfl rfl rfl rfl (q55 _ (g1.trans gr_A) wf_A) rfl rfl ?_; rintro _ _ ⟨⟨a2, d2, rfl, s2⟩, hq⟩; all_goals ((try (have hqn := hq.nx)); (try simp only [H.nx_push, H.nx_set, H.nx_bump] at hqn))) | (refine wx_call0 (wt_none rfl) rfl rfl rfl rfl (q56 _ _ _ _ _ (s1.grow gr_A) (s2.grow gr_A) wf_A) rfl rfl ?_; rintro _ _ ⟨rfl, hq⟩; all_goals ((try (have hqn := hq.nx)); (try simp only [H.nx_push, H.nx_set, H.nx_bump] at hqn))))) | ((with_reducible refine xk_assign ?_); refine wx_q (wt_none rfl) rfl rfl (op_q rfl (op_assign rfl)) rfl rfl rfl ?_) | ((with_reducible refine xk_store ?_); ((with_reducible refine xk_as1 ?_); refine wx_e01 (wt_none rfl) rfl rfl rfl (op_stAgg rfl rfl at_A zs29 rfl rfl rfl rfl) rfl ?_)) | refine wx_niln ?_ ?_ rfl rfl ?_) | with_reducible exact obl_nil | with_reducible refine obl_cons ?_ ?_ | ((with_reducible refine ik_obs ?_); first | exact obs_nil | refine obs_skip rfl ?_ | refine obs_chkn rfl rfl (op_q rfl (op_ldAgg rfl at_A Tryz.underlying105 rfl zs105 (by rfl) rfl)) ?_) | with_reducible exact stk_nil | with_reducible refine stk_cons ?_ ?_ | ((with_reducible refine ik_stk ?_); first | exact stk_abs rfl rfl | exact stk_freeB rfl rfl wf_A gr_B) | refine wc_drawB (id := 4) 12 [0, 0, 2, 0, 14, 31, 63, 127, 127, 0, 767, 2047] [0, 1, 2, 3, 4, 5, 6, 7, 8, 9, 10, 11] (by kernel_rfl) (by kernel_rfl) rfl rfl ?_)
    exact ⟨rfl, _, within_lk ⟨rfl, rfl, rfl, rfl, rfl, rfl, rfl, rfl, trivial⟩, ⟨wf_A, gr_A⟩, at_A⟩
  clear w1 q56
  rintro b10 h4 ⟨⟨w1, g2⟩, a10⟩
  have aX := aX.grow g2
  have sA := sA.grow g2
  have sO := sO.grow g2
  have g1 := g1.trans g2
  clear g2
  refine wc_mid (ι := Nat) (fun b12 => [(1, .slice va n vc), (2, .slice ra m rc), (3, .pointer (some ⟨h.nx, 0, some 0⟩)), (7, .slice xa.1 K1 xa.2.1), (8, .slice xa.2.2.1 K2 xa.2.2.2), (9, .int .i64 R), (10, .pointer (some ⟨b10, 0, some 0⟩)), (11, .int .i64 E), (12, .pointer (some ⟨b12, 0, some 0⟩)), (13, .int .i64 E)]) (fun b12 h' => (Wf h' ∧ Grow h4 h') ∧ At h' b12 (.cells [.int .i64 i0, .int .i64 i1, .int .i64 i2, .int .i64 i3, .int .i64 i4, .int .i64 i5, .int .i64 i6, .int .i64 i7] 29 8 false)) ?_ ?_
  · clear q60 q58 q59 q61 q62 q63 q64 qsA qsO
    have n1 := g1.nx
    have lX := aX.lt
    repeat' (first | ((with_reducible refine xk_any ?_); first | ((with_reducible refine xk_as0 ?_); first | ((with_reducible refine xk_move ?_); refine wx_q (wt_none rfl) rfl rfl (op_q rfl (op_move rfl)) rfl rfl rfl ?_) | ((with_reducible refine xk_extract ?_); refine wx_q (wt_none rfl) rfl rfl (op_q rfl (op_extract rfl rfl)) rfl rfl rfl ?_) | ((with_reducible refine xk_load ?_); refine wx_h0 (wt_none rfl) rfl (op_q rfl (op_ldAgg rfl at_A Tryz.underlying105 rfl zs105 rfl rfl)) rfl rfl rfl ?_) | ((with_reducible refine xk_alloc ?_); refine wx_a0 (wt_none rfl) rfl (oa_alloc zz29 zs29 rfl rfl rfl) rfl rfl ?_) | ((with_reducible refine xk_callv ?_); first | (refine wx_call0 (wt_none rfl) rfl rfl rfl rfl (q40 _ (g1.trans gr_A) wf_A) rfl rfl ?_; rintro _ _ ⟨⟨a1, d1, rfl, s1⟩, hq⟩; all_goals ((try (have hqn := hq.nx)); (try simp only [H.nx_push, H.nx_set, H.nx_bump] at hqn))) | (refine wx_call0 (wt_none rfl) rfl rfl rfl rfl (q55 _ (g1.trans gr_A) wf_A) rfl rfl ?_; rintro _ _ ⟨⟨a2, d2, rfl, s2⟩, hq⟩; all_goals ((try (have hqn := hq.nx)); (try simp only [H.nx_push, H.nx_set, H.nx_bump] at hqn))) | (refine wx_call0 (wt_none rfl) rfl rfl rfl rfl (q57 _ _ _ _ _ (s1.grow gr_A) (s2.grow gr_A) wf_A) rfl rfl ?_; rintro _ _ ⟨rfl, hq⟩; all_goals ((try (have hqn := hq.nx)); (try simp only [H.nx_push, H.nx_set, H.nx_bump] at hqn))))) | ((with_reducible refine xk_assign ?_); refine wx_q (wt_none rfl) rfl rfl (op_q rfl (op_assign rfl)) rfl rfl rfl ?_) | ((with_reducible refine xk_store ?_); ((with_reducible refine xk_as1 ?_); refine wx_e01 (wt_none rfl) rfl rfl rfl (op_stAgg rfl rfl at_A zs29 rfl rfl rfl rfl) rfl ?_)) | refine wx_niln ?_ ?_ rfl rfl ?_) | with_reducible exact obl_nil | with_reducible refine obl_cons ?_ ?_ | ((with_reducible refine ik_obs ?_); first | exact obs_nil | refine obs_skip rfl ?_ | refine obs_chkn rfl rfl (op_q rfl (op_ldAgg rfl at_A Tryz.underlying105 rfl zs105 (by rfl) rfl)) ?_) | with_reducible exact stk_nil | with_reducible refine stk_cons ?_ ?_ | ((with_reducible refine ik_stk ?_); first | exact stk_abs rfl rfl | exact stk_freeB rfl rfl wf_A gr_B) | refine wc_drawB (id := 5) 12 [0, 0, 2, 0, 14, 31, 63, 127, 127, 0, 767, 2047] [0, 1, 2, 3, 4, 5, 6, 7, 8, 9, 10, 11] (by kernel_rfl) (by kernel_rfl) rfl rfl ?_)
    exact ⟨rfl, _, within_lk ⟨rfl, rfl, rfl, rfl, rfl, rfl, rfl, rfl, rfl, rfl, trivial⟩, ⟨wf_A, gr_A⟩, at_A⟩
  clear w1 q57 q40
  rintro b12 h5 ⟨⟨w1, g2⟩, a12⟩
  have aX := aX.grow g2
  have sA := sA.grow g2
  have sO := sO.grow g2
  have a10 := a10.grow g2
  have g1 := g1.trans g2
  clear g2
  refine wc_mid (ι := Unit) (fun _ => [(1, .slice va n vc), (2, .slice ra m rc), (3, .pointer (some ⟨h.nx, 0, some 0⟩)), (7, .slice xa.1 K1 xa.2.1), (8, .slice xa.2.2.1 K2 xa.2.2.2), (9, .int .i64 R), (10, .pointer (some ⟨b10, 0, some 0⟩)), (11, .int .i64 E), (12, .pointer (some ⟨b12, 0, some 0⟩)), (13, .int .i64 E), (14, .int .i64 R), (15, .int .i64 E)]) (fun _ h' => Wf h' ∧ Grow h5 h') ?_ ?_
  · clear q60 q55 q61 q62 q63 q64 qsA qsO
    have n1 := g1.nx
    have lX := aX.lt
    repeat' (first | ((with_reducible refine xk_any ?_); ((with_reducible refine xk_as0 ?_); first | ((with_reducible refine xk_move ?_); refine wx_q (wt_none rfl) rfl rfl (op_q rfl (op_move rfl)) rfl rfl rfl ?_) | ((with_reducible refine xk_assign ?_); refine wx_q (wt_none rfl) rfl rfl (op_q rfl (op_assign rfl)) rfl rfl rfl ?_) | ((with_reducible refine xk_load ?_); refine wx_h0 (wt_none rfl) rfl (op_q rfl (op_ldAgg rfl at_A Tryz.underlying105 rfl zs105 rfl rfl)) rfl rfl rfl ?_) | ((with_reducible refine xk_callv ?_); first | (refine wx_call0 (wt_none rfl) rfl rfl rfl rfl (q58 _ (g1.trans gr_A) wf_A) rfl rfl ?_; rintro _ _ ⟨rfl, hq⟩; all_goals ((try (have hqn := hq.nx)); (try simp only [H.nx_push, H.nx_set, H.nx_bump] at hqn))) | (refine wx_call0 (wt_none rfl) rfl rfl rfl rfl (q59 _ (g1.trans gr_A) wf_A) rfl rfl ?_; rintro _ _ ⟨rfl, hq⟩; all_goals ((try (have hqn := hq.nx)); (try simp only [H.nx_push, H.nx_set, H.nx_bump] at hqn)))) | with_reducible refine wx_nil0 ?_ ?_)) | with_reducible exact obl_nil | with_reducible refine obl_cons ?_ ?_ | ((with_reducible refine ik_obs ?_); first | exact obs_nil | refine obs_skip rfl ?_ | refine obs_chkn rfl rfl (op_q rfl (op_ldAgg rfl at_A Tryz.underlying105 rfl zs105 (by rfl) rfl)) ?_) | refine wc_drawB (id := 6) 8 [0, 1, 0, 0, 0, 31, 63, 127] [0, 1, 2, 3, 4, 5, 6, 7] (by kernel_rfl) (by kernel_rfl) rfl rfl ?_)
    exact ⟨rfl, (), within_lk ⟨rfl, rfl, rfl, rfl, rfl, rfl, rfl, rfl, rfl, rfl, rfl, rfl, trivial⟩, wf_A, gr_A⟩
  clear w1 q58 q59
  rintro _ h6 ⟨w1, g2⟩
  have aX := aX.grow g2
  have sA := sA.grow g2
  have sO := sO.grow g2
  have a10 := a10.grow g2
  have a12 := a12.grow g2
  have g1 := g1.trans g2
  clear g2
  refine wc_mid (ι := Unit) (fun _ => [(1, .slice va n vc), (2, .slice ra m rc), (3, .pointer (some ⟨h.nx, 0, some 0⟩)), (7, .slice xa.1 K1 xa.2.1), (8, .slice xa.2.2.1 K2 xa.2.2.2), (9, .int .i64 R), (10, .pointer (some ⟨b10, 0, some 0⟩)), (11, .int .i64 E), (12, .pointer (some ⟨b12, 0, some 0⟩)), (13, .int .i64 E), (14, .int .i64 R), (15, .int .i64 E), (16, .slice none 0 0), (17, .slice none 0 0)]) (fun _ h' => h6 = h') ?_ ?_
  · repeat' (first | with_reducible refine wo_nil ?_ | ((with_reducible refine wo_any ?_); ((with_reducible refine ik_assign ?_); refine wo_op rfl (op_assign rfl) rfl rfl ?_)) | with_reducible refine wc_region ?_)
    exact ⟨rfl, (), within_lk ⟨rfl, rfl, rfl, rfl, rfl, rfl, rfl, rfl, rfl, rfl, rfl, rfl, rfl, rfl, trivial⟩, rfl⟩
  rintro _ _ rfl
  refine wc_mid (ι := Nat) (fun b18 => [(1, .slice va n vc), (2, .slice ra m rc), (3, .pointer (some ⟨h.nx, 0, some 0⟩)), (7, .slice xa.1 K1 xa.2.1), (8, .slice xa.2.2.1 K2 xa.2.2.2), (9, .int .i64 R), (10, .pointer (some ⟨b10, 0, some 0⟩)), (11, .int .i64 E), (12, .pointer (some ⟨b12, 0, some 0⟩)), (13, .int .i64 E), (14, .int .i64 R), (15, .int .i64 E), (16, .slice none 0 0), (17, .slice none 0 0), (18, .pointer (some ⟨b18, 0, some 0⟩))]) (fun b18 h' => (Wf h' ∧ Grow h6 h') ∧ h6.nx ≤ b18 ∧ At h' b18 (.cells [.int .i64 0, .int .i64 0, .int .i64 0, .int .i64 0, .int .i64 0, .int .i64 0, .int .i64 0, .int .i64 0] 24 8 false)) ?_ ?_
  · repeat' (first | with_reducible refine wo_nil ?_ | ((with_reducible refine wo_any ?_); ((with_reducible refine ik_alloc ?_); refine wo_op rfl (op_alloc zz29 zs29 rfl rfl rfl) rfl rfl ?_)) | with_reducible refine wc_region ?_)
    exact ⟨rfl, h6.nx, within_lk ⟨rfl, rfl, rfl, rfl, rfl, rfl, rfl, rfl, rfl, rfl, rfl, rfl, rfl, rfl, rfl, trivial⟩, ⟨wf_A, gr_A⟩, Nat.le_refl _, at_A⟩
  clear w1
  have n6 := g1.nx
  have lX6 := aX.lt
  have l10 := a10.lt
  have l12 := a12.lt
  rintro b18 h7 ⟨⟨w1, g2⟩, hb18, a18⟩
  refine wc_mid (ι := Option Addr × Nat × Option Addr × Nat) (fun ya => [(1, .slice va n vc), (2, .slice ra m rc), (3, .pointer (some ⟨h.nx, 0, some 0⟩)), (7, .slice xa.1 K1 xa.2.1), (8, .slice xa.2.2.1 K2 xa.2.2.2), (9, .int .i64 R), (10, .pointer (some ⟨b10, 0, some 0⟩)), (11, .int .i64 E), (12, .pointer (some ⟨b12, 0, some 0⟩)), (13, .int .i64 E), (14, .int .i64 R), (15, .int .i64 E), (16, .slice ya.1 K1 ya.2.1), (17, .slice ya.2.2.1 K2 ya.2.2.2), (18, .pointer (some ⟨b18, 0, some 0⟩))]) (fun ya h' => (Wf h' ∧ Grow h6 h') ∧ (Sl G h' 1 (.slice ya.1 K1 ya.2.1) K1 (AL.map Value.string) ∧ Sl G h' 1 (.slice ya.2.2.1 K2 ya.2.2.2) K2 (OL.map Value.string)) ∧ At h' b18 (.cells [.int .i64 0, .int .i64 0, .int .i64 0, .int .i64 0, .int .i64 0, .int .i64 0, .int .i64 0, .int .i64 0] 24 8 false)) ?_ ?_
  · clear q55 q61 q62 q63 q64 qsA qsO
    have g3 := g1.trans g2
    by_cases hr : R = 0
    · have k60 := q60 hr
      clear q60 hAn hOn
      rw [hr]
      repeat' (first | with_reducible refine wo_nil ?_ | ((with_reducible refine wo_any ?_); first | ((with_reducible refine ik_move ?_); refine wo_op rfl (op_move rfl) rfl rfl ?_) | ((with_reducible refine ik_assign ?_); refine wo_op rfl (op_assign rfl) rfl rfl ?_) | ((with_reducible refine ik_extract ?_); refine wo_op rfl (op_extract rfl rfl) rfl rfl ?_) | ((with_reducible refine ik_bin ?_); refine wo_op rfl (op_eql rfl rfl) rfl rfl ?_) | ((with_reducible refine ik_callv ?_); (refine wo_call rfl rfl rfl rfl (k60 _ (g3.trans gr_A) wf_A) rfl rfl ?_; rintro _ _ ⟨⟨ya, rfl, sA2, sO2⟩, hq⟩; all_goals ((try (have hqn := hq.nx)); (try simp only [H.nx_push, H.nx_set, H.nx_bump] at hqn))))) | with_reducible refine sq_norm ?_ | with_reducible refine wc_seq ?_ | with_reducible refine wc_region ?_ | refine wc_ift rfl ?_)
      exact ⟨rfl, ya, within_lk ⟨rfl, rfl, rfl, rfl, rfl, rfl, rfl, rfl, rfl, rfl, rfl, rfl, rfl, rfl, rfl, trivial⟩, ⟨wf_A, g2.trans gr_A⟩, ⟨sA2.grow gr_A, sO2.grow gr_A⟩, at_A⟩
    · have e1 := hAn hr
      have e2 := hOn hr
      subst e1 e2
      subst hK1 hK2
      clear q60 hAn hOn
      repeat' (first | with_reducible refine wo_nil ?_ | ((with_reducible refine wo_any ?_); first | ((with_reducible refine ik_move ?_); refine wo_op rfl (op_move rfl) rfl rfl ?_) | ((with_reducible refine ik_bin ?_); refine wo_op rfl (op_eql rfl rfl) rfl rfl ?_)) | with_reducible refine sq_norm ?_ | with_reducible refine wc_seq ?_ | with_reducible refine wc_region ?_ | with_reducible refine wc_skip ?_ | (refine wc_if rfl (fun hb => dead_A hb) (fun hb => ?_); (try simp only [decide_eq_true_eq, decide_eq_false_iff_not, Bool.not_eq_true', Bool.not_eq_false', Int.not_lt, Int.not_le, Decidable.not_not, not_true_eq_false, not_false_eq_true, beq_self_eq_true, reduceCtorEq] at hb)))
      exact ⟨rfl, (none, 0, none, 0), within_lk ⟨rfl, rfl, rfl, rfl, rfl, rfl, rfl, rfl, rfl, rfl, rfl, rfl, rfl, rfl, rfl, trivial⟩, ⟨wf_A, gr_A⟩, ⟨.nil, .nil⟩, at_A⟩
  clear w1 g2 a18 q60 hAn hOn
  rintro ya h8 ⟨⟨w1, g2⟩, ⟨sA2, sO2⟩, a18⟩
  refine wc_mid (ι := Unit) (fun _ => [(1, .slice va n vc), (2, .slice ra m rc), (3, .pointer (some ⟨h.nx, 0, some 0⟩)), (7, .slice xa.1 K1 xa.2.1), (8, .slice xa.2.2.1 K2 xa.2.2.2), (9, .int .i64 R), (10, .pointer (some ⟨b10, 0, some 0⟩)), (11, .int .i64 E), (12, .pointer (some ⟨b12, 0, some 0⟩)), (13, .int .i64 E), (14, .int .i64 R), (15, .int .i64 E), (16, .slice ya.1 K1 ya.2.1), (17, .slice ya.2.2.1 K2 ya.2.2.2), (18, .pointer (some ⟨b18, 0, some 0⟩))]) (fun _ h' => (Wf h' ∧ Grow h6 h') ∧ (Sl G h' 1 (.slice ya.1 K1 ya.2.1) K1 (AL.map Value.string) ∧ Sl G h' 1 (.slice ya.2.2.1 K2 ya.2.2.2) K2 (OL.map Value.string)) ∧ At h' b18 (.cells [.int .i64 i0, .int .i64 i1, .int .i64 i2, .int .i64 i3, .int .i64 i4, .int .i64 i5, .int .i64 i6, .int .i64 i7] 24 8 false)) ?_ ?_
  · clear q55 q62 q63 q64 qsA qsO
    have g3 := g1.trans g2
    have lX := (aX.grow g2).lt
    have aX8 := aX.grow g2
    have l18 := a18.lt
    have n8 := g2.nx
    by_cases he : E = 0
    · have k61 := q61 he
      clear q61 hbad
      rw [he]
      repeat' (first | with_reducible refine wo_nil ?_ | ((with_reducible refine wo_any ?_); first | ((with_reducible refine ik_move ?_); refine wo_op rfl (op_move rfl) rfl rfl ?_) | ((with_reducible refine ik_load ?_); refine wo_op rfl (op_ldAgg (b := h.nx) (off := 0) rfl at_A Tryz.underlying105 rfl zs105 rfl rfl) rfl rfl ?_) | ((with_reducible refine ik_store ?_); refine wo_op0 rfl (op_stAgg rfl rfl at_A zs29 rfl rfl rfl rfl) rfl ?_) | ((with_reducible refine ik_bin ?_); refine wo_op rfl (op_eql rfl rfl) rfl rfl ?_) | ((with_reducible refine ik_callv ?_); (refine wo_call rfl rfl rfl rfl (k61 _ (g3.trans gr_A) wf_A) rfl rfl ?_; rintro _ _ ⟨rfl, hq⟩; all_goals ((try (have hqn := hq.nx)); (try simp only [H.nx_push, H.nx_set, H.nx_bump] at hqn))))) | with_reducible refine sq_norm ?_ | with_reducible refine wc_seq ?_ | with_reducible refine wc_region ?_ | refine wc_ift rfl ?_)
      exact ⟨rfl, (), within_lk ⟨rfl, rfl, rfl, rfl, rfl, rfl, rfl, rfl, rfl, rfl, rfl, rfl, rfl, rfl, rfl, trivial⟩, ⟨wf_A, gr_A⟩, ⟨Sl.set_ne (sA2.grow gr_A) at_A (by decide) _, Sl.set_ne (sO2.grow gr_A) at_A (by decide) _⟩, at_A⟩
    · have e1 := hbad he
      simp only [List.cons.injEq, Value.int.injEq, true_and, and_true] at e1
      obtain ⟨rfl, rfl, rfl, rfl, rfl, rfl, rfl, rfl⟩ := e1
      clear q61 hbad
      repeat' (first | with_reducible refine wo_nil ?_ | ((with_reducible refine wo_any ?_); first | ((with_reducible refine ik_move ?_); refine wo_op rfl (op_move rfl) rfl rfl ?_) | ((with_reducible refine ik_bin ?_); refine wo_op rfl (op_eql rfl rfl) rfl rfl ?_)) | with_reducible refine sq_norm ?_ | with_reducible refine wc_seq ?_ | with_reducible refine wc_region ?_ | with_reducible refine wc_skip ?_ | (refine wc_if rfl (fun hb => dead_A hb) (fun hb => ?_); (try simp only [decide_eq_true_eq, decide_eq_false_iff_not, Bool.not_eq_true', Bool.not_eq_false', Int.not_lt, Int.not_le, Decidable.not_not, not_true_eq_false, not_false_eq_true, beq_self_eq_true, reduceCtorEq] at hb)))
      exact ⟨rfl, (), within_lk ⟨rfl, rfl, rfl, rfl, rfl, rfl, rfl, rfl, rfl, rfl, rfl, rfl, rfl, rfl, rfl, trivial⟩, ⟨w1, g2⟩, ⟨sA2, sO2⟩, a18⟩
  clear w1 g2 a18 sA2 sO2 q61 hbad
  rintro _ h9 ⟨⟨w1, g2⟩, ⟨sA2, sO2⟩, a18⟩
  have aX := aX.grow g2
  have sA := sA.grow g2
  have sO := sO.grow g2
  have a10 := a10.grow g2
  have a12 := a12.grow g2
  have g1 := g1.trans g2
  clear g2 lX6 l10 l12 n6 hb18
  have n9 := g1.nx
  have lX := aX.lt
  have l10 := a10.lt
  have l12 := a12.lt
  have l18 := a18.lt
  repeat' (first | ((with_reducible refine xk_any ?_); ((with_reducible refine xk_as0 ?_); first | ((with_reducible refine xk_move ?_); refine wx_q (wt_none rfl) rfl rfl (op_q rfl (op_move rfl)) rfl rfl rfl ?_) | ((with_reducible refine xk_assign ?_); refine wx_q (wt_none rfl) rfl rfl (op_q rfl (op_assign rfl)) rfl rfl rfl ?_) | ((with_reducible refine xk_load ?_); refine wx_h0 (wt_none rfl) rfl (op_q rfl (op_ldAgg (b := h.nx) (off := 0) rfl at_A Tryz.underlying105 rfl zs105 rfl rfl)) rfl rfl rfl ?_) | ((with_reducible refine xk_bin ?_); refine wx_q (wt_none rfl) rfl rfl (op_q rfl (op_eql rfl rfl)) rfl rfl rfl ?_) | ((with_reducible refine xk_pick ?_); refine wx_q (wt_none rfl) rfl rfl (op_q rfl (op_pickt rfl rfl)) rfl rfl rfl ?_) | ((with_reducible refine xk_callv ?_); first | (refine wx_call0 (wt_none rfl) rfl rfl rfl rfl (q62 _ wf_A) rfl rfl ?_; rintro _ _ ⟨rfl, hq⟩; all_goals ((try (have hqn := hq.nx)); (try simp only [H.nx_push, H.nx_set, H.nx_bump] at hqn))) | (refine wx_call0 (wt_none rfl) rfl rfl rfl rfl (q63 _ wf_A) rfl rfl ?_; rintro _ _ ⟨rfl, hq⟩; all_goals ((try (have hqn := hq.nx)); (try simp only [H.nx_push, H.nx_set, H.nx_bump] at hqn)))) | ((with_reducible refine xk_g ?_); first | ((with_reducible refine xg_move ?_); refine wx_q (wt_run rfl rfl rfl) rfl rfl (op_q rfl (op_move rfl)) rfl rfl rfl ?_) | ((with_reducible refine xg_load ?_); first | refine wx_h0 (wt_run rfl rfl rfl) rfl (op_q rfl (op_ldAgg (b := b10) (off := 0) rfl at_A Tryz.underlying29 rfl zs29 rfl rfl)) rfl rfl rfl ?_ | refine wx_h0 (wt_run rfl rfl rfl) rfl (op_q rfl (op_ldAgg (b := b12) (off := 0) rfl at_A Tryz.underlying29 rfl zs29 rfl rfl)) rfl rfl rfl ?_ | refine wx_h0 (wt_run rfl rfl rfl) rfl (op_q rfl (op_ldAgg (b := b18) (off := 0) rfl at_A Tryz.underlying24 rfl zs24 rfl rfl)) rfl rfl rfl ?_) | ((with_reducible refine xg_bin ?_); first | refine wx_q (wt_run rfl rfl rfl) rfl rfl (op_q rfl (op_eqT 3 rfl rfl rfl Tryz.underlying24 rfl eg24 eqI)) rfl rfl rfl ?_ | refine wx_q (wt_run rfl rfl rfl) rfl rfl (op_q rfl (op_eql rfl rfl)) rfl rfl rfl ?_) | ((with_reducible refine xg_callF (f := 15) ?_); refine wx_ee (wt_run rfl rfl rfl) rfl rfl (op_call rfl rfl (c15)) rfl rfl ?_) | ((with_reducible refine xg_callv ?_); first | (refine wx_call0 (wt_run rfl rfl rfl) rfl rfl rfl rfl (q55 _ (g1.trans gr_A) wf_A) rfl rfl ?_; rintro _ _ ⟨⟨a1, d1, rfl, s1⟩, hq⟩; all_goals ((try (have hqn := hq.nx)); (try simp only [H.nx_push, H.nx_set, H.nx_bump] at hqn))) | (refine wx_call0 (wt_run rfl rfl rfl) rfl rfl rfl rfl (q64 _ _ (s1.grow gr_A) wf_A) rfl rfl ?_; rintro _ _ ⟨rfl, hq⟩; all_goals ((try (have hqn := hq.nx)); (try simp only [H.nx_push, H.nx_set, H.nx_bump] at hqn))) | (refine wx_call0 (wt_run rfl rfl rfl) rfl rfl rfl rfl (qsA _ _ _ (sA.grow gr_A) (sA2.grow gr_A) wf_A) rfl rfl ?_; rintro _ _ ⟨rfl, hq⟩; all_goals ((try (have hqn := hq.nx)); (try simp only [H.nx_push, H.nx_set, H.nx_bump] at hqn))) | (refine wx_call0 (wt_run rfl rfl rfl) rfl rfl rfl rfl (qsO _ _ _ (sO.grow gr_A) (sO2.grow gr_A) wf_A) rfl rfl ?_; rintro _ _ ⟨rfl, hq⟩; all_goals ((try (have hqn := hq.nx)); (try simp only [H.nx_push, H.nx_set, H.nx_bump] at hqn)))) | (refine wx_split rfl rfl rfl (fun hb => ?_) (fun hb => (of_decide_eq_false hb rfl).elim); (try simp only [decide_eq_true_eq, decide_eq_false_iff_not, Bool.not_eq_true', Bool.not_eq_false', Int.not_lt, Int.not_le, Decidable.not_not, not_true_eq_false, not_false_eq_true, beq_self_eq_true, reduceCtorEq] at hb))) | with_reducible refine wx_nil0 ?_ ?_)) | with_reducible exact obl_nil | with_reducible refine obl_cons ?_ ?_ | ((with_reducible refine ik_obs ?_); first | exact obs_nil | refine obs_skip rfl ?_ | refine obs_chkn rfl rfl (op_q rfl (op_ldAgg (b := h.nx) (off := 0) rfl at_A Tryz.underlying105 rfl zs105 (by rfl) rfl)) ?_ | refine obs_chkn rfl rfl (op_q rfl (op_ldAgg (b := b10) (off := 0) rfl at_A Tryz.underlying29 rfl zs29 (by rfl) rfl)) ?_ | refine obs_chkn rfl rfl (op_q rfl (op_ldAgg (b := b12) (off := 0) rfl at_A Tryz.underlying29 rfl zs29 (by rfl) rfl)) ?_ | refine obs_chkn rfl rfl (op_q rfl (op_ldAgg (b := b18) (off := 0) rfl at_A Tryz.underlying24 rfl zs24 (by rfl) rfl)) ?_) | with_reducible refine sq_norm ?_ | with_reducible refine wc_seq ?_ | with_reducible refine wc_ret ?_ | refine wc_drawB (id := 13) 51 [0, 1, 0, 7, 15, 31, 63, 127, 255, 63, 1023, 2047, 4095, 8191, 8191, 32767, 65535, 131071, 262143, 262143, 1048575, 2097151, 4194303, 8388607, 8388607, 33554431, 67108863, 134217727, 268435455, 268435455, 1073741823, 2147483647, 4294967295, 8589934591, 8589934591, 34359738367, 68719476735, 137438953471, 274877906943, 274877906943, 1099511627775, 2199023255551, 4398046511103, 8796093022207, 8796093022207, 35184372088831, 70368744177663, 140737488355327, 281474976710655, 562949953421311, 1125899906842623] [0, 1, 2, 3, 4, 5, 6, 7, 8, 9, 10, 11, 12, 13, 14, 15, 16, 17, 18, 19, 20, 21, 22, 23, 24, 25, 26, 27, 28, 29, 30, 31, 32, 33, 34, 35, 36, 37, 38, 39, 40, 41, 42, 43, 44, 45, 46, 47, 48, 49, 50] (by kernel_rfl) (by kernel_rfl) rfl rfl ?_)
  all_goals exact rq1 rfl ⟨rfl, g1.trans gr_A⟩
end Go.Proofs.YtlioomhcdlicmaaGreatDoor
