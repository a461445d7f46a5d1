/- Shots joined by the reference; what is made, told of copies. -/
import Derived.Test.YtdelgpbfdimefaaGreatDoorM3
set_option linter.all false
/- Shots joined by the reference (unfinished: two goals left open). -/
namespace Go.Proofs.YtdelgpbfdimefaaGreatDoor
open Go Go.Ab Go.Fl
attribute [local irreducible] SeqQ BlkQ LpQ RetQ Wc Wo WD WX Op1 Op1q Op1a Cf Cl From
attribute [local irreducible] Ieee.Format.order Ieee.Format.read Ieee.Format.nearest Ieee.Format.write Ieee.Format.mul Ieee.Format.div Ieee.Datum.order Ieee.Datum.integral smpE smp smpW K J U trE hdrE lchk firstNZ isNameB wid mism shE offs shortB anyLarge spanE folE
set_option maxRecDepth 10000
variable {G : Base} {h : H}

/-- More samples behind one's own. -/
theorem app_more {g0 h : H} {b n m : Nat} {c new : List Value} {sf : Bool} {w : Value} (hat : At h b (.cells c 23 1 sf)) (hcl : c.length = n) (hnm : n + m < 1000000) (sl : Sl G h 1 w m new) (hone : new.all one = true) (hg : Grow g0 h) (hb : g0.nx ≤ b) :
    ∃ r h2, aappend (mz G).P (mz G).G h 45 45 (.slice (some ⟨b, 0, some 0⟩) n n) w = some (r, h2) ∧ ((∃ b2 sf2, r = .slice (some ⟨b2, 0, some 0⟩) (n + m) (n + m) ∧ g0.nx ≤ b2 ∧ At h2 b2 (.cells (c ++ new) 23 1 sf2)) ∧ Grow g0 h2 ∧ (Wf h → Wf h2) ∧ h.nx ≤ h2.nx) := by
  have e1 : (mz G).P.underlying 45 = some (.slice 23) := Tryz.underlying45
  have e2 : tsz (mz G).P 23 = some 1 := zs23
  have e3 := (show tby (mz G).P 23 = some _ from zb23)
  have e4 := (show tzero (mz G).P 23 = some _ from zz23)
  have hlen := sl.length
  have hf := (Sl.first (M := mz G) sl)
  obtain ⟨wa, wc, rfl⟩ := sl.form
  have hlt := hat.lt
  have hgx := hg.nx
  have ha : anews (mz G).P (mz G).G h 45 1 (Value.float .f32 0).cells.toList (.slice wa m wc) = some (m, new) := by
    unfold anews
    rw [e1]
    simp only [alen, hf]
  have hc : (gd (Value.float .f32 0) && Nat.beq (Value.float .f32 0).cells.size 1 && !(Nat.beq 1 0) && !(Nat.beq 4 0) && Nat.ble ((n + m) * 4) 70368744177664 && new.all one && Nat.beq new.length (m * 1)) = true := by
    rw [hone, ble_dec, decide_eq_true (by omega), hlen, nbeq_self]; rfl
  by_cases hm : m = 0
  · subst hm
    have hn0 : new = [] := by simpa using hlen
    subst hn0
    refine ⟨.slice (some ⟨b, 0, some 0⟩) (n + 0) n, h, ?_, ⟨b, sf, rfl, hb, by rw [List.append_nil]; exact hat⟩, hg, id, Nat.le_refl _⟩
    have hb1 : Nat.ble (n + 0) n = true := by rw [ble_dec]; simp
    unfold aappend
    simp only [e1, e2, e3, e4, ha, hc, hb1]
    try rfl
  · have hb1 : Nat.ble (n + m) n = false := by rw [ble_dec]; simp; omega
    have hfo : afirst (mz G).G h 1 n (.slice (some ⟨b, 0, some 0⟩) n n) = some c := (Sl.ofAt (G := (mz G).G) hat (by omega) (Nat.le_refl _)).first (M := mz G)
    have hl2 : (c ++ new).length = (n + m) * 1 := by rw [List.length_append, hcl, hlen]; omega
    cases sf with
    | true =>
      refine ⟨.slice (some ⟨h.nx, 0, some 0⟩) (n + m) (n + m), (h.kill b).push (.cells (c ++ new) 23 1 true), ?_, ⟨h.nx, true, rfl, by omega, ?_⟩, (hg.kill hb).push _, fun w => (w.kill b).push _, by rw [H.nx_push, H.nx_kill]; omega⟩
      · unfold aappend
        simp only [e1, e2, e3, e4, ha, hc, hb1, hfo]
        unfold agrow
        simp only [hl2, nbeq_self, hat.get, Nat.zero_add, Nat.mul_one, hcl, Bool.and_self]
      · have := At.new (h.kill b) (.cells (c ++ new) 23 1 true)
        rwa [H.nx_kill] at this
    | false =>
      refine ⟨.slice (some ⟨h.nx, 0, some 0⟩) (n + m) (n + m), h.push (.cells (c ++ new) 23 1 true), ?_, ⟨h.nx, true, rfl, by omega, At.new _ _⟩, hg.push _, fun w => w.push _, by rw [H.nx_push]; omega⟩
      unfold aappend
      simp only [e1, e2, e3, e4, ha, hc, hb1, hfo]
      unfold agrow
      simp only [hl2, nbeq_self, hat.get, Bool.false_and]
theorem ltrW_eq {hd : Nat → Int} {w : Int} (h1 : (hd 4).natAbs ≤ 1000000000) (h2 : w.natAbs ≤ 1000000000) : ltrW hd w = ltr hd w := by
  funext i
  unfold ltrW ltr
  split
  · exact w64 (by omega) (by omega)
  · rfl
theorem wx_e02 {M : Mc} {ops : Array Oper} {rest : List Oper} {sz nx0 : Nat} {R : KL → H → Prop} {m i abs j1 j2 : Nat} {o1 o2 : AObj} {ms ix es' : List Nat} {l : KL} {g g1 : H} {v : Value} {sts : List Stage} {obs : List OB} {o : Oper} (hw : Wt ops o sz l true) (hc : cls M.P o.op = .e) (hes : ((es'.all fun x => m.testBit x) && Nat.beq (m ||| abs) m) = true) (h1 : unseen m abs j1 = true) (h2 : unseen m abs j2 = true) (hop : Op1 M o.op l ((g.set (nx0 + j1) o1).set (nx0 + j2) o2) v g1) (hdo : o.dst = none)
    (next : WX M ops nx0 sz R rest ms ix l g1 m (i :: es') [(j1, o1), (j2, o2)] (⟨g, abs, some i⟩ :: sts) obs) : WX M ops nx0 sz R (o :: rest) (m :: ms) (i :: ix) l g abs es' [(j1, o1), (j2, o2)] sts obs := wx_e0 hw hc hes (by simp only [addAs, h1, h2]) hop hdo next
theorem TrN.kill10 {h : H} {lo B : Nat} {t : Trc} {c : List Value} {e : TypeId} {s : Bool} (o : TrN h lo t) (hB : At h B (.cells c e 10 s)) : TrN (h.kill B) lo t := o.imp id fun o => o.kill10 hB
def getB (us : List Trc) (i : Nat) : List Nat := match us[i]? with | some u => u.l | none => []
def joinKeyR (us : List Trc) (i : Nat) (t : Trc) : Key := if t.hole = true then (t.hd, true, 0, []) else (t.hd, false, (t.l ++ getB us i).length, t.l ++ getB us i)
set_option maxHeartbeats 4000000 in
theorem c46 {nm nm' : ByteArray} {a a' : Option Addr} {n m c c' : Nat} {ts us : List Trc} (s : SlT G h (.slice a n c) n ts) (s' : SlT G h (.slice a' m c') m us) (hE : shE nm ts = 0) (hE' : shE nm' us = 0) (hw : Wf h) :
    Cf (mz G) (.func (.func 46) #[] #[]) [.agg ⟨shC nm a n c⟩, .agg ⟨shC nm' a' m c'⟩] h fun r h' => ((folE ts us ≠ 0 ∧ r = .tuple #[.agg ⟨zShot⟩, .int .i64 (folE ts us)]) ∨ (folE ts us = 0 ∧ ∃ (B : Nat) (vs : List Trc), r = .tuple #[.agg ⟨shC nm (some ⟨B, 0, some 0⟩) n n⟩, .int .i64 0] ∧ h.nx ≤ B ∧ At h' B (.cells (vs.flatMap Trc.cells) 47 10 true) ∧ (∀ u ∈ vs, TrOk G h' u) ∧ KeyAll vs (mskL ts us) (joinKeyR us))) ∧ Grow h h' := by
  have hlen := s.len
  have hlen' := s'.len
  obtain ⟨v1, v2, v3, v4, v5⟩ := valid_facts s hE
  obtain ⟨v1', v2', v3', v4', v5'⟩ := valid_facts s' hE'
  have k4 := (shE_ok hE).2.2.2.1
  have k5 := (shE_ok hE).2.2.2.2
  have hb4 : ∀ t ∈ ts, 0 ≤ t.hd 4 ∧ t.hd 4 ≤ 100000 := fun t ht => hdr_ok (tr_ok (k4 t ht)).1 (i := 4) (by omega)
  have q37 := fun (h' : H) (g : Grow h h') (w : Wf h') => c37 (nm := nm) (s.grow g) (by omega) w
  have hfe : folE ts us = if ts.length ≠ us.length then 2 else if folM (wid ts : Nat) ts us = true then 24 else if bigM ts us = true then 5 else 0 := by unfold folE; rfl
  rw [hfe]
  clear hfe
  rw [hlen, hlen']
  have hW1 : wid ts ≤ 1024 := by
    have : ∀ us : List Trc, (∀ t ∈ us, t.n ≤ 1024) → wid us ≤ 1024 := by
      intro us
      induction us with
      | nil => intro _; unfold wid; omega
      | cons t us ih =>
        intro z1
        unfold wid
        split
        · exact ih (fun t ht => z1 t (List.mem_cons_of_mem _ ht))
        · exact z1 t List.mem_cons_self
    exact this ts v3
  obtain ⟨W, hW⟩ : ∃ W, wid ts = W := ⟨_, rfl⟩
  rw [hW] at q37 hW1 ⊢
  by_cases hne : n ≠ m
  · rw [if_pos hne]
    refine cf_enter0 101 [.cell 4 43, .tmp 5] Tryz.func46 rfl rfl rfl rfl ?_
    repeat' (first | with_reducible refine wo_nil ?_ | ((with_reducible refine wo_any ?_); first | ((with_reducible refine ik_assign ?_); refine wo_op rfl (op_assign rfl) rfl rfl ?_) | ((with_reducible refine ik_box ?_); refine wo_op rfl (op_boxAgg rfl zs43 rfl) rfl rfl ?_) | ((with_reducible refine ik_alloc ?_); refine wo_op rfl (op_alloc zz43 zs43 rfl rfl rfl) rfl rfl ?_) | ((with_reducible refine ik_fieldAddr ?_); refine wo_op rfl (op_fieldAddr (o := 1) rfl Tryz.underlying43 rfl zs41 rfl) rfl rfl ?_) | ((with_reducible refine ik_load ?_); refine wo_op rfl (op_ldAt rfl at_A Tryz.underlying41 rfl rfl) rfl rfl ?_) | ((with_reducible refine ik_callb ?_); refine wo_op rfl (op_lenSl rfl Tryz.underlying41) rfl rfl ?_) | ((with_reducible refine ik_bin ?_); refine wo_op rfl (op_neq rfl rfl) rfl rfl ?_) | ((with_reducible refine ik_build ?_); refine wo_op rfl (op_buildT rfl zz43 zp43 rfl rfl) rfl rfl ?_) | ((with_reducible refine ik_store ?_); refine wo_op0 rfl (op_stAgg rfl rfl at_A zs43 rfl rfl rfl rfl) rfl ?_)) | with_reducible refine sq_norm ?_ | with_reducible refine wc_seq ?_ | with_reducible refine wc_region ?_ | with_reducible refine wc_ret ?_ | with_reducible refine sq_ret ?_ | (refine wc_if rfl (fun hb => ?_) (fun hb => dead_A hb); (try simp only [decide_eq_true_eq, decide_eq_false_iff_not, Bool.not_eq_true', Bool.not_eq_false', Int.not_lt, Int.not_le, Decidable.not_not, not_true_eq_false, not_false_eq_true, beq_self_eq_true, reduceCtorEq] at hb)))
    all_goals exact rqc2 rfl (ldAgg at_A Tryz.underlying43 rfl zs43 rfl rfl) rfl ⟨.inl ⟨by decide, rfl⟩, gr_A⟩
  rw [if_neg hne]
  have hne : n = m := by simpa using hne
  subst hne
  refine cf_enter0 101 [.cell 4 43, .tmp 5] Tryz.func46 rfl rfl rfl rfl ?_
  repeat' (first | with_reducible refine wo_nil ?_ | ((with_reducible refine wo_any ?_); first | ((with_reducible refine ik_assign ?_); refine wo_op rfl (op_assign rfl) rfl rfl ?_) | ((with_reducible refine ik_box ?_); refine wo_op rfl (op_boxAgg rfl zs43 rfl) rfl rfl ?_) | ((with_reducible refine ik_alloc ?_); refine wo_op rfl (op_alloc zz43 zs43 rfl rfl rfl) rfl rfl ?_) | ((with_reducible refine ik_fieldAddr ?_); refine wo_op rfl (op_fieldAddr (o := 1) rfl Tryz.underlying43 rfl zs41 rfl) rfl rfl ?_) | ((with_reducible refine ik_load ?_); first | refine wo_op rfl (op_ldAt rfl at_A Tryz.underlying41 rfl rfl) rfl rfl ?_ | refine wo_op rfl (op_ldAgg rfl at_A Tryz.underlying43 rfl zs43 rfl rfl) rfl rfl ?_) | ((with_reducible refine ik_callb ?_); refine wo_op rfl (op_lenSl rfl Tryz.underlying41) rfl rfl ?_) | ((with_reducible refine ik_bin ?_); refine wo_op rfl (op_neq rfl rfl) rfl rfl ?_) | ((with_reducible refine ik_callv ?_); (refine wo_call rfl rfl rfl rfl (q37 _ gr_A wf_A) rfl rfl ?_; rintro _ _ ⟨rfl, hq⟩; all_goals ((try (have hqn := hq.nx)); (try simp only [H.nx_push, H.nx_set, H.nx_bump] at hqn))))) | with_reducible refine sq_norm ?_ | with_reducible refine wc_seq ?_ | with_reducible refine wc_region ?_ | with_reducible refine wc_skip ?_ | with_reducible refine wc_block ?_ | (refine wc_if rfl (fun hb => (of_decide_eq_true hb rfl).elim) (fun hb => ?_); (try simp only [decide_eq_true_eq, decide_eq_false_iff_not, Bool.not_eq_true', Bool.not_eq_false', Int.not_lt, Int.not_le, Decidable.not_not, not_true_eq_false, not_false_eq_true, beq_self_eq_true, reduceCtorEq] at hb)))
  refine wc_cut (ι := Unit) (fun _ => [(2, .pointer (some ⟨h.nx, 0, some 0⟩)), (3, .pointer (some ⟨h.nx + 1, 0, some 0⟩)), (4, .pointer (some ⟨h.nx + 2, 0, some 0⟩)), (5, .int .i64 0), (6, .int .i64 (W : Nat)), (7, .int .i64 0)])
    (fun _ h1 => (Wf h1 ∧ Grow h h1 ∧ h.nx + 3 ≤ h1.nx ∧ At h1 h.nx (.cells (shC nm a n c) 43 2 false) ∧ At h1 (h.nx + 1) (.cells (shC nm' a' n c') 43 2 false) ∧ At h1 (h.nx + 2) (.cells zShot 43 2 false))) () (within_lk ⟨rfl, rfl, rfl, rfl, rfl, rfl, trivial⟩) ⟨wf_A, gr_A, (by first | omega | (simp only [H.nx_push] at hqn; omega)), at_A, at_A, at_A⟩ ?_
  clear hq hqn q37
  rintro _ h1 ⟨w1, g1, n1, a0, a1, a2⟩
  refine wc_loop (fun k => n - k) (fun k : Nat => [(2, .pointer (some ⟨h.nx, 0, some 0⟩)), (3, .pointer (some ⟨h.nx + 1, 0, some 0⟩)), (4, .pointer (some ⟨h.nx + 2, 0, some 0⟩)), (5, .int .i64 0), (6, .int .i64 (W : Nat)), (7, .int .i64 k)])
    (fun k h1 => (Wf h1 ∧ Grow h h1 ∧ h.nx + 3 ≤ h1.nx ∧ At h1 h.nx (.cells (shC nm a n c) 43 2 false) ∧ At h1 (h.nx + 1) (.cells (shC nm' a' n c') 43 2 false) ∧ At h1 (h.nx + 2) (.cells zShot 43 2 false)) ∧ k ≤ n ∧ folM W (ts.drop k) (us.drop k) = folM W ts us) 0 (within_lk ⟨rfl, rfl, rfl, rfl, rfl, rfl, trivial⟩) ⟨⟨w1, g1, n1, a0, a1, a2⟩, Nat.zero_le _, rfl⟩ ?_
  clear w1 g1 n1 a0 a1 a2 h1
  rintro k h1 ⟨⟨w1, g1, n1, a0, a1, a2⟩, hk, hi⟩
  have hgn := g1.nx
  by_cases hlt : k < n
  · obtain ⟨ad, f1, f3⟩ := slT_at s Tryz.underlying41 zs47 (i := (k : Int)) hlt rfl
    obtain ⟨bd, e1, e3⟩ := slT_at s' Tryz.underlying41 zs47 (i := (k : Int)) hlt rfl
    rw [folM_step (by omega) (by omega)] at hi
    have b4 := hb4 _ (List.getElem_mem (show k < ts.length by omega))
    rw [ltrW_eq (by omega) (by omega)] at hi
    have hD := hd_eqv (ltr (ts[k]'(by omega)).hd W) (us[k]'(by omega)).hd
    obtain ⟨D, hD2⟩ : ∃ D, hdB (ltr (ts[k]'(by omega)).hd W) (us[k]'(by omega)).hd = D := ⟨_, rfl⟩
    rw [hD2] at hD hi
    clear hD2
    obtain ⟨t, ht⟩ : ∃ t, ts[k]'(by omega) = t := ⟨_, rfl⟩
    obtain ⟨u, hu⟩ : ∃ t, us[k]'(by omega) = t := ⟨_, rfl⟩
    rw [ht] at f3 hD b4
    rw [hu] at e3 hD
    clear ht hu
    have q116 := fun (h3 : H) => c116 (G := G) (h := h3) t.hd W (by omega) (by omega)
    have qf8 : ∀ (g : H), Grow h g → acells G g 8 (aadd ad 0) = some (hdCells t.hd) := fun g gg => by rw [aadd_zero]; exact ((f3.take 8).grow gg).all
    have qe8 : ∀ (g : H), Grow h g → acells G g 8 (aadd bd 0) = some (hdCells u.hd) := fun g gg => by rw [aadd_zero]; exact ((e3.take 8).grow gg).all
    cases D with
    | false =>
      rw [show (!false || folM W (ts.drop (k + 1)) (us.drop (k + 1))) = true from rfl] at hi
      rw [← hi, if_pos rfl]
      repeat' (first | with_reducible refine wo_nil ?_ | ((with_reducible refine wo_any ?_); first | ((with_reducible refine ik_move ?_); refine wo_op rfl (op_move rfl) rfl rfl ?_) | ((with_reducible refine ik_assign ?_); refine wo_op rfl (op_assign rfl) rfl rfl ?_) | ((with_reducible refine ik_load ?_); refine wo_op rfl (op_ldAt rfl at_A Tryz.underlying41 rfl rfl) rfl rfl ?_) | ((with_reducible refine ik_bin ?_); refine wo_op rfl (op_lss rfl rfl) rfl rfl ?_) | ((with_reducible refine ik_fieldAddr ?_); refine wo_op rfl (op_fieldAddr (o := 1) rfl Tryz.underlying43 rfl zs41 rfl) rfl rfl ?_) | ((with_reducible refine ik_callb ?_); refine wo_op rfl (op_lenSl rfl Tryz.underlying41) rfl rfl ?_) | ((with_reducible refine ik_build ?_); refine wo_op rfl (op_buildT rfl zz43 zp43 rfl rfl) rfl rfl ?_) | ((with_reducible refine ik_store ?_); refine wo_op0 rfl (op_stAgg rfl rfl at_A zs43 rfl rfl rfl rfl) rfl ?_)) | ((with_reducible refine xk_any ?_); ((with_reducible refine xk_as0 ?_); first | ((with_reducible refine xk_move ?_); refine wx_q (wt_none rfl) rfl rfl (op_q rfl (op_move rfl)) rfl rfl rfl ?_) | ((with_reducible refine xk_indexAddr ?_); first | refine wx_q (wt_none rfl) rfl rfl (op_q rfl (op_indexAddr rfl rfl f1)) rfl rfl rfl ?_ | refine wx_q (wt_none rfl) rfl rfl (op_q rfl (op_indexAddr rfl rfl e1)) rfl rfl rfl ?_) | ((with_reducible refine xk_load ?_); first | refine wx_h0 (wt_none rfl) rfl (op_q rfl (op_ldCells rfl Tryz.underlying44 rfl zs44 (qf8 _ gr_A))) rfl rfl rfl ?_ | refine wx_h0 (wt_none rfl) rfl (op_q rfl (op_ldCells rfl Tryz.underlying44 rfl zs44 (qe8 _ gr_A))) rfl rfl rfl ?_ | refine wx_h0 (wt_none rfl) rfl (op_q rfl (op_ldAt rfl at_A Tryz.underlying41 rfl rfl)) rfl rfl rfl ?_) | ((with_reducible refine xk_bin ?_); refine wx_q (wt_none rfl) rfl rfl (op_q rfl (op_neT 3 rfl rfl rfl Tryz.underlying44 rfl eg44 hD)) rfl rfl rfl ?_) | ((with_reducible refine xk_fieldAddr ?_); first | refine wx_q (wt_none rfl) rfl rfl (op_q rfl (op_fieldAddr (o := 1) rfl Tryz.underlying43 rfl zs41 rfl)) rfl rfl rfl ?_ | refine wx_q (wt_none rfl) rfl rfl (op_q rfl (op_fieldAddr (o := 0) rfl Tryz.underlying47 rfl zs44 rfl)) rfl rfl rfl ?_) | ((with_reducible refine xk_callv ?_); (refine wx_call0 (wt_none rfl) rfl rfl rfl rfl ((q116 _)) rfl rfl ?_; rintro _ _ ⟨rfl, hq⟩; all_goals ((try (have hqn := hq.nx)); (try simp only [H.nx_push, H.nx_set, H.nx_bump] at hqn)))) | with_reducible refine wx_nil0 ?_ ?_)) | with_reducible exact obl_nil | with_reducible refine obl_cons ?_ ?_ | ((with_reducible refine ik_obs ?_); first | exact obs_nil | refine obs_skip rfl ?_ | refine obs_chkn rfl rfl (op_q rfl (op_ldCells rfl Tryz.underlying44 rfl zs44 (qf8 _ gr_A))) ?_ | refine obs_chkn rfl rfl (op_q rfl (op_ldCells rfl Tryz.underlying44 rfl zs44 (qe8 _ gr_A))) ?_ | refine obs_chkn rfl rfl (op_q rfl (op_ldAt rfl at_A Tryz.underlying41 rfl (by rfl))) ?_) | with_reducible refine sq_norm ?_ | with_reducible refine wc_seq ?_ | with_reducible refine wc_region ?_ | with_reducible refine wc_skip ?_ | with_reducible refine wc_ret ?_ | with_reducible refine wc_block ?_ | with_reducible refine bq_ret ?_ | with_reducible refine sq_ret ?_ | with_reducible refine lq_ret ?_ | refine wc_ift rfl ?_ | (refine wc_if rfl (fun hb => ?_) (fun hb => dead_A hb); (try simp only [decide_eq_true_eq, decide_eq_false_iff_not, Bool.not_eq_true', Bool.not_eq_false', Int.not_lt, Int.not_le, Decidable.not_not, not_true_eq_false, not_false_eq_true, beq_self_eq_true, reduceCtorEq] at hb)) | refine wc_drawB (id := 7) 15 [0, 1, 0, 7, 15, 31, 0, 127, 0, 256, 0, 1792, 3840, 7936, 16383] [0, 1, 2, 3, 4, 5, 6, 7, 8, 9, 10, 11, 12, 13, 14] (by kernel_rfl) (by kernel_rfl) rfl rfl ?_)
      all_goals exact rqc2 rfl (ldAgg at_A Tryz.underlying43 rfl zs43 rfl rfl) rfl ⟨.inl ⟨by decide, rfl⟩, gr_A⟩
    | true =>
      rw [show (!true || folM W (ts.drop (k + 1)) (us.drop (k + 1))) = folM W (ts.drop (k + 1)) (us.drop (k + 1)) from rfl] at hi
      repeat' (first | with_reducible refine wo_nil ?_ | ((with_reducible refine wo_any ?_); first | ((with_reducible refine ik_move ?_); refine wo_op rfl (op_move rfl) rfl rfl ?_) | ((with_reducible refine ik_assign ?_); refine wo_op rfl (op_assign rfl) rfl rfl ?_) | ((with_reducible refine ik_load ?_); refine wo_op rfl (op_ldAt rfl at_A Tryz.underlying41 rfl rfl) rfl rfl ?_) | ((with_reducible refine ik_bin ?_); first | refine wo_op rfl (op_lss rfl rfl) rfl rfl ?_ | refine wo_op rfl (op_add' rfl rfl (w64 (by omega) (by omega))) rfl rfl ?_) | ((with_reducible refine ik_fieldAddr ?_); refine wo_op rfl (op_fieldAddr (o := 1) rfl Tryz.underlying43 rfl zs41 rfl) rfl rfl ?_) | ((with_reducible refine ik_callb ?_); refine wo_op rfl (op_lenSl rfl Tryz.underlying41) rfl rfl ?_)) | ((with_reducible refine xk_any ?_); ((with_reducible refine xk_as0 ?_); first | ((with_reducible refine xk_move ?_); refine wx_q (wt_none rfl) rfl rfl (op_q rfl (op_move rfl)) rfl rfl rfl ?_) | ((with_reducible refine xk_indexAddr ?_); first | refine wx_q (wt_none rfl) rfl rfl (op_q rfl (op_indexAddr rfl rfl f1)) rfl rfl rfl ?_ | refine wx_q (wt_none rfl) rfl rfl (op_q rfl (op_indexAddr rfl rfl e1)) rfl rfl rfl ?_) | ((with_reducible refine xk_load ?_); first | refine wx_h0 (wt_none rfl) rfl (op_q rfl (op_ldCells rfl Tryz.underlying44 rfl zs44 (qf8 _ gr_A))) rfl rfl rfl ?_ | refine wx_h0 (wt_none rfl) rfl (op_q rfl (op_ldCells rfl Tryz.underlying44 rfl zs44 (qe8 _ gr_A))) rfl rfl rfl ?_ | refine wx_h0 (wt_none rfl) rfl (op_q rfl (op_ldAt rfl at_A Tryz.underlying41 rfl rfl)) rfl rfl rfl ?_) | ((with_reducible refine xk_bin ?_); refine wx_q (wt_none rfl) rfl rfl (op_q rfl (op_neT 3 rfl rfl rfl Tryz.underlying44 rfl eg44 hD)) rfl rfl rfl ?_) | ((with_reducible refine xk_fieldAddr ?_); first | refine wx_q (wt_none rfl) rfl rfl (op_q rfl (op_fieldAddr (o := 1) rfl Tryz.underlying43 rfl zs41 rfl)) rfl rfl rfl ?_ | refine wx_q (wt_none rfl) rfl rfl (op_q rfl (op_fieldAddr (o := 0) rfl Tryz.underlying47 rfl zs44 rfl)) rfl rfl rfl ?_) | ((with_reducible refine xk_callv ?_); (refine wx_call0 (wt_none rfl) rfl rfl rfl rfl ((q116 _)) rfl rfl ?_; rintro _ _ ⟨rfl, hq⟩; all_goals ((try (have hqn := hq.nx)); (try simp only [H.nx_push, H.nx_set, H.nx_bump] at hqn)))) | with_reducible refine wx_nil0 ?_ ?_)) | with_reducible exact obl_nil | with_reducible refine obl_cons ?_ ?_ | ((with_reducible refine ik_obs ?_); first | exact obs_nil | refine obs_skip rfl ?_ | refine obs_chkn rfl rfl (op_q rfl (op_ldCells rfl Tryz.underlying44 rfl zs44 (qf8 _ gr_A))) ?_ | refine obs_chkn rfl rfl (op_q rfl (op_ldCells rfl Tryz.underlying44 rfl zs44 (qe8 _ gr_A))) ?_ | refine obs_chkn rfl rfl (op_q rfl (op_ldAt rfl at_A Tryz.underlying41 rfl (by rfl))) ?_) | with_reducible refine sq_norm ?_ | with_reducible refine wc_seq ?_ | with_reducible refine wc_region ?_ | with_reducible refine wc_skip ?_ | with_reducible refine wc_block ?_ | with_reducible refine bq_norm ?_ | refine wc_iff rfl ?_ | (refine wc_if rfl (fun hb => ?_) (fun hb => dead_A hb); (try simp only [decide_eq_true_eq, decide_eq_false_iff_not, Bool.not_eq_true', Bool.not_eq_false', Int.not_lt, Int.not_le, Decidable.not_not, not_true_eq_false, not_false_eq_true, beq_self_eq_true, reduceCtorEq] at hb)) | refine wc_drawB (id := 7) 15 [0, 1, 0, 7, 15, 31, 0, 127, 0, 256, 0, 1792, 3840, 7936, 16383] [0, 1, 2, 3, 4, 5, 6, 7, 8, 9, 10, 11, 12, 13, 14] (by kernel_rfl) (by kernel_rfl) rfl rfl ?_)
      all_goals exact lq_norm (k + 1) (by omega) (within_lk ⟨rfl, rfl, rfl, rfl, rfl, rfl, trivial⟩) ⟨⟨wf_A, gr_A, (by first | omega | (simp only [H.nx_bump] at hqn; omega)), at_A, at_A, at_A⟩, by omega, hi⟩
  have hkn : k = n := by omega
  subst hkn
  rw [List.drop_eq_nil_of_le (by omega), List.drop_eq_nil_of_le (by omega)] at hi
  have hnf : folM W ts us = false := by rw [← hi]; rfl
  rw [hnf, if_neg (by simp)]
  clear hi hnf hlt hk
  repeat' (first | with_reducible refine wo_nil ?_ | ((with_reducible refine wo_any ?_); first | ((with_reducible refine ik_move ?_); refine wo_op rfl (op_move rfl) rfl rfl ?_) | ((with_reducible refine ik_assign ?_); refine wo_op rfl (op_assign rfl) rfl rfl ?_) | ((with_reducible refine ik_alloc ?_); refine wo_op rfl (op_alloc zz43 zs43 rfl rfl rfl) rfl rfl ?_) | ((with_reducible refine ik_fieldAddr ?_); first | refine wo_op rfl (op_fieldAddr (o := 1) rfl Tryz.underlying43 rfl zs41 rfl) rfl rfl ?_ | refine wo_op rfl (op_fieldAddr (o := 0) rfl Tryz.underlying43 rfl zs9 rfl) rfl rfl ?_) | ((with_reducible refine ik_load ?_); first | refine wo_op rfl (op_ldAt rfl at_A Tryz.underlying41 rfl rfl) rfl rfl ?_ | refine wo_op rfl (op_ldAt rfl at_A Tryz.underlying9 rfl rfl) rfl rfl ?_) | ((with_reducible refine ik_callb ?_); refine wo_op rfl (op_lenSl rfl Tryz.underlying41) rfl rfl ?_) | ((with_reducible refine ik_bin ?_); refine wo_op rfl (op_lss rfl rfl) rfl rfl ?_) | ((with_reducible refine ik_build ?_); refine wo_op rfl (op_buildT rfl zz43 zp43 rfl rfl) rfl rfl ?_) | ((with_reducible refine ik_store ?_); refine wo_op0 rfl (op_stAgg rfl rfl at_A zs43 rfl rfl rfl rfl) rfl ?_)) | with_reducible refine sq_norm ?_ | with_reducible refine wc_seq ?_ | with_reducible refine wc_region ?_ | with_reducible refine wc_exit ?_ | with_reducible refine wc_block ?_ | with_reducible refine sq_exit ?_ | with_reducible refine lq_exit ?_ | refine bq_eq rfl ?_ | (refine wc_if rfl (fun hb => dead_A hb) (fun hb => ?_); (try simp only [decide_eq_true_eq, decide_eq_false_iff_not, Bool.not_eq_true', Bool.not_eq_false', Int.not_lt, Int.not_le, Decidable.not_not, not_true_eq_false, not_false_eq_true, beq_self_eq_true, reduceCtorEq] at hb)))
  refine wc_cut (ι := Nat) (fun b8 => [(2, .pointer (some ⟨h.nx, 0, some 0⟩)), (3, .pointer (some ⟨h.nx + 1, 0, some 0⟩)), (4, .pointer (some ⟨h.nx + 2, 0, some 0⟩)), (5, .int .i64 0), (8, .pointer (some ⟨b8, 0, some 0⟩)), (9, .int .i64 0)])
    (fun b8 h1 => (Wf h1 ∧ Grow h h1 ∧ h.nx + 3 ≤ b8 ∧ b8 < h1.nx ∧ At h1 h.nx (.cells (shC nm a k c) 43 2 false) ∧ At h1 (h.nx + 1) (.cells (shC nm' a' k c') 43 2 false) ∧ At h1 (h.nx + 2) (.cells zShot 43 2 false) ∧ At h1 b8 (.cells [.string nm, .slice none 0 0] 43 2 false))) _ (within_lk ⟨rfl, rfl, rfl, rfl, rfl, rfl, trivial⟩) ⟨wf_A, gr_A, n1, z6_A, at_A, at_A, at_A, at_A⟩ ?_
  clear w1 g1 n1 a0 a1 a2 hgn
  rintro b8 h1 ⟨w1, g1, n1, n2, a0, a1, a2, a8⟩
  refine wc_loop (fun p => k - p.1) (fun p : Nat × Value × List Trc => [(2, .pointer (some ⟨h.nx, 0, some 0⟩)), (3, .pointer (some ⟨h.nx + 1, 0, some 0⟩)), (4, .pointer (some ⟨h.nx + 2, 0, some 0⟩)), (5, .int .i64 0), (8, .pointer (some ⟨b8, 0, some 0⟩)), (9, .int .i64 (p.1 : Nat))])
    (fun p h1 => (Wf h1 ∧ Grow h h1 ∧ b8 < h1.nx ∧ At h1 h.nx (.cells (shC nm a k c) 43 2 false) ∧ At h1 (h.nx + 1) (.cells (shC nm' a' k c') 43 2 false) ∧ At h1 (h.nx + 2) (.cells zShot 43 2 false) ∧ At h1 b8 (.cells [.string nm, p.2.1] 43 2 false)) ∧ p.1 ≤ k ∧ bigM (ts.drop p.1) (us.drop p.1) = bigM ts us ∧ p.2.2.length = p.1 ∧ (∀ t ∈ p.2.2, TrN h1 (b8 + 1) t) ∧
      ((p.2.1 = .slice none 0 0 ∧ p.1 = 0) ∨ ∃ b, b8 < b ∧ p.2.1 = .slice (some ⟨b, 0, some 0⟩) p.1 p.1 ∧ At h1 b (.cells (p.2.2.flatMap Trc.cells) 47 10 true)) ∧ ∀ i (q : i < p.2.2.length) (q1 : i < (mskL ts us).length), (p.2.2[i]).key = joinKeyR us i (mskL ts us)[i]) (0, .slice none 0 0, []) (within_lk ⟨rfl, rfl, rfl, rfl, rfl, rfl, trivial⟩) ⟨⟨w1, g1, n2, a0, a1, a2, a8⟩, Nat.zero_le _, rfl, rfl, (fun t ht => by cases ht), .inl ⟨rfl, rfl⟩, fun i q => absurd q (Nat.not_lt_zero i)⟩ ?_
  clear w1 g1 n2 a0 a1 a2 a8 h1
  rintro ⟨j, v, vs⟩ h1 ⟨⟨w1, g1, n2, a0, a1, a2, a8⟩, hj, hi, hvl, hvs, hv, hky⟩
  simp only at hj hi hvl hvs hv hky a8 ⊢
  have hgn := g1.nx
  by_cases hlt : j < k
  · obtain ⟨ad, f1, f3⟩ := slT_at s Tryz.underlying41 zs47 (i := (j : Int)) hlt rfl
    obtain ⟨bd, e1, e3⟩ := slT_at s' Tryz.underlying41 zs47 (i := (j : Int)) hlt rfl
    have hjt : j < ts.length := by omega
    have hju : j < us.length := by omega
    have hjm : j < (mskL ts us).length := by rw [mskL_len (by omega)]; exact hjt
    rw [bigM_step hjt hju] at hi
    have ot := s.ok _ (List.getElem_mem hjt)
    have ou := s'.ok _ (List.getElem_mem hju)
    have lt1 := v3 _ (List.getElem_mem hjt)
    have lu1 := v3' _ (List.getElem_mem hju)
    have ltl := v2 _ (List.getElem_mem hjt)
    have lul := v2' _ (List.getElem_mem hju)
    have hgB : getB us j = (us[j]).l := by unfold getB; rw [List.getElem?_eq_getElem hju]
    have hkey : ∀ w : Trc, w.key = joinKeyR us j (msk ts[j] us[j]) → ∀ i (q : i < (vs ++ [w]).length) (q1 : i < (mskL ts us).length), ((vs ++ [w])[i]).key = joinKeyR us i (mskL ts us)[i] := fun w hw2 i q q1 => by
      by_cases hij : i < vs.length
      · rw [List.getElem_append_left hij]; exact hky i hij q1
      · have : i = j := by simp at q; omega
        subst this
        rw [List.getElem_append_right (by omega), mskL_get q1 hjt hju, ← hw2]
        simp [hvl]
    clear hky
    obtain ⟨t, ht⟩ : ∃ t, ts[j] = t := ⟨_, rfl⟩
    obtain ⟨u, hu⟩ : ∃ t, us[j] = t := ⟨_, rfl⟩
    rw [ht] at f3 ot lt1 ltl hi hkey
    rw [hu] at e3 ou lu1 lul hi hkey hgB
    clear ht hu
    have qf := fun (g : H) (gg : Grow h g) => (f3.grow gg).all
    have qe := fun (g : H) (gg : Grow h g) => (e3.grow gg).all
    repeat' (first | with_reducible refine wo_nil ?_ | ((with_reducible refine wo_any ?_); first | ((with_reducible refine ik_move ?_); refine wo_op rfl (op_move rfl) rfl rfl ?_) | ((with_reducible refine ik_fieldAddr ?_); refine wo_op rfl (op_fieldAddr (o := 1) rfl Tryz.underlying43 rfl zs41 rfl) rfl rfl ?_) | ((with_reducible refine ik_load ?_); refine wo_op rfl (op_ldAt rfl at_A Tryz.underlying41 rfl rfl) rfl rfl ?_) | ((with_reducible refine ik_callb ?_); refine wo_op rfl (op_lenSl rfl Tryz.underlying41) rfl rfl ?_) | ((with_reducible refine ik_bin ?_); refine wo_op rfl (op_lss rfl rfl) rfl rfl ?_)) | with_reducible refine sq_norm ?_ | with_reducible refine wc_seq ?_ | with_reducible refine wc_region ?_ | with_reducible refine wc_skip ?_ | with_reducible refine wc_block ?_ | (refine wc_if rfl (fun hb => ?_) (fun hb => dead_A hb); (try simp only [decide_eq_true_eq, decide_eq_false_iff_not, Bool.not_eq_true', Bool.not_eq_false', Int.not_lt, Int.not_le, Decidable.not_not, not_true_eq_false, not_false_eq_true, beq_self_eq_true, reduceCtorEq] at hb)))
    refine wc_join (ι := Nat × Nat) (fun i => [(2, .pointer (some ⟨h.nx, 0, some 0⟩)), (3, .pointer (some ⟨h.nx + 1, 0, some 0⟩)), (4, .pointer (some ⟨h.nx + 2, 0, some 0⟩)), (5, .int .i64 0), (8, .pointer (some ⟨b8, 0, some 0⟩)), (9, .int .i64 (j : Nat)), (10, .pointer (some ⟨i.1, 0, some 0⟩)), (11, .pointer (some ⟨i.2, 0, some 0⟩))])
      (fun i h2 => (Wf h2 ∧ Grow h1 h2 ∧ (h1.nx ≤ i.1 ∧ i.1 < i.2 ∧ i.2 < h2.nx)) ∧ At h2 i.1 (.cells t.cells 47 10 false) ∧ At h2 i.2 (.cells u.cells 47 10 false)) ?_ ?_
    · repeat' (first | ((with_reducible refine xk_any ?_); first | ((with_reducible refine xk_as0 ?_); first | ((with_reducible refine xk_move ?_); refine wx_q (wt_none rfl) rfl rfl (op_q rfl (op_move rfl)) rfl rfl rfl ?_) | ((with_reducible refine xk_indexAddr ?_); first | refine wx_q (wt_none rfl) rfl rfl (op_q rfl (op_indexAddr rfl rfl f1)) rfl rfl rfl ?_ | refine wx_q (wt_none rfl) rfl rfl (op_q rfl (op_indexAddr rfl rfl e1)) rfl rfl rfl ?_) | ((with_reducible refine xk_load ?_); first | refine wx_h0 (wt_none rfl) rfl (op_q rfl (op_ldTr rfl Tryz.underlying47 rfl zs47 (qf _ gr_A))) rfl rfl rfl ?_ | refine wx_h0 (wt_none rfl) rfl (op_q rfl (op_ldTr rfl Tryz.underlying47 rfl zs47 (qe _ gr_A))) rfl rfl rfl ?_ | refine wx_h0 (wt_none rfl) rfl (op_q rfl (op_ldAt rfl at_A Tryz.underlying41 rfl rfl)) rfl rfl rfl ?_) | ((with_reducible refine xk_alloc ?_); refine wx_a0 (wt_none rfl) rfl (oa_alloc zz47 zs47 rfl rfl rfl) rfl rfl ?_) | ((with_reducible refine xk_fieldAddr ?_); refine wx_q (wt_none rfl) rfl rfl (op_q rfl (op_fieldAddr (o := 1) rfl Tryz.underlying43 rfl zs41 rfl)) rfl rfl rfl ?_)) | ((with_reducible refine xk_alloc ?_); refine wx_a (wt_none rfl) rfl rfl (oa_alloc zz47 zs47 rfl rfl rfl) rfl rfl rfl ?_) | ((with_reducible refine xk_store ?_); refine wx_e0n (wt_none rfl) rfl rfl rfl rfl (op_stAgg rfl rfl at_A zs47 rfl rfl rfl rfl) rfl ?_) | refine wx_niln ?_ ?_ rfl rfl ?_) | with_reducible exact obl_nil | with_reducible refine obl_cons ?_ ?_ | ((with_reducible refine ik_obs ?_); first | exact obs_nil | refine obs_skip rfl ?_ | refine obs_chkn rfl rfl (op_q rfl (op_ldTr rfl Tryz.underlying47 rfl zs47 (qf _ gr_A))) ?_ | refine obs_chkn rfl rfl (op_q rfl (op_ldTr rfl Tryz.underlying47 rfl zs47 (qe _ gr_A))) ?_ | refine obs_chkn rfl rfl (op_q rfl (op_ldAt rfl at_A Tryz.underlying41 rfl (by rfl))) ?_) | with_reducible exact stk_nil | with_reducible refine stk_cons ?_ ?_ | ((with_reducible refine ik_stk ?_); first | exact stk_abs rfl rfl | exact stk_freeB rfl rfl wf_A gr_B) | refine wc_drawB (id := 13) 14 [0, 1, 0, 7, 15, 0, 32, 0, 224, 480, 0, 0, 3103, 8191] [0, 1, 2, 3, 4, 5, 6, 7, 8, 9, 10, 11, 12, 13] (by kernel_rfl) (by kernel_rfl) rfl rfl ?_ | ((with_reducible refine xk_any ?_); (with_reducible refine xk_store ?_); refine wx_e02 (wt_none rfl) rfl rfl rfl rfl (op_stAgg rfl rfl at_A zs47 rfl rfl rfl rfl) rfl ?_))
      exact ⟨rfl, (_, _), within_lk ⟨rfl, rfl, rfl, rfl, rfl, rfl, rfl, rfl, trivial⟩, ⟨wf_A, gr_A, z7_A⟩, at_A, at_A⟩
    rintro ⟨b10, b11⟩ h2 ⟨⟨w2, g2, n3, n4, n5⟩, at1, at2⟩
    simp only at n3 n4 n5 at1 at2 ⊢
    have g3 := g1.trans g2
    have c0 := a0.grow g2
    have c1 := a1.grow g2
    have c2 := a2.grow g2
    have c8 := a8.grow g2
    have hvs2 : ∀ t ∈ vs, TrN h2 (b8 + 1) t := fun t ht => (hvs t ht).grow g2
    have hv2 : (v = .slice none 0 0 ∧ j = 0) ∨ ∃ b, b8 < b ∧ b < b10 ∧ v = .slice (some ⟨b, 0, some 0⟩) j j ∧ At h2 b (.cells (vs.flatMap Trc.cells) 47 10 true) := by
      rcases hv with q | ⟨b, q1, q2, q3⟩
      · exact .inl q
      · have := q3.lt
        exact .inr ⟨b, q1, by omega, q2, q3.grow g2⟩
    clear w1 a0 a1 a2 a8 hvs hv qf qe f1 f3 e1 e3
    obtain ⟨hd, hole, sa, tn, tc, tl⟩ := t
    obtain ⟨hd', hole', sa', tn', tc', tl'⟩ := u
    dsimp only [Trc.cells] at at1 at2
    simp only at hi lt1 lu1 ltl lul hkey hgB
    have hclen : (vs.flatMap Trc.cells).length = j * 10 := by rw [flat_len, hvl]
    have q117 := fun (h : H) => c117 (G := G) (h := h) hd
    by_cases hho : (hole || hole') = true
    · have hi2 : bigM (ts.drop (j + 1)) (us.drop (j + 1)) = bigM ts us := by
        rw [← hi]
        cases hole with
        | true => rfl
        | false => have : hole' = true := by simpa using hho
                   rw [this]; rfl
      have hkn := hkey ⟨hd, true, none, 0, 0, []⟩ (by unfold joinKeyR msk; simp only [hho]; rfl)
      have hsplit : (hole = true) ∨ (hole = false ∧ hole' = true) := by
        cases hole with
        | true => exact .inl rfl
        | false => exact .inr ⟨rfl, by simpa using hho⟩
      rcases hv2 with ⟨rfl, rfl⟩ | ⟨b, hb, hb2, rfl, hatb⟩
      · have hvz : vs = [] := List.length_eq_zero_iff.1 hvl
        subst hvz
        rcases hsplit with rfl | ⟨rfl, rfl⟩
        all_goals
          repeat' (first | with_reducible refine wo_nil ?_ | ((with_reducible refine wo_any ?_); first | ((with_reducible refine ik_move ?_); refine wo_op rfl (op_move rfl) rfl rfl ?_) | ((with_reducible refine ik_assign ?_); refine wo_op rfl (op_assign rfl) rfl rfl ?_) | ((with_reducible refine ik_fieldAddr ?_); refine wo_op rfl (op_fieldAddr (o := 8) rfl Tryz.underlying47 rfl zs4 rfl) rfl rfl ?_) | ((with_reducible refine ik_load ?_); refine wo_op rfl (op_ldAt rfl at_A Tryz.underlying4 rfl rfl) rfl rfl ?_) | ((with_reducible refine ik_bin ?_); refine wo_op rfl (op_add' rfl rfl (w64 (by omega) (by omega))) rfl rfl ?_) | ((with_reducible refine ik_pick ?_); first | refine wo_op rfl (op_pickt rfl rfl) rfl rfl ?_ | refine wo_op rfl (op_pickf rfl rfl) rfl rfl ?_) | ((with_reducible refine ik_g ?_); first | refine wo_gskip rfl rfl rfl rfl rfl rfl ?_ | ((with_reducible refine ig_fieldAddr ?_); refine wo_grun rfl rfl rfl (op_fieldAddr (o := 8) rfl Tryz.underlying47 rfl zs4 rfl) rfl rfl ?_) | ((with_reducible refine ig_load ?_); refine wo_grun rfl rfl rfl (op_ldAt rfl at_A Tryz.underlying4 rfl rfl) rfl rfl ?_))) | ((with_reducible refine xk_any ?_); first | ((with_reducible refine xk_as0 ?_); first | ((with_reducible refine xk_fieldAddr ?_); first | refine wx_q (wt_none rfl) rfl rfl (op_q rfl (op_fieldAddr (o := 1) rfl Tryz.underlying43 rfl zs41 rfl)) rfl rfl rfl ?_ | refine wx_q (wt_none rfl) rfl rfl (op_q rfl (op_fieldAddr (o := 0) rfl Tryz.underlying47 rfl zs44 rfl)) rfl rfl rfl ?_) | ((with_reducible refine xk_load ?_); first | refine wx_h0 (wt_none rfl) rfl (op_q rfl (op_ldAt rfl at_A Tryz.underlying41 rfl rfl)) rfl rfl rfl ?_ | refine wx_h0 (wt_none rfl) rfl (op_q rfl (op_ldAgg rfl at_A Tryz.underlying44 rfl zs44 rfl rfl)) rfl rfl rfl ?_) | ((with_reducible refine xk_buildSlice ?_); refine wx_a0 (wt_none rfl) rfl (oa_buildSlice rfl Tryz.underlying41 zs47 zz47 rfl rfl) rfl rfl ?_) | ((with_reducible refine xk_callv ?_); (refine wx_call0 (wt_none rfl) rfl rfl rfl rfl ((q117 _)) rfl rfl ?_; rintro _ _ ⟨rfl, hq⟩; all_goals ((try (have hqn := hq.nx)); (try simp only [H.nx_push, H.nx_set, H.nx_bump] at hqn))))) | ((with_reducible refine xk_callb ?_); ((with_reducible refine xk_as1 ?_); refine wx_e1 (wt_none rfl) rfl rfl rfl (op_append rfl rfl (append_nil_eq (M := mz G) (st := 41) (xt := 41) (m := 1) Tryz.underlying41 Tryz.underlying41 rfl zs47 zb47 zz47 rfl (Sl.ofAt at_A rfl (Nat.le_refl _)) rfl (by omega) (by omega))) rfl rfl ?_)) | ((with_reducible refine xk_fieldAddr ?_); refine wx_q (wt_none rfl) rfl rfl (op_q rfl (op_fieldAddr (o := 1) rfl Tryz.underlying43 rfl zs41 rfl)) rfl rfl rfl ?_) | ((with_reducible refine xk_store ?_); refine wx_e0n (wt_none rfl) rfl rfl rfl rfl (op_st1 rfl rfl at_A rfl zs41 rfl rfl rfl) rfl ?_) | refine wx_niln ?_ ?_ rfl rfl ?_) | with_reducible exact obl_nil | with_reducible refine obl_cons ?_ ?_ | ((with_reducible refine ik_obs ?_); first | exact obs_nil | refine obs_skip rfl ?_ | refine obs_chkn rfl rfl (op_q rfl (op_ldAt rfl at_A Tryz.underlying41 rfl (by rfl))) ?_ | refine obs_chkn rfl rfl (op_q rfl (op_ldAgg rfl at_A Tryz.underlying44 rfl zs44 (by rfl) rfl)) ?_) | with_reducible exact stk_nil | with_reducible refine stk_cons ?_ ?_ | ((with_reducible refine ik_stk ?_); first | exact stk_abs rfl rfl | exact stk_freeB rfl rfl wf_A gr_B) | with_reducible refine sq_norm ?_ | with_reducible refine wc_seq ?_ | with_reducible refine wc_region ?_ | with_reducible refine wc_exit ?_ | with_reducible refine sq_exit ?_ | refine bq_eq rfl ?_ | refine wc_ift rfl ?_ | refine wc_drawB (id := 15) 9 [0, 1, 0, 4, 12, 28, 63, 127, 255] [0, 1, 2, 3, 4, 5, 6, 7, 8] (by kernel_rfl) (by kernel_rfl) rfl rfl ?_)
          all_goals
            refine lq_norm (0 + 1, .slice (some ⟨_, 0, some 0⟩) (0 + 1) (0 + 1), [⟨hd, true, none, 0, 0, []⟩]) (by simp only; omega) (within_lk ⟨rfl, rfl, rfl, rfl, rfl, rfl, trivial⟩) ⟨⟨wf_A, gr_A, z8_A, at_A, at_A, at_A, at_A⟩, by simp only; omega, hi2, rfl, (fun t ht => by simp only [List.mem_singleton] at ht; subst ht; exact .inl ⟨rfl, rfl, rfl, rfl⟩), .inr ⟨_, ?_, rfl, at_A⟩, hkn⟩
            simp only [H.nx_set, H.nx_push, H.nx_bump]; omega
      · rcases hsplit with rfl | ⟨rfl, rfl⟩
        all_goals
          repeat' (first | with_reducible refine wo_nil ?_ | ((with_reducible refine wo_any ?_); first | ((with_reducible refine ik_move ?_); refine wo_op rfl (op_move rfl) rfl rfl ?_) | ((with_reducible refine ik_assign ?_); refine wo_op rfl (op_assign rfl) rfl rfl ?_) | ((with_reducible refine ik_fieldAddr ?_); refine wo_op rfl (op_fieldAddr (o := 8) rfl Tryz.underlying47 rfl zs4 rfl) rfl rfl ?_) | ((with_reducible refine ik_load ?_); refine wo_op rfl (op_ldAt rfl at_A Tryz.underlying4 rfl rfl) rfl rfl ?_) | ((with_reducible refine ik_bin ?_); refine wo_op rfl (op_add' rfl rfl (w64 (by omega) (by omega))) rfl rfl ?_) | ((with_reducible refine ik_pick ?_); first | refine wo_op rfl (op_pickt rfl rfl) rfl rfl ?_ | refine wo_op rfl (op_pickf rfl rfl) rfl rfl ?_) | ((with_reducible refine ik_g ?_); first | refine wo_gskip rfl rfl rfl rfl rfl rfl ?_ | ((with_reducible refine ig_fieldAddr ?_); refine wo_grun rfl rfl rfl (op_fieldAddr (o := 8) rfl Tryz.underlying47 rfl zs4 rfl) rfl rfl ?_) | ((with_reducible refine ig_load ?_); refine wo_grun rfl rfl rfl (op_ldAt rfl at_A Tryz.underlying4 rfl rfl) rfl rfl ?_))) | ((with_reducible refine xk_any ?_); first | ((with_reducible refine xk_as0 ?_); first | ((with_reducible refine xk_fieldAddr ?_); first | refine wx_q (wt_none rfl) rfl rfl (op_q rfl (op_fieldAddr (o := 1) rfl Tryz.underlying43 rfl zs41 rfl)) rfl rfl rfl ?_ | refine wx_q (wt_none rfl) rfl rfl (op_q rfl (op_fieldAddr (o := 0) rfl Tryz.underlying47 rfl zs44 rfl)) rfl rfl rfl ?_) | ((with_reducible refine xk_load ?_); first | refine wx_h0 (wt_none rfl) rfl (op_q rfl (op_ldAt rfl at_A Tryz.underlying41 rfl rfl)) rfl rfl rfl ?_ | refine wx_h0 (wt_none rfl) rfl (op_q rfl (op_ldAgg rfl at_A Tryz.underlying44 rfl zs44 rfl rfl)) rfl rfl rfl ?_) | ((with_reducible refine xk_buildSlice ?_); refine wx_a0 (wt_none rfl) rfl (oa_buildSlice rfl Tryz.underlying41 zs47 zz47 rfl rfl) rfl rfl ?_) | ((with_reducible refine xk_callv ?_); (refine wx_call0 (wt_none rfl) rfl rfl rfl rfl ((q117 _)) rfl rfl ?_; rintro _ _ ⟨rfl, hq⟩; all_goals ((try (have hqn := hq.nx)); (try simp only [H.nx_push, H.nx_set, H.nx_bump] at hqn))))) | ((with_reducible refine xk_callb ?_); ((with_reducible refine xk_as1 ?_); refine wx_e1 (wt_none rfl) rfl rfl rfl (op_append rfl rfl (append_own_eq (M := mz G) (st := 41) (xt := 41) (m := 1) Tryz.underlying41 Tryz.underlying41 rfl zs47 zb47 zz47 rfl (Sl.ofAt at_A rfl (Nat.le_refl _)) rfl (b := b) (c := vs.flatMap Trc.cells) at_A hclen (by omega) (by omega))) rfl rfl ?_)) | ((with_reducible refine xk_fieldAddr ?_); refine wx_q (wt_none rfl) rfl rfl (op_q rfl (op_fieldAddr (o := 1) rfl Tryz.underlying43 rfl zs41 rfl)) rfl rfl rfl ?_) | ((with_reducible refine xk_store ?_); refine wx_e0n (wt_none rfl) rfl rfl rfl rfl (op_st1 rfl rfl at_A rfl zs41 rfl rfl rfl) rfl ?_) | refine wx_niln ?_ ?_ rfl rfl ?_) | with_reducible exact obl_nil | with_reducible refine obl_cons ?_ ?_ | ((with_reducible refine ik_obs ?_); first | exact obs_nil | refine obs_skip rfl ?_ | refine obs_chkn rfl rfl (op_q rfl (op_ldAt rfl at_A Tryz.underlying41 rfl (by rfl))) ?_ | refine obs_chkn rfl rfl (op_q rfl (op_ldAgg rfl at_A Tryz.underlying44 rfl zs44 (by rfl) rfl)) ?_) | with_reducible exact stk_nil | with_reducible refine stk_cons ?_ ?_ | ((with_reducible refine ik_stk ?_); first | exact stk_abs rfl rfl | exact stk_freeB rfl rfl wf_A gr_B) | with_reducible refine sq_norm ?_ | with_reducible refine wc_seq ?_ | with_reducible refine wc_region ?_ | with_reducible refine wc_exit ?_ | with_reducible refine sq_exit ?_ | refine bq_eq rfl ?_ | refine wc_ift rfl ?_ | refine wc_drawB (id := 15) 9 [0, 1, 0, 4, 12, 28, 63, 127, 255] [0, 1, 2, 3, 4, 5, 6, 7, 8] (by kernel_rfl) (by kernel_rfl) rfl rfl ?_)
          all_goals
            refine lq_norm (j + 1, .slice (some ⟨_, 0, some 0⟩) (j + 1) (j + 1), vs ++ [⟨hd, true, none, 0, 0, []⟩]) (by simp only; omega) (within_lk ⟨rfl, rfl, rfl, rfl, rfl, rfl, trivial⟩) ⟨⟨wf_A, gr_A, (by simp only [H.nx_set, H.nx_push, H.nx_bump, H.nx_kill]; omega), at_A, at_A, at_A, at_A⟩, by simp only; omega, hi2, by simp [hvl], (fun t ht => ?_), .inr ⟨_, ?_, rfl, by rw [List.flatMap_append, List.flatMap_singleton]; exact at_A⟩, hkn⟩
            · rcases List.mem_append.1 ht with ht | ht
              · exact TrN.set (TrN.push (TrN.kill10 (c := vs.flatMap Trc.cells) (e := 47) (s := true) (TrN.grow (hvs2 t ht) gr_A) at_A) _) (by show b8 < b8 + 1; omega) _
              · simp only [List.mem_singleton] at ht; subst ht; exact .inl ⟨rfl, rfl, rfl, rfl⟩
            · simp only [H.nx_set, H.nx_push, H.nx_bump, H.nx_kill]; omega
    · have hz1 : hole = false := by cases hole <;> simp_all
      have hz2 : hole' = false := by cases hole' <;> simp_all
      subst hz1 hz2
      have qcp := copy45 (G := G) ot.sl (by simp only; omega)
      have qmo := fun (g : H) (b : Nat) (sf : Bool) (at3 : At g b (.cells (tl.map (.float .f32)) 23 1 sf)) (gg : Grow h2 g) (hb : h2.nx ≤ b) => app_more (n := tn) (m := tn') at3 (by simp [ltl]) (by omega) (ou.sl.grow (g3.trans gg)) (all_one_map (fun _ => rfl) tl') gg hb
      simp only at qcp qmo
      repeat' (first | with_reducible refine wo_nil ?_ | ((with_reducible refine wo_any ?_); first | ((with_reducible refine ik_move ?_); refine wo_op rfl (op_move rfl) rfl rfl ?_) | ((with_reducible refine ik_fieldAddr ?_); refine wo_op rfl (op_fieldAddr (o := 8) rfl Tryz.underlying47 rfl zs4 rfl) rfl rfl ?_) | ((with_reducible refine ik_load ?_); refine wo_op rfl (op_ldAt rfl at_A Tryz.underlying4 rfl rfl) rfl rfl ?_) | ((with_reducible refine ik_pick ?_); refine wo_op rfl (op_pickf rfl rfl) rfl rfl ?_) | ((with_reducible refine ik_g ?_); first | ((with_reducible refine ig_fieldAddr ?_); refine wo_grun rfl rfl rfl (op_fieldAddr (o := 8) rfl Tryz.underlying47 rfl zs4 rfl) rfl rfl ?_) | ((with_reducible refine ig_load ?_); refine wo_grun rfl rfl rfl (op_ldAt rfl at_A Tryz.underlying4 rfl rfl) rfl rfl ?_))) | with_reducible refine sq_norm ?_ | with_reducible refine wc_seq ?_ | with_reducible refine wc_region ?_ | with_reducible refine wc_skip ?_ | refine wc_iff rfl ?_)
      refine wc_join (ι := Nat × Bool) (fun i => [(2, .pointer (some ⟨h.nx, 0, some 0⟩)), (3, .pointer (some ⟨h.nx + 1, 0, some 0⟩)), (4, .pointer (some ⟨h.nx + 2, 0, some 0⟩)), (5, .int .i64 0), (8, .pointer (some ⟨b8, 0, some 0⟩)), (9, .int .i64 (j : Nat)), (10, .pointer (some ⟨b10, 0, some 0⟩)), (11, .pointer (some ⟨b11, 0, some 0⟩)), (12, .slice (some ⟨i.1, 0, some 0⟩) (tn + tn') (tn + tn'))])
        (fun i h3 => (Wf h3 ∧ Grow h2 h3 ∧ h2.nx ≤ i.1) ∧ At h3 i.1 (.cells ((tl ++ tl').map (.float .f32)) 23 1 i.2)) ?_ ?_
      · repeat' (first | ((with_reducible refine xk_any ?_); first | ((with_reducible refine xk_as0 ?_); ((with_reducible refine xk_buildSlice ?_); refine wx_a0 (wt_none rfl) rfl (oa_buildSlice rfl Tryz.underlying45 zs23 zz23 rfl rfl) rfl rfl ?_)) | ((with_reducible refine xk_assign ?_); refine wx_q (wt_none rfl) rfl rfl (op_q rfl (op_assign rfl)) rfl rfl rfl ?_) | ((with_reducible refine xk_fieldAddr ?_); refine wx_q (wt_none rfl) rfl rfl (op_q rfl (op_fieldAddr (o := 9) rfl Tryz.underlying47 rfl zs45 rfl)) rfl rfl rfl ?_) | ((with_reducible refine xk_load ?_); refine wx_hn (wt_none rfl) rfl rfl rfl (op_q rfl (op_ldAt rfl at_A Tryz.underlying45 rfl rfl)) rfl rfl rfl ?_) | refine wx_niln ?_ ?_ rfl rfl ?_) | with_reducible exact obl_nil | with_reducible refine obl_cons ?_ ?_ | ((with_reducible refine ik_obs ?_); first | exact obs_nil | refine obs_skip rfl ?_ | refine obs_chkn rfl rfl (op_q rfl (op_ldAt rfl at_A Tryz.underlying45 rfl (by rfl))) ?_) | with_reducible exact stk_nil | with_reducible refine stk_cons ?_ ?_ | ((with_reducible refine ik_stk ?_); first | exact stk_abs rfl rfl | exact stk_freeB rfl rfl wf_A gr_B) | refine wc_drawB (id := 16) 8 [0, 0, 2, 7, 0, 16, 63, 127] [0, 1, 2, 3, 4, 5, 6, 7] (by kernel_rfl) (by kernel_rfl) rfl rfl ?_ | ((with_reducible refine xk_any ?_); (with_reducible refine xk_as1 ?_); (with_reducible refine xk_callb ?_); refine wx_ex1 (wt_none rfl) rfl rfl rfl (opx_app rfl rfl (qcp _ _ at_A gr_A)) rfl rfl ?_; rintro _ _ ⟨⟨b1, sf1, rfl, hb1, hatS⟩, hq⟩; have hqn := hq.nx; (try simp only [H.nx_push, H.nx_set, H.nx_bump] at hqn hb1)) | ((with_reducible refine xk_any ?_); (with_reducible refine xk_callb ?_); refine wx_exn (wt_none rfl) rfl rfl rfl rfl (opx_app rfl rfl (qmo _ _ _ hatS gr_A (by omega))) rfl rfl ?_; rintro _ _ ⟨⟨b2, sf2, rfl, hb2, hatT⟩, hg2, hw2, hn2⟩))
        all_goals exact ⟨rfl, (_, _), within_lk ⟨rfl, rfl, rfl, rfl, rfl, rfl, rfl, rfl, rfl, trivial⟩, ⟨hw2 wf_A, hg2, hb2⟩, by rw [List.map_append]; exact hatT⟩
      rintro ⟨b2, sf2⟩ h3 ⟨⟨w3, g4, n6⟩, at3⟩
      simp only at n6 at3 ⊢
      have g5 := g3.trans g4
      have g4n := g4.nx
      have d0 := c0.grow g4
      have d1 := c1.grow g4
      have d2 := c2.grow g4
      have d8 := c8.grow g4
      have at1 := at1.grow g4
      have at2 := at2.grow g4
      have hvs3 : ∀ t ∈ vs, TrN h3 (b8 + 1) t := fun t ht => (hvs2 t ht).grow g4
      have hv3 : (v = .slice none 0 0 ∧ j = 0) ∨ ∃ b, b8 < b ∧ b < b10 ∧ v = .slice (some ⟨b, 0, some 0⟩) j j ∧ At h3 b (.cells (vs.flatMap Trc.cells) 47 10 true) := by
        rcases hv2 with q | ⟨b, q1, q2, q3, q4⟩
        · exact .inl q
        · exact .inr ⟨b, q1, q2, q3, q4.grow g4⟩
      clear c0 c1 c2 c8 hvs2 hv2 w2 q117 qcp qmo
      by_cases hbg : 1024 < tn + tn'
      · have hbt : bigM ts us = true := by rw [← hi, decide_eq_true hbg]; rfl
        rw [hbt, if_pos rfl]
        repeat' (first | with_reducible refine wo_nil ?_ | ((with_reducible refine wo_any ?_); first | ((with_reducible refine ik_move ?_); refine wo_op rfl (op_move rfl) rfl rfl ?_) | ((with_reducible refine ik_assign ?_); refine wo_op rfl (op_assign rfl) rfl rfl ?_) | ((with_reducible refine ik_callb ?_); refine wo_op rfl (op_lenSl rfl Tryz.underlying45) rfl rfl ?_) | ((with_reducible refine ik_bin ?_); refine wo_op rfl (op_gtr rfl rfl) rfl rfl ?_) | ((with_reducible refine ik_build ?_); refine wo_op rfl (op_buildT rfl zz43 zp43 rfl rfl) rfl rfl ?_) | ((with_reducible refine ik_store ?_); refine wo_op0 rfl (op_stAgg rfl rfl at_A zs43 rfl rfl rfl rfl) rfl ?_)) | with_reducible refine sq_norm ?_ | with_reducible refine wc_seq ?_ | with_reducible refine wc_region ?_ | with_reducible refine wc_ret ?_ | with_reducible refine bq_ret ?_ | with_reducible refine sq_ret ?_ | with_reducible refine lq_ret ?_ | (refine wc_if rfl (fun hb => ?_) (fun hb => dead_A hb); (try simp only [decide_eq_true_eq, decide_eq_false_iff_not, Bool.not_eq_true', Bool.not_eq_false', Int.not_lt, Int.not_le, Decidable.not_not, not_true_eq_false, not_false_eq_true, beq_self_eq_true, reduceCtorEq] at hb)))
        all_goals exact rqc2 rfl (ldAgg at_A Tryz.underlying43 rfl zs43 rfl rfl) rfl ⟨.inl ⟨by decide, rfl⟩, gr_A⟩
      have hi2 : bigM (ts.drop (j + 1)) (us.drop (j + 1)) = bigM ts us := by rw [← hi, decide_eq_false hbg]; rfl
      have hkn := hkey ⟨hd, false, some ⟨b2, 0, some 0⟩, tn + tn', tn + tn', tl ++ tl'⟩ (by unfold joinKeyR msk; simp only [Trc.key, hgB, List.length_append, ltl, lul]; rfl)
      have hnw : TrN h3 (b8 + 1) ⟨hd, false, some ⟨b2, 0, some 0⟩, tn + tn', tn + tn', tl ++ tl'⟩ := .inr ⟨⟨b2, sf2, rfl, by omega, at3⟩, by simp; omega, rfl⟩
      rcases hv3 with ⟨rfl, rfl⟩ | ⟨b, hb, hbx, rfl, hatb⟩
      · have hvz : vs = [] := List.length_eq_zero_iff.1 hvl
        subst hvz
        repeat' (first | with_reducible refine wo_nil ?_ | ((with_reducible refine wo_any ?_); first | ((with_reducible refine ik_move ?_); refine wo_op rfl (op_move rfl) rfl rfl ?_) | ((with_reducible refine ik_assign ?_); refine wo_op rfl (op_assign rfl) rfl rfl ?_) | ((with_reducible refine ik_callb ?_); first | refine wo_op rfl (op_append rfl rfl (append_nil_eq (M := mz G) (st := 41) (xt := 41) (m := 1) Tryz.underlying41 Tryz.underlying41 rfl zs47 zb47 zz47 rfl (Sl.ofAt at_A rfl (Nat.le_refl _)) rfl (by omega) (by omega))) rfl rfl ?_ | refine wo_op rfl (op_lenSl rfl Tryz.underlying45) rfl rfl ?_) | ((with_reducible refine ik_fieldAddr ?_); first | refine wo_op rfl (op_fieldAddr (o := 1) rfl Tryz.underlying43 rfl zs41 rfl) rfl rfl ?_ | refine wo_op rfl (op_fieldAddr (o := 0) rfl Tryz.underlying47 rfl zs44 rfl) rfl rfl ?_) | ((with_reducible refine ik_load ?_); first | refine wo_op rfl (op_ldAt rfl at_A Tryz.underlying41 rfl rfl) rfl rfl ?_ | refine wo_op rfl (op_ldAgg rfl at_A Tryz.underlying44 rfl zs44 rfl rfl) rfl rfl ?_) | ((with_reducible refine ik_bin ?_); first | refine wo_op rfl (op_add' rfl rfl (w64 (by omega) (by omega))) rfl rfl ?_ | refine wo_op rfl (op_gtr rfl rfl) rfl rfl ?_) | ((with_reducible refine ik_build ?_); refine wo_op rfl (op_buildT rfl zz47 zp47 rfl rfl) rfl rfl ?_) | ((with_reducible refine ik_store ?_); refine wo_op0 rfl (op_st1 rfl rfl at_A rfl zs41 rfl rfl rfl) rfl ?_) | ((with_reducible refine ik_buildSlice ?_); refine wo_op rfl (op_buildSl rfl Tryz.underlying41 zs47 zz47 rfl rfl) rfl rfl ?_)) | with_reducible refine sq_norm ?_ | with_reducible refine wc_seq ?_ | with_reducible refine wc_region ?_ | with_reducible refine wc_skip ?_ | with_reducible refine bq_norm ?_ | (refine wc_if rfl (fun hb => dead_A hb) (fun hb => ?_); (try simp only [decide_eq_true_eq, decide_eq_false_iff_not, Bool.not_eq_true', Bool.not_eq_false', Int.not_lt, Int.not_le, Decidable.not_not, not_true_eq_false, not_false_eq_true, beq_self_eq_true, reduceCtorEq] at hb)))
        all_goals
          refine lq_norm (0 + 1, .slice (some ⟨_, 0, some 0⟩) (0 + 1) (0 + 1), [⟨hd, false, some ⟨b2, 0, some 0⟩, tn + tn', tn + tn', tl ++ tl'⟩]) (by simp only; omega) (within_lk ⟨rfl, rfl, rfl, rfl, rfl, rfl, trivial⟩) ⟨⟨wf_A, gr_A, z8_A, at_A, at_A, at_A, at_A⟩, by simp only; omega, hi2, rfl, (fun t ht => by simp only [List.mem_singleton] at ht; subst ht; exact TrN.set (hnw.grow gr_A) (by show b8 < b8 + 1; omega) _), .inr ⟨_, ?_, rfl, at_A⟩, hkn⟩
          simp only [H.nx_set, H.nx_push, H.nx_bump]; omega
      · repeat' (first | with_reducible refine wo_nil ?_ | ((with_reducible refine wo_any ?_); first | ((with_reducible refine ik_move ?_); refine wo_op rfl (op_move rfl) rfl rfl ?_) | ((with_reducible refine ik_assign ?_); refine wo_op rfl (op_assign rfl) rfl rfl ?_) | ((with_reducible refine ik_callb ?_); first | refine wo_op rfl (op_append rfl rfl (append_own_eq (M := mz G) (st := 41) (xt := 41) (m := 1) Tryz.underlying41 Tryz.underlying41 rfl zs47 zb47 zz47 rfl (Sl.ofAt at_A rfl (Nat.le_refl _)) rfl (b := b) (c := vs.flatMap Trc.cells) at_A hclen (by omega) (by omega))) rfl rfl ?_ | refine wo_op rfl (op_lenSl rfl Tryz.underlying45) rfl rfl ?_) | ((with_reducible refine ik_fieldAddr ?_); first | refine wo_op rfl (op_fieldAddr (o := 1) rfl Tryz.underlying43 rfl zs41 rfl) rfl rfl ?_ | refine wo_op rfl (op_fieldAddr (o := 0) rfl Tryz.underlying47 rfl zs44 rfl) rfl rfl ?_) | ((with_reducible refine ik_load ?_); first | refine wo_op rfl (op_ldAt rfl at_A Tryz.underlying41 rfl rfl) rfl rfl ?_ | refine wo_op rfl (op_ldAgg rfl at_A Tryz.underlying44 rfl zs44 rfl rfl) rfl rfl ?_) | ((with_reducible refine ik_bin ?_); first | refine wo_op rfl (op_add' rfl rfl (w64 (by omega) (by omega))) rfl rfl ?_ | refine wo_op rfl (op_gtr rfl rfl) rfl rfl ?_) | ((with_reducible refine ik_build ?_); refine wo_op rfl (op_buildT rfl zz47 zp47 rfl rfl) rfl rfl ?_) | ((with_reducible refine ik_store ?_); refine wo_op0 rfl (op_st1 rfl rfl at_A rfl zs41 rfl rfl rfl) rfl ?_) | ((with_reducible refine ik_buildSlice ?_); refine wo_op rfl (op_buildSl rfl Tryz.underlying41 zs47 zz47 rfl rfl) rfl rfl ?_)) | with_reducible refine sq_norm ?_ | with_reducible refine wc_seq ?_ | with_reducible refine wc_region ?_ | with_reducible refine wc_skip ?_ | with_reducible refine bq_norm ?_ | (refine wc_if rfl (fun hb => dead_A hb) (fun hb => ?_); (try simp only [decide_eq_true_eq, decide_eq_false_iff_not, Bool.not_eq_true', Bool.not_eq_false', Int.not_lt, Int.not_le, Decidable.not_not, not_true_eq_false, not_false_eq_true, beq_self_eq_true, reduceCtorEq] at hb)))
        all_goals
          refine lq_norm (j + 1, .slice (some ⟨_, 0, some 0⟩) (j + 1) (j + 1), vs ++ [⟨hd, false, some ⟨b2, 0, some 0⟩, tn + tn', tn + tn', tl ++ tl'⟩]) (by simp only; omega) (within_lk ⟨rfl, rfl, rfl, rfl, rfl, rfl, trivial⟩) ⟨⟨wf_A, gr_A, (by simp only [H.nx_set, H.nx_push, H.nx_bump, H.nx_kill]; omega), at_A, at_A, at_A, at_A⟩, by simp only; omega, hi2, by simp [hvl], (fun t ht => ?_), .inr ⟨_, ?_, rfl, by rw [List.flatMap_append, List.flatMap_singleton]; exact at_A⟩, hkn⟩
          · rcases List.mem_append.1 ht with ht | ht
            · exact TrN.set (TrN.push (TrN.kill10 (c := vs.flatMap Trc.cells) (e := 47) (s := true) (TrN.grow (hvs3 t ht) gr_A) at_A) _) (by show b8 < b8 + 1; omega) _
            · simp only [List.mem_singleton] at ht; subst ht
              exact TrN.set (TrN.push (TrN.kill10 (c := vs.flatMap Trc.cells) (e := 47) (s := true) (TrN.grow hnw gr_A) at_A) _) (by show b8 < b8 + 1; omega) _
          · simp only [H.nx_set, H.nx_push, H.nx_bump, H.nx_kill]; omega
  · have hjk : j = k := by omega
    subst hjk
    rw [List.drop_eq_nil_of_le (by omega), List.drop_eq_nil_of_le (by omega)] at hi
    have hnb : bigM ts us = false := by rw [← hi]; rfl
    rw [hnb, if_neg (by simp)]
    rcases hv with ⟨rfl, hj0⟩ | ⟨b, hb, rfl, hatb⟩
    · omega
    · repeat' (first | with_reducible refine wo_nil ?_ | ((with_reducible refine wo_any ?_); first | ((with_reducible refine ik_move ?_); refine wo_op rfl (op_move rfl) rfl rfl ?_) | ((with_reducible refine ik_assign ?_); refine wo_op rfl (op_assign rfl) rfl rfl ?_) | ((with_reducible refine ik_fieldAddr ?_); refine wo_op rfl (op_fieldAddr (o := 1) rfl Tryz.underlying43 rfl zs41 rfl) rfl rfl ?_) | ((with_reducible refine ik_load ?_); first | refine wo_op rfl (op_ldAt rfl at_A Tryz.underlying41 rfl rfl) rfl rfl ?_ | refine wo_op rfl (op_ldAgg rfl at_A Tryz.underlying43 rfl zs43 rfl rfl) rfl rfl ?_) | ((with_reducible refine ik_callb ?_); refine wo_op rfl (op_lenSl rfl Tryz.underlying41) rfl rfl ?_) | ((with_reducible refine ik_bin ?_); refine wo_op rfl (op_lss rfl rfl) rfl rfl ?_) | ((with_reducible refine ik_store ?_); refine wo_op0 rfl (op_stAgg rfl rfl at_A zs43 rfl rfl rfl rfl) rfl ?_)) | with_reducible refine sq_norm ?_ | with_reducible refine wc_seq ?_ | with_reducible refine wc_region ?_ | with_reducible refine wc_ret ?_ | with_reducible refine wc_exit ?_ | with_reducible refine sq_exit ?_ | with_reducible refine lq_exit ?_ | refine bq_eq rfl ?_ | (refine wc_if rfl (fun hb => dead_A hb) (fun hb => ?_); (try simp only [decide_eq_true_eq, decide_eq_false_iff_not, Bool.not_eq_true', Bool.not_eq_false', Int.not_lt, Int.not_le, Decidable.not_not, not_true_eq_false, not_false_eq_true, beq_self_eq_true, reduceCtorEq] at hb)))
      all_goals exact rqc2 rfl (ldAgg at_A Tryz.underlying43 rfl zs43 rfl rfl) rfl ⟨.inr ⟨rfl, b, vs, rfl, by omega, at_A, fun u hu => (TrN.set (hvs u hu) (by omega) _).ok, ⟨by rw [hvl, mskL_len (by omega)]; omega, hky⟩⟩, gr_A⟩
end Go.Proofs.YtdelgpbfdimefaaGreatDoor

/- What the law of cuts asks: the same from copies. -/
namespace Go.Proofs.YtdelgpbfdimefaaGreatDoor
open Go Go.Ab Go.Fl
variable {G : Base} {h : H}
theorem keys_at {ts us : List Trc} (q : us.map Trc.key = ts.map Trc.key) {i : Nat} (h1 : i < us.length) (h2 : i < ts.length) : (us[i]).key = (ts[i]).key := (keys_of q).2 i h1 h2
theorem keyAll_keys {vs ts us : List Trc} {K : Nat → Trc → Key} (q : us.map Trc.key = ts.map Trc.key) (hK : ∀ i t u, t.key = u.key → K i t = K i u) (h : KeyAll vs us K) : KeyAll vs ts K := by
  have hl : us.length = ts.length := by simpa using congrArg List.length q
  refine ⟨h.1.trans hl, fun i q1 q2 => ?_⟩
  rw [h.2 i q1 (by omega)]
  exact hK i _ _ (keys_at q (by omega) q2)
theorem chKey_key (F : Nat → List Int → List Int) (i : Nat) (t u : Trc) (q : t.key = u.key) : chKey F i t = chKey F i u := by
  obtain ⟨e1, e2, e3, e4⟩ := key_eq q
  unfold chKey
  rw [e1, e2, e4]
theorem cutKey_key (lo hi i : Nat) (t u : Trc) (q : t.key = u.key) : cutKey lo hi i t = cutKey lo hi i u := by
  unfold cutKey
  rw [chKey_key _ i t u q, (key_eq q).1]
theorem keys_late {x : Int} : ∀ {ts us : List Trc}, us.map Trc.key = ts.map Trc.key → lateB x us = lateB x ts
  | [], [], _ => rfl
  | t :: ts, u :: us, q => by
    obtain ⟨q1, q2⟩ := keys_cons q
    have := keys_late (x := x) q2
    unfold lateB at this ⊢
    rw [List.any_cons, List.any_cons, this, (key_eq q1).1]
  | [], _ :: _, q => by simp at q
  | _ :: _, [], q => by simp at q
theorem keys_cutC {nm : ByteArray} {ts us : List Trc} {x y : Int} (q : us.map Trc.key = ts.map Trc.key) : cutC nm us x y = cutC nm ts x y := by
  unfold cutC
  rw [keys_shE q, keys_wid q, keys_late q]
theorem keys_folM {w : Int} : ∀ {ts us ts' us' : List Trc}, us.map Trc.key = ts.map Trc.key → us'.map Trc.key = ts'.map Trc.key → folM w us us' = folM w ts ts'
  | [], [], _, _, _, _ => by unfold folM; rfl
  | t :: ts, u :: us, [], [], _, _ => by unfold folM; rfl
  | t :: ts, u :: us, t' :: ts', u' :: us', q, q' => by
    obtain ⟨q1, q2⟩ := keys_cons q
    obtain ⟨q3, q4⟩ := keys_cons q'
    unfold folM
    rw [(key_eq q1).1, (key_eq q3).1, keys_folM q2 q4]
  | [], _ :: _, _, _, q, _ => by simp at q
  | _ :: _, [], _, _, q, _ => by simp at q
  | _ :: _, _ :: _, [], _ :: _, _, q => by simp at q
  | _ :: _, _ :: _, _ :: _, [], _, q => by simp at q
theorem keys_bigM : ∀ {ts us ts' us' : List Trc}, us.map Trc.key = ts.map Trc.key → us'.map Trc.key = ts'.map Trc.key → bigM us us' = bigM ts ts'
  | [], [], _, _, _, _ => by unfold bigM; rfl
  | t :: ts, u :: us, [], [], _, _ => by unfold bigM; rfl
  | t :: ts, u :: us, t' :: ts', u' :: us', q, q' => by
    obtain ⟨q1, q2⟩ := keys_cons q
    obtain ⟨q3, q4⟩ := keys_cons q'
    unfold bigM
    rw [(key_eq q1).2.1, (key_eq q3).2.1, (key_eq q1).2.2.1, (key_eq q3).2.2.1, keys_bigM q2 q4]
  | [], _ :: _, _, _, q, _ => by simp at q
  | _ :: _, [], _, _, q, _ => by simp at q
  | _ :: _, _ :: _, [], _ :: _, _, q => by simp at q
  | _ :: _, _ :: _, _ :: _, [], _, q => by simp at q
theorem keys_folE {ts us ts' us' : List Trc} (q : us.map Trc.key = ts.map Trc.key) (q' : us'.map Trc.key = ts'.map Trc.key) : folE us us' = folE ts ts' := by
  have hl : us.length = ts.length := by simpa using congrArg List.length q
  have hl' : us'.length = ts'.length := by simpa using congrArg List.length q'
  unfold folE
  rw [hl, hl', keys_wid q, keys_folM q q', keys_bigM q q']
theorem keys_joinC {nm nm' : ByteArray} {ts us ts' us' : List Trc} (q : us.map Trc.key = ts.map Trc.key) (q' : us'.map Trc.key = ts'.map Trc.key) : joinC nm us nm' us' = joinC nm ts nm' ts' := by
  unfold joinC
  rw [keys_shE q, keys_shE q', keys_folE q q']
theorem keys_getL {ts us : List Trc} (q : us.map Trc.key = ts.map Trc.key) (i : Nat) : getL us i = getL ts i := by
  have hl : us.length = ts.length := by simpa using congrArg List.length q
  by_cases h1 : i < us.length
  · rw [getL_eq h1, getL_eq (by omega), (key_eq (keys_at q h1 (by omega))).2.2.2]
  · unfold getL
    rw [List.getElem?_eq_none (by omega), List.getElem?_eq_none (by omega)]
theorem keys_msk {ts us ts' us' : List Trc} (q : us.map Trc.key = ts.map Trc.key) (q' : us'.map Trc.key = ts'.map Trc.key) : (mskL us us').map Trc.key = (mskL ts ts').map Trc.key := by
  have hl : us.length = ts.length := by simpa using congrArg List.length q
  have hl' : us'.length = ts'.length := by simpa using congrArg List.length q'
  refine List.ext_getElem (by unfold mskL; simp [hl, hl']) fun i h1 h2 => ?_
  have a1 : i < us.length ∧ i < us'.length := by unfold mskL at h1; simp at h1; omega
  rw [List.getElem_map, List.getElem_map, mskL_get (by simpa using h1) a1.1 a1.2, mskL_get (by simpa using h2) (by omega) (by omega)]
  obtain ⟨e1, e2, e3, e4⟩ := key_eq (keys_at q a1.1 (by omega))
  obtain ⟨_, f2, _, _⟩ := key_eq (keys_at q' a1.2 (by omega))
  unfold msk Trc.key
  simp only [e1, e2, e3, e4, f2]
end Go.Proofs.YtdelgpbfdimefaaGreatDoor

/- The law of cuts: what is made from copies. -/
namespace Go.Proofs.YtdelgpbfdimefaaGreatDoor
open Go Go.Ab Go.Fl
attribute [local irreducible] SeqQ BlkQ LpQ RetQ Wc Wo WD WX Op1 Op1q Op1a Cf Cl From
attribute [local irreducible] Ieee.Format.order Ieee.Format.read Ieee.Format.nearest Ieee.Format.write Ieee.Format.mul Ieee.Format.div Ieee.Datum.order Ieee.Datum.integral smpE smp smpW K J U trE hdrE lchk firstNZ isNameB wid mism shE offs shortB anyLarge spanE folE
set_option maxRecDepth 10000
variable {G : Base} {h : H}
/-- A shot that was made, with her error; Z: what holds of her traces. -/
def MadeR (G : Base) (h : H) (C : Int) (nm : ByteArray) (n : Nat) (Z : List Trc → Prop) (nmR : ByteArray) (aR : Option Addr) (nR cR : Nat) : Prop :=
  (C ≠ 0 ∧ nmR = .empty ∧ aR = none ∧ nR = 0 ∧ cR = 0) ∨ (C = 0 ∧ nmR = nm ∧ nR = n ∧ ∃ vs : List Trc, SlT G h (.slice aR n cR) n vs ∧ Z vs)
theorem MadeR.grow {h h' : H} {C : Int} {nm : ByteArray} {n : Nat} {Z : List Trc → Prop} {nmR : ByteArray} {aR : Option Addr} {nR cR : Nat} (m : MadeR G h C nm n Z nmR aR nR cR) (g : Grow h h') : MadeR G h' C nm n Z nmR aR nR cR :=
  m.imp id fun ⟨e, e1, e2, vs, st, z⟩ => ⟨e, e1, e2, vs, st.grow g, z⟩
theorem keyAll_len {vs ts : List Trc} {K : Nat → Trc → Key} (h : KeyAll vs ts K) : vs.length = ts.length := h.1
theorem c42m {nm : ByteArray} {a : Option Addr} {n c : Nat} {ts us : List Trc} {x y : Int} (st : SlT G h (.slice a n c) n us) (q : us.map Trc.key = ts.map Trc.key) (hn : n ≤ 65) (hl : ∀ t ∈ ts, t.n < 1000000) (hw : Wf h) (hG : ∀ a v, laidBase a = some v → G a = some v) :
    Cf (mz G) (.func (.func 42) #[] #[]) [.agg ⟨shC nm a n c⟩, .agg ⟨[.int .i64 x, .int .i64 y]⟩] h fun r h' => (∃ nmR aR nR cR, r = .tuple #[.agg ⟨shC nmR aR nR cR⟩, .int .i64 (cutC nm ts x y)] ∧ MadeR G h' (cutC nm ts x y) nm n (fun vs => ∀ lo hi : Nat, x = lo → y = hi → KeyAll vs ts (cutKey lo hi)) nmR aR nR cR) ∧ Grow h h' := by
  refine (c42 (nm := nm) (x := x) (y := y) st hn (keys_n q hl) hw hG).mono fun r h' ⟨p, g⟩ => ⟨?_, g⟩
  rw [keys_cutC q] at p
  rcases p with ⟨h1, rfl⟩ | ⟨h1, lo, hi, B, vs, e1, e2, _, _, rfl, _, hat, hvs, ka⟩
  · exact ⟨.empty, none, 0, 0, rfl, .inl ⟨h1, rfl, rfl, rfl, rfl⟩⟩
  · refine ⟨nm, some ⟨B, 0, some 0⟩, n, n, by rw [h1], .inr ⟨h1, rfl, rfl, vs, ⟨Sl.ofAt hat (by rw [flat_len, keyAll_len ka, st.len]) (Nat.le_refl _), by rw [keyAll_len ka, st.len], fun t ht => (hvs t ht).ok⟩, fun lo' hi' f1 f2 => ?_⟩⟩
    have z1 : lo' = lo := by omega
    have z2 : hi' = hi := by omega
    subst z1 z2
    exact keyAll_keys q (cutKey_key _ _) ka
theorem c43m {nm nm' : ByteArray} {a a' : Option Addr} {n m c c' : Nat} {ts us ts' us' : List Trc} (st : SlT G h (.slice a n c) n us) (st' : SlT G h (.slice a' m c') m us') (q : us.map Trc.key = ts.map Trc.key) (q' : us'.map Trc.key = ts'.map Trc.key) (hn : n ≤ 65) (hm : m ≤ 65) (hl : ∀ t ∈ ts, t.n < 1000000) (hl' : ∀ t ∈ ts', t.n < 1000000) (hw : Wf h) (hG : ∀ a v, laidBase a = some v → G a = some v) :
    Cf (mz G) (.func (.func 43) #[] #[]) [.agg ⟨shC nm a n c⟩, .agg ⟨shC nm' a' m c'⟩] h fun r h' => (∃ nmR aR nR cR, r = .tuple #[.agg ⟨shC nmR aR nR cR⟩, .int .i64 (joinC nm ts nm' ts')] ∧ MadeR G h' (joinC nm ts nm' ts') nm n (fun vs => KeyAll vs (mskL ts ts') (chKey (mrgF catF ts'))) nmR aR nR cR) ∧ Grow h h' := by
  refine (c43 (nm := nm) (nm' := nm') st st' hn hm (keys_n q hl) (keys_n q' hl') hw hG).mono fun r h' ⟨p, g⟩ => ⟨?_, g⟩
  rw [keys_joinC q q'] at p
  rcases p with ⟨h1, rfl⟩ | ⟨h1, B, vs, rfl, _, hat, hvs, ka⟩
  · exact ⟨.empty, none, 0, 0, rfl, .inl ⟨h1, rfl, rfl, rfl, rfl⟩⟩
  · have hj : folE ts ts' = 0 := (first3_zero h1).2.2
    have hlt := (folE_ok hj).1
    have hu : us.length = ts.length := by simpa using congrArg List.length q
    have hu' : us'.length = ts'.length := by simpa using congrArg List.length q'
    have hvl : vs.length = n := by rw [keyAll_len ka, mskL_len (by omega), st.len]
    refine ⟨nm, some ⟨B, 0, some 0⟩, n, n, by rw [h1], .inr ⟨h1, rfl, rfl, vs, ⟨Sl.ofAt hat (by rw [flat_len, hvl]) (Nat.le_refl _), hvl, fun t ht => (hvs t ht).ok⟩, ?_⟩⟩
    have hF : mrgF catF us' = mrgF catF ts' := by
      funext i l
      unfold mrgF
      rw [keys_getL q']
    rw [hF] at ka
    exact keyAll_keys (keys_msk q q') (fun i t u e => chKey_key _ i t u e) ka
theorem join_same {ts us : List Trc} (hl : ts.length = us.length) (hv : ∀ t ∈ ts, ∀ x ∈ t.l, smpE x = 0) (hv' : ∀ t ∈ us, ∀ x ∈ t.l, smpE x = 0) {vs ws : List Trc} (h1 : KeyAll vs (mskL ts us) (chKey (mrgF catF us))) (h2 : KeyAll ws (mskL ts us) (joinKeyR us)) : TrsS vs ws := by
  refine trs_of h1 h2 fun i q => ?_
  have a1 : i < ts.length := by rw [mskL_len hl] at q; exact q
  have a2 : i < us.length := by omega
  have v := hv _ (List.getElem_mem a1)
  have v' := hv' _ (List.getElem_mem a2)
  rw [mskL_get q a1 a2]
  have hg : getB us i = (us[i]).l := by unfold getB; rw [List.getElem?_eq_getElem a2]
  unfold chKey joinKeyR mrgF catF
  rw [getL_eq a2, hg]
  cases hh : (msk ts[i] us[i]).hole with
  | true => simp [fEqL]
  | false =>
    refine ⟨fun _ _ => rfl, rfl, by simp [msk], ?_⟩
    simp only [Bool.false_eq_true, if_false]
    rw [← List.map_append]
    exact feq_list fun x hx => by
      rcases List.mem_append.1 hx with hx | hx
      · exact v x hx
      · exact v' x hx
end Go.Proofs.YtdelgpbfdimefaaGreatDoor

/- The law of cuts: what the program and the reference make, held against one another. -/
namespace Go.Proofs.YtdelgpbfdimefaaGreatDoor
open Go Go.Ab Go.Fl
attribute [local irreducible] SeqQ BlkQ LpQ RetQ Wc Wo WD WX Op1 Op1q Op1a Cf Cl From
attribute [local irreducible] Ieee.Format.order Ieee.Format.read Ieee.Format.nearest Ieee.Format.write Ieee.Format.mul Ieee.Format.div Ieee.Datum.order Ieee.Datum.integral smpE smp smpW K J U trE hdrE lchk firstNZ isNameB wid mism shE offs shortB anyLarge spanE folE
set_option maxRecDepth 10000
variable {G : Base} {h : H}
/-- A block that holds no list's cells of the widths 1 and 10. -/
def Free (h : H) (B : Nat) : Prop := ∀ c e es s, h.get B = some (.cells c e es s) → es = 2
theorem Free.new {h h' : H} {k i : Nat} (w : Wf h) (g : Grow (h.bump k) h') (hi : i < k) : Free h' (h.nx + i) := fun c e es s q => by
  rw [g.get _ (by rw [H.nx_bump]; omega)] at q
  have : (h.bump k).get (h.nx + i) = none := w _ (by omega)
  rw [this] at q
  cases q
theorem Free.at {h : H} {B : Nat} {c : List Value} {e : TypeId} {s : Bool} (a : At h B (.cells c e 2 s)) : Free h B := fun c e es s q => by
  rw [a.get] at q
  cases q
  rfl
theorem Sl.setF {es n B : Nat} {w : Value} {L : List Value} (sl : Sl G h es w n L) (hf : Free h B) (hne : es ≠ 2) (o : AObj) : Sl G (h.set B o) es w n L := by
  cases sl with
  | nil => exact .nil
  | end' b o => exact .end' b o
  | mem a _ cc _ hl hc hnc ho =>
    have hb : a.spot = some 0 → a.block ≠ B := fun q e => by
      obtain ⟨c1, e1, s1, hg⟩ := ho q
      rw [e] at hg
      exact hne (hf _ _ _ _ hg)
    refine .mem a n cc L hl ⟨fun q => hc.lt q, fun i v q => ?_, hc.spot, fun q => ?_⟩ hnc fun q => ?_
    · have := hc.get i v q
      unfold acell at this ⊢
      rcases hc.spot with hs | hs
      · simp only [aadd, hs] at this ⊢; exact this
      · simp only [aadd, hs] at this ⊢
        rw [H.get_set, if_neg (hb hs)]; exact this
    · rw [H.get_set, if_neg (hb q)]; exact hc.own q
    · rw [H.get_set, if_neg (hb q)]; exact ho q
theorem SlT.setF {n B : Nat} {v : Value} {ts : List Trc} (s : SlT G h v n ts) (hf : Free h B) (o : AObj) : SlT G (h.set B o) v n ts := ⟨Sl.setF s.sl hf (by decide) o, s.len, fun t ht => ⟨Sl.setF (s.ok t ht).sl hf (by decide) o⟩⟩
theorem MadeR.setF {B : Nat} {C : Int} {nm : ByteArray} {n : Nat} {Z : List Trc → Prop} {nmR : ByteArray} {aR : Option Addr} {nR cR : Nat} (m : MadeR G h C nm n Z nmR aR nR cR) (hf : Free h B) (o : AObj) : MadeR G (h.set B o) C nm n Z nmR aR nR cR :=
  m.imp id fun ⟨e, e1, e2, vs, st, z⟩ => ⟨e, e1, e2, vs, st.setF hf o, z⟩
theorem c47m {C : Int} {nm : ByteArray} {n : Nat} {Z1 Z2 : List Trc → Prop} {nmR nmW : ByteArray} {aR aW : Option Addr} {nR cR nW cW : Nat} (mR : MadeR G h C nm n Z1 nmR aR nR cR) (mW : MadeR G h C nm n Z2 nmW aW nW cW)
    (hZ : C = 0 → ∀ vs us, Z1 vs → Z2 us → TrsS vs us ∧ ∀ t ∈ vs, t.n < 1000000) (hn : n ≤ 65) (hw : Wf h) : Cf (mz G) (.func (.func 47) #[] #[]) [.agg ⟨shC nmR aR nR cR⟩, .int .i64 C, .int .i64 C, .agg ⟨shC nmW aW nW cW⟩] h fun r h' => r = .bool true ∧ Grow h h' := by
  rcases mR with ⟨e, rfl, rfl, rfl, rfl⟩ | ⟨e, rfl, rfl, vs, st, z⟩
  · exact c47e e hw
  · rcases mW with ⟨e', _⟩ | ⟨_, rfl, rfl, us, st', z'⟩
    · exact absurd e e'
    · subst e
      obtain ⟨q, l⟩ := hZ rfl vs us z z'
      exact c47 st st' hn l q hw
theorem keyAll_n {vs ts : List Trc} {K : Nat → Trc → Key} (h : KeyAll vs ts K) (hb : ∀ i, ∀ t ∈ ts, (K i t).2.2.1 < 1000000) : ∀ t ∈ vs, t.n < 1000000 := by
  intro t ht
  obtain ⟨i, q, rfl⟩ := List.mem_iff_getElem.1 ht
  have q' : i < ts.length := by rw [← h.1]; exact q
  have e := h.2 i q q'
  have := hb i _ (List.getElem_mem q')
  rw [← e] at this
  exact this
theorem wid_le {ts : List Trc} (z : ∀ t ∈ ts, t.n ≤ 1024) : wid ts ≤ 1024 := by
  induction ts with
  | nil => unfold wid; omega
  | cons t us ih =>
    unfold wid
    split
    · exact ih (fun t ht => z t (List.mem_cons_of_mem _ ht))
    · exact z t List.mem_cons_self
theorem cutC_zero {nm : ByteArray} {ts : List Trc} {x y : Int} (h : cutC nm ts x y = 0) : shE nm ts = 0 ∧ spanE x y (wid ts : Nat) = 0 := by
  unfold cutC at h
  by_cases h1 : shE nm ts ≠ 0
  · rw [if_pos h1] at h; exact absurd h h1
  rw [if_neg h1] at h
  by_cases h2 : spanE x y (wid ts : Nat) ≠ 0
  · rw [if_pos h2] at h; exact absurd h (by decide)
  exact ⟨by simpa using h1, by simpa using h2⟩
theorem cutC_E {nm : ByteArray} {ts : List Trc} {x y : Int} (h : shE nm ts ≠ 0) : cutC nm ts x y = shE nm ts := by unfold cutC; rw [if_pos h]
theorem cutC_S {nm : ByteArray} {ts : List Trc} {x y : Int} (h : shE nm ts = 0) (h2 : spanE x y (wid ts : Nat) ≠ 0) : cutC nm ts x y = spanE x y (wid ts : Nat) := by unfold cutC; rw [if_neg (by simp [h]), if_pos h2, span_bad h2]
theorem cutC_L {nm : ByteArray} {ts : List Trc} {x y : Int} (h : shE nm ts = 0) (h2 : spanE x y (wid ts : Nat) = 0) : cutC nm ts x y = if lateB x ts then 4 else 0 := by unfold cutC; rw [if_neg (by simp [h]), if_neg (by simp [h2])]
theorem cut_z {nm : ByteArray} {v : Value} {n : Nat} {ts : List Trc} {x y : Int} (s : SlT G h v n ts) (hC : cutC nm ts x y = 0) (vs us : List Trc) (z1 : ∀ lo hi : Nat, x = lo → y = hi → KeyAll vs ts (cutKey lo hi)) (z2 : ∀ lo hi : Nat, x = lo → y = hi → KeyAll us ts (cutKeyR lo hi)) : TrsS vs us ∧ ∀ t ∈ vs, t.n < 1000000 := by
  obtain ⟨hE, hS⟩ := cutC_zero hC
  obtain ⟨p1, p2, p3⟩ := span_ok hS
  obtain ⟨lo, rfl⟩ := Int.eq_ofNat_of_zero_le p1
  obtain ⟨hi, rfl⟩ := Int.eq_ofNat_of_zero_le (show 0 ≤ y by omega)
  obtain ⟨v1, v2, v3, v4, v5⟩ := valid_facts s hE
  have k5 := (shE_ok hE).2.2.2.2
  have k1 := z1 lo hi rfl rfl
  refine ⟨cut_same v4 (fun t ht hh => by rw [v2 t ht, k5 t ht hh]; omega) (by omega) k1 (z2 lo hi rfl rfl), keyAll_n k1 fun i t ht => ?_⟩
  have a1 := v2 t ht
  have a2 := v3 t ht
  unfold cutKey chKey
  split
  · simp
  · simp [cutF]; omega
theorem join_z {nm nm' : ByteArray} {v v' : Value} {n m : Nat} {ts ts' : List Trc} (s : SlT G h v n ts) (s' : SlT G h v' m ts') (hC : joinC nm ts nm' ts' = 0) (vs us : List Trc) (z1 : KeyAll vs (mskL ts ts') (chKey (mrgF catF ts'))) (z2 : KeyAll us (mskL ts ts') (joinKeyR ts')) : TrsS vs us ∧ ∀ t ∈ vs, t.n < 1000000 := by
  obtain ⟨hE, hE', hF⟩ := first3_zero hC
  obtain ⟨v1, v2, v3, v4, v5⟩ := valid_facts s hE
  obtain ⟨v1', v2', v3', v4', v5'⟩ := valid_facts s' hE'
  have hl := (folE_ok hF).1
  refine ⟨join_same hl v4 v4' z1 z2, keyAll_n z1 fun i t ht => ?_⟩
  obtain ⟨j, q, rfl⟩ := List.mem_iff_getElem.1 ht
  have a1 : j < ts.length := by rw [mskL_len hl] at q; exact q
  have a2 : j < ts'.length := by omega
  rw [mskL_get q a1 a2]
  have b1 := v2 _ (List.getElem_mem a1)
  have b2 := v3 _ (List.getElem_mem a1)
  unfold chKey
  split
  · simp
  · have : (getL ts' i).length ≤ 1024 := by
      by_cases hi : i < ts'.length
      · rw [getL_eq hi, List.length_map]
        have c1 := v2' _ (List.getElem_mem hi)
        have c2 := v3' _ (List.getElem_mem hi)
        omega
      · unfold getL; rw [List.getElem?_eq_none (by omega)]; simp
    simp [mrgF, catF, msk]; omega
theorem c45m {nm : ByteArray} {a : Option Addr} {n c : Nat} {ts : List Trc} {x y : Int} (s : SlT G h (.slice a n c) n ts) (hE : shE nm ts = 0) (hS : spanE x y (wid ts : Nat) = 0) (hw : Wf h) :
    Cf (mz G) (.func (.func 45) #[] #[]) [.agg ⟨shC nm a n c⟩, .agg ⟨[.int .i64 x, .int .i64 y]⟩] h fun r h' => (∃ nmW aW nW cW, r = .tuple #[.agg ⟨shC nmW aW nW cW⟩, .int .i64 (cutC nm ts x y)] ∧ MadeR G h' (cutC nm ts x y) nm n (fun us => ∀ lo hi : Nat, x = lo → y = hi → KeyAll us ts (cutKeyR lo hi)) nmW aW nW cW) ∧ Grow h h' := by
  obtain ⟨p1, p2, p3⟩ := span_ok hS
  rw [cutC_L hE hS]
  obtain ⟨lo, rfl⟩ := Int.eq_ofNat_of_zero_le p1
  obtain ⟨hi, rfl⟩ := Int.eq_ofNat_of_zero_le (show 0 ≤ y by omega)
  have hW := wid_le (valid_facts s hE).2.2.1
  refine (c45 s hE (by omega) (by omega) hW hw).mono fun r h' ⟨p, g⟩ => ⟨?_, g⟩
  rcases p with ⟨h1, rfl⟩ | ⟨h1, B, us, rfl, _, hat, hok, ka⟩
  · rw [if_pos h1]
    exact ⟨.empty, none, 0, 0, rfl, .inl ⟨by decide, rfl, rfl, rfl, rfl⟩⟩
  · rw [h1]
    refine ⟨nm, some ⟨B, 0, some 0⟩, n, n, rfl, .inr ⟨rfl, rfl, rfl, us, ⟨Sl.ofAt hat (by rw [flat_len, keyAll_len ka, s.len]) (Nat.le_refl _), by rw [keyAll_len ka, s.len], hok⟩, fun lo' hi' f1 f2 => ?_⟩⟩
    have z1 : lo' = lo := by omega
    have z2 : hi' = hi := by omega
    subst z1 z2
    exact ka
theorem c46m {nm nm' : ByteArray} {a a' : Option Addr} {n m c c' : Nat} {ts us : List Trc} (s : SlT G h (.slice a n c) n ts) (s' : SlT G h (.slice a' m c') m us) (hE : shE nm ts = 0) (hE' : shE nm' us = 0) (hw : Wf h) :
    Cf (mz G) (.func (.func 46) #[] #[]) [.agg ⟨shC nm a n c⟩, .agg ⟨shC nm' a' m c'⟩] h fun r h' => (∃ nmW aW nW cW, r = .tuple #[.agg ⟨shC nmW aW nW cW⟩, .int .i64 (joinC nm ts nm' us)] ∧ MadeR G h' (joinC nm ts nm' us) nm n (fun ws => KeyAll ws (mskL ts us) (joinKeyR us)) nmW aW nW cW) ∧ Grow h h' := by
  have hJ : joinC nm ts nm' us = folE ts us := by unfold joinC; rw [first3, if_neg (by simp [hE]), if_neg (by simp [hE'])]
  rw [hJ]
  refine (c46 (nm := nm) (nm' := nm') s s' hE hE' hw).mono fun r h' ⟨p, g⟩ => ⟨?_, g⟩
  rcases p with ⟨h1, rfl⟩ | ⟨h1, B, vs, rfl, _, hat, hok, ka⟩
  · exact ⟨.empty, none, 0, 0, rfl, .inl ⟨h1, rfl, rfl, rfl, rfl⟩⟩
  · have hlt := (folE_ok h1).1
    have hvl : vs.length = n := by rw [keyAll_len ka, mskL_len hlt, s.len]
    exact ⟨nm, some ⟨B, 0, some 0⟩, n, n, by rw [h1], .inr ⟨h1, rfl, rfl, vs, ⟨Sl.ofAt hat (by rw [flat_len, hvl]) (Nat.le_refl _), hvl, hok⟩, ka⟩⟩
end Go.Proofs.YtdelgpbfdimefaaGreatDoor
