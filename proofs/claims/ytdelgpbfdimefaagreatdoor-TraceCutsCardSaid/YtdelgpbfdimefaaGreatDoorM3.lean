/- Two shots merged, what follows a shot, shots joined by the program. -/
import Derived.Test.YtdelgpbfdimefaaGreatDoorM2
set_option linter.all false
/- Two shots merged by the program. -/
namespace Go.Proofs.YtdelgpbfdimefaaGreatDoor
open Go Go.Ab Go.Fl
attribute [local irreducible] SeqQ BlkQ LpQ RetQ Wc Wo WD WX Op1 Op1q Op1a Cf Cl From
attribute [local irreducible] Ieee.Format.order Ieee.Format.read Ieee.Format.nearest Ieee.Format.write Ieee.Format.mul Ieee.Format.div Ieee.Datum.order Ieee.Datum.integral smpE smp smpW K J U trE hdrE lchk firstNZ isNameB wid mism shE offs shortB anyLarge spanE
set_option maxRecDepth 10000
variable {G : Base} {h : H}

theorem copy52 {h0 : H} {v : Value} {n : Nat} {ts : List Trc} (s : SlT G h0 v n ts) (hn : n < 1000000) (g : H) (B : Nat) (hat : At g B (.cells [] 58 10 false)) (hg : Grow h0 g) :
    ∃ r h2, aappend (mz G).P (mz G).G g 52 52 (.slice (some ⟨B, 0, some 0⟩) 0 0) v = some (r, h2) ∧ ((∃ b sf, r = .slice (some ⟨b, 0, some 0⟩) n n ∧ B ≤ b ∧ At h2 b (.cells (ts.flatMap Trc.cells) 58 10 sf)) ∧ Grow g h2) := by
  obtain ⟨r, h2, e, q, g2, _⟩ := append_copy2 (M := mz G) (st := 52) (xt := 52) (h := g) Tryz.underlying52 Tryz.underlying52 rfl zs58 zb58 zz58 rfl hat (s.sl.grow hg) (flat_one ts) (by omega)
  exact ⟨r, h2, e, q, g2⟩
theorem sl_has {es n : Nat} {v : Value} {l : List Value} {a : Option Addr} {c : Nat} (s : Sl G h es v n l) (hv : v = .slice a n c) (hn : 0 < n) : ∃ ad, a = some ad := by
  cases s with
  | nil => omega
  | end' => omega
  | mem ad => cases hv; exact ⟨_, rfl⟩
set_option maxHeartbeats 4000000 in
theorem c160 {a : Option Addr} {n c : Nat} {ts : List Trc} (s : SlT G h (.slice a n c) n ts) (hn : n < 1000000) (hn0 : 0 < n) (hw : Wf h) : Cf (mz G) (.func (.func 160) #[] #[]) [.slice a n c] h fun r h' => (∃ b sf, r = .slice (some ⟨b, 0, some 0⟩) n n ∧ h.nx ≤ b ∧ At h' b (.cells (ts.flatMap Trc.cells) 58 10 sf)) ∧ Grow h h' := by
  have qap := copy52 s hn
  obtain ⟨ad, rfl⟩ := sl_has s.sl rfl hn0
  refine cf_enter0 8 [.tmp 2] Tryz.func160 rfl rfl rfl rfl ?_
  repeat' (first | with_reducible refine wo_nil ?_ | ((with_reducible refine wo_any ?_); first | ((with_reducible refine ik_move ?_); refine wo_op rfl (op_move rfl) rfl rfl ?_) | ((with_reducible refine ik_assign ?_); refine wo_op rfl (op_assign rfl) rfl rfl ?_) | ((with_reducible refine ik_bin ?_); refine wo_op rfl (op_aeq (r := false) rfl rfl rfl (by show aeq Tryz.prog 52 _ _ = _; simp only [aeq, Tryz.underlying52])) rfl rfl ?_) | ((with_reducible refine ik_buildSlice ?_); refine wo_op rfl (op_buildSl rfl Tryz.underlying52 zs58 zz58 rfl rfl) rfl rfl ?_)) | with_reducible refine sq_norm ?_ | with_reducible refine wc_seq ?_ | with_reducible refine wc_region ?_ | with_reducible refine wc_skip ?_ | with_reducible refine wc_ret ?_ | refine wc_iff rfl ?_ | ((with_reducible refine wo_any ?_); (with_reducible refine ik_callb ?_); refine wo_opx rfl (opx_app rfl rfl (qap _ _ at_A gr_A)) rfl rfl ?_; rintro _ _ ⟨⟨b1, sf1, rfl, hb1, hatS⟩, hq⟩; have hqn := hq.nx; (try simp only [H.nx_push, H.nx_set, H.nx_bump] at hqn hb1)))
  all_goals exact rq1 rfl ⟨⟨_, _, rfl, by omega, hatS⟩, gr_A⟩

/-- What a function that merges is asked to do. -/
def InOk (G : Base) (h : H) (fv : Value) (P : List Int → List Int → Prop) (f : List Int → List Int → List Int) : Prop :=
  ∀ l y, P l y → ((f l y).length < 1000000 ∧ ∀ x ∈ f l y, x.natAbs ≤ 1000000000000) ∧
    ∀ (g0 g : H) (b : Nat), Grow h g0 → Wf g0 → Grow g0 g → At g g0.nx (.cells (l.map (.int .i64)) 3 1 false) → At g b (.cells (y.map (.int .i64)) 3 1 false) → b ≠ g0.nx →
    Cf (mz G) fv [.slice (some ⟨g0.nx, 0, some 0⟩) l.length l.length, .slice (some ⟨b, 0, some 0⟩) y.length y.length] g fun r g' => (∃ a c, r = .slice a (f l y).length c ∧ Sl G g' 1 (.slice a (f l y).length c) (f l y).length ((f l y).map (.int .i64))) ∧ Grow g0 g'
def getL (us : List Trc) (k : Nat) : List Int := match us[k]? with | some u => u.l.map smp | none => []
theorem getL_eq {us : List Trc} {k : Nat} (hk : k < us.length) : getL us k = (us[k]).l.map smp := by unfold getL; rw [List.getElem?_eq_getElem hk]
def mrgF (f : List Int → List Int → List Int) (us : List Trc) (k : Nat) (l : List Int) : List Int := f l (getL us k)
set_option maxHeartbeats 4000000 in
theorem merged_clos {nm : ByteArray} {a : Option Addr} {n c : Nat} {us ms : List Trc} {fI B4 B5 : Nat} {P : List Int → List Int → Prop} {f : List Int → List Int → List Int} (s : SlT G h (.slice a n c) n us) (hn : n < 1000000) (hl : ∀ t ∈ us, t.n < 1000000) (hm : ms.length ≤ n) (hmn : ∀ t ∈ ms, t.l.length = t.n)
    (hv : ∀ k (q : k < ms.length) (q' : k < us.length), (ms[k]).hole = false → (∀ x ∈ (us[k]).l, smpE x = 0) ∧ P ((ms[k]).l.map smp) ((us[k]).l.map smp)) (hI : InOk G h (.func (.func fI) #[] #[]) P f)
    (a5 : At h B5 (.cells [.func (.func fI) #[] #[]] 176 1 false)) (a4 : At h B4 (.cells (shC nm a n c) 54 2 false)) :
    ClosOk G h (.func (.func 161) #[] #[.pointer (some ⟨B5, 0, some 0⟩), .pointer (some ⟨B4, 0, some 0⟩)]) ms (mrgF f us) := by
  intro k q hh
  have hlen := s.len
  have hku : k < us.length := by omega
  obtain ⟨hx, hP⟩ := hv k q hku hh
  obtain ⟨hb, hc⟩ := hI _ _ hP
  unfold mrgF
  rw [getL_eq hku]
  refine ⟨hb, fun g0 g g1 w0 g2 at2 => ?_⟩
  have hm1 := hmn _ (List.getElem_mem q)
  have hu1 := s.ok _ (List.getElem_mem hku)
  have hu2 := hl _ (List.getElem_mem hku)
  obtain ⟨ad, f1, f3⟩ := slT_at (s.grow (g1.trans g2)) Tryz.underlying52 zs58 (i := (k : Int)) (by omega) rfl
  have q134 := fun (h2 : H) (g : Grow h h2) (w : Wf h2) => c134o (hu1.sl.grow g) hu2 hx w
  have hul : (us[k]).l.length = (us[k]).n := by simpa using hu1.sl.length
  have w := g2.wf w0
  have a5 := a5.grow (g1.trans g2)
  have a4 := a4.grow (g1.trans g2)
  have gg := g1.trans g2
  obtain ⟨u, hu⟩ : ∃ u, us[k] = u := ⟨_, rfl⟩
  obtain ⟨t, ht⟩ : ∃ t, ms[k] = t := ⟨_, rfl⟩
  rw [hu] at f3 q134 hul hc ⊢
  rw [ht] at hm1 at2 hc ⊢
  clear hu ht hu1 hx hP hb hv
  obtain ⟨hd, hole, sa, tn, tc, tl⟩ := u
  obtain ⟨L, hL⟩ : ∃ L, t.l.map smp = L := ⟨_, rfl⟩
  have hLn : L.length = t.n := by rw [← hL]; simpa using hm1
  rw [hL] at at2 hc ⊢
  obtain ⟨Y, hY⟩ : ∃ Y, tl.map smp = Y := ⟨_, rfl⟩
  have hYn : Y.length = tn := by rw [← hY]; simpa using hul
  rw [← hLn]
  simp only [hY] at q134 hc ⊢
  rw [← hYn] at q134
  dsimp only [Trc.cells] at f3
  have f9 := f3.get 9 _ rfl
  rw [← hYn] at f9
  refine cf_enter (sz := 17) (rs := [.tmp 6]) (all := [.int .i64 k, .slice (some ⟨g0.nx, 0, some 0⟩) L.length L.length, .pointer (some ⟨B5, 0, some 0⟩), .pointer (some ⟨B4, 0, some 0⟩)]) Tryz.func161 rfl rfl rfl rfl rfl ?_
  repeat' (first | with_reducible refine wo_nil ?_ | ((with_reducible refine wo_any ?_); ((with_reducible refine ik_assign ?_); refine wo_op rfl (op_assign rfl) rfl rfl ?_)) | ((with_reducible refine xk_any ?_); ((with_reducible refine xk_as0 ?_); first | ((with_reducible refine xk_move ?_); refine wx_q (wt_none rfl) rfl rfl (op_q rfl (op_move rfl)) rfl rfl rfl ?_) | ((with_reducible refine xk_assign ?_); refine wx_q (wt_none rfl) rfl rfl (op_q rfl (op_assign rfl)) rfl rfl rfl ?_) | ((with_reducible refine xk_indexAddr ?_); refine wx_q (wt_none rfl) rfl rfl (op_q rfl (op_indexAddr rfl rfl f1)) rfl rfl rfl ?_) | ((with_reducible refine xk_load ?_); first | refine wx_h0 (wt_none rfl) rfl (op_q rfl (op_ldCell rfl Tryz.underlying45 rfl f9)) rfl rfl rfl ?_ | refine wx_h0 (wt_none rfl) rfl (op_q rfl (op_ldAt rfl at_A Tryz.underlying176 rfl rfl)) rfl rfl rfl ?_ | refine wx_h0 (wt_none rfl) rfl (op_q rfl (op_ldAt rfl at_A Tryz.underlying52 rfl rfl)) rfl rfl rfl ?_) | ((with_reducible refine xk_fieldAddr ?_); first | refine wx_q (wt_none rfl) rfl rfl (op_q rfl (op_fieldAddr (o := 1) rfl Tryz.underlying54 rfl zs52 rfl)) rfl rfl rfl ?_ | refine wx_q (wt_none rfl) rfl rfl (op_q rfl (op_fieldAddr (o := 9) rfl Tryz.underlying58 rfl zs45 rfl)) rfl rfl rfl ?_) | ((with_reducible refine xk_callv ?_); first | (refine wx_call0 (wt_none rfl) rfl rfl rfl rfl (q134 _ gr_A wf_A) rfl rfl ?_; rintro _ _ ⟨⟨rfl, hatI⟩, hq⟩; all_goals ((try (have hqn := hq.nx)); (try simp only [H.nx_push, H.nx_set, H.nx_bump] at hqn))) | (refine wx_call0 (wt_none rfl) rfl rfl rfl rfl (hc _ _ _ g1 w0 gr_A at_A hatI (by have := at2.lt; (try simp only [H.nx_bump]); omega)) rfl rfl ?_; rintro _ _ ⟨⟨fa, fc, rfl, hfs⟩, hq⟩; all_goals ((try (have hqn := hq.nx)); (try simp only [H.nx_push, H.nx_set, H.nx_bump] at hqn)))) | with_reducible refine wx_nil0 ?_ ?_)) | with_reducible exact obl_nil | with_reducible refine obl_cons ?_ ?_ | ((with_reducible refine ik_obs ?_); first | exact obs_nil | refine obs_skip rfl ?_ | refine obs_chkn rfl rfl (op_q rfl (op_ldCell rfl Tryz.underlying45 rfl f9)) ?_ | refine obs_chkn rfl rfl (op_q rfl (op_ldAt rfl at_A Tryz.underlying176 rfl (by rfl))) ?_ | refine obs_chkn rfl rfl (op_q rfl (op_ldAt rfl at_A Tryz.underlying52 rfl (by rfl))) ?_) | with_reducible refine sq_norm ?_ | with_reducible refine wc_seq ?_ | with_reducible refine wc_region ?_ | with_reducible refine wc_ret ?_ | refine wc_drawB (id := 1) 11 [0, 0, 0, 4, 0, 28, 60, 124, 252, 511, 1023] [0, 1, 2, 3, 4, 5, 6, 7, 8, 9, 10] (by kernel_rfl) (by kernel_rfl) rfl rfl ?_)
  all_goals exact rq1 rfl ⟨⟨_, _, rfl, hfs⟩, hq⟩
def msk (t u : Trc) : Trc := ⟨t.hd, t.hole || u.hole, t.sa, t.n, t.c, t.l⟩
def mskL (ts us : List Trc) : List Trc := List.zipWith msk ts us
theorem mskL_len {ts us : List Trc} (h : ts.length = us.length) : (mskL ts us).length = ts.length := by unfold mskL; simp [h]
theorem mskL_get {ts us : List Trc} {k : Nat} (hk : k < (mskL ts us).length) (h1 : k < ts.length) (h2 : k < us.length) : (mskL ts us)[k] = msk ts[k] us[k] := List.getElem_zipWith ..
theorem mskL_of {ts us vs : List Trc} (h : ts.length = us.length) (hl : vs.length = ts.length) (hv : ∀ i (q : i < vs.length) (q1 : i < ts.length) (q2 : i < us.length), vs[i] = msk ts[i] us[i]) : vs = mskL ts us :=
  List.ext_getElem (by rw [mskL_len h, hl]) fun i q1 q2 => by rw [mskL_get q2 (by omega) (by omega)]; exact hv i q1 (by omega) (by omega)
set_option maxHeartbeats 4000000 in
theorem c113 {nm nm' : ByteArray} {a a' : Option Addr} {n c c' : Nat} {ts us : List Trc} {fI : Nat} {P : List Int → List Int → Prop} {f : List Int → List Int → List Int} (s : SlT G h (.slice a n c) n ts) (s' : SlT G h (.slice a' n c') n us) (hn : n ≤ 65) (hn0 : 0 < n) (hl : ∀ t ∈ ts, t.n < 1000000) (hl' : ∀ t ∈ us, t.n < 1000000)
    (hv : ∀ t ∈ ts, ∀ x ∈ t.l, smpE x = 0) (hv' : ∀ t ∈ us, ∀ x ∈ t.l, smpE x = 0) (hP : ∀ k (q : k < ts.length) (q' : k < us.length), (ts[k]).hole = false → (us[k]).hole = false → P ((ts[k]).l.map smp) ((us[k]).l.map smp)) (hI : ∀ h, InOk G h (.func (.func fI) #[] #[]) P f) (hw : Wf h) :
    Cf (mz G) (.func (.func 113) #[] #[]) [.agg ⟨shC nm a n c⟩, .agg ⟨shC nm' a' n c'⟩, .func (.func fI) #[] #[]] h fun r h' => ((r = .tuple #[.agg ⟨zShot⟩, .int .i64 4] ∧ ChBad (mrgF f us) (mskL ts us)) ∨ (¬ ChBad (mrgF f us) (mskL ts us) ∧ ∃ (B : Nat) (vs : List Trc), r = .tuple #[.agg ⟨shC nm (some ⟨B, 0, some 0⟩) n n⟩, .int .i64 0] ∧ h.nx ≤ B ∧ At h' B (.cells (vs.flatMap Trc.cells) 58 10 false) ∧ (∀ u ∈ vs, TrN h' h.nx u) ∧ KeyAll vs (mskL ts us) (chKey (mrgF f us)))) ∧ Grow h h' := by
  have hlen := s.len
  have hlen' := s'.len
  have q160 := fun (h2 : H) (g : Grow h h2) (w : Wf h2) => c160 (s.grow g) (by omega) hn0 w
  refine cf_enter0 38 [.cell 6 54, .tmp 7] Tryz.func113 rfl rfl rfl rfl ?_
  refine wc_mid (ι := Unit) (fun _ => [(3, .pointer (some ⟨h.nx, 0, some 0⟩)), (4, .pointer (some ⟨h.nx + 1, 0, some 0⟩)), (5, .pointer (some ⟨h.nx + 2, 0, some 0⟩)), (6, .pointer (some ⟨h.nx + 3, 0, some 0⟩)), (7, .int .i64 0)]) (fun _ h1 => (Wf h1 ∧ Grow h h1 ∧ h.nx + 4 ≤ h1.nx ∧ At h1 h.nx (.cells (shC nm a n c) 54 2 false) ∧ At h1 (h.nx + 1) (.cells (shC nm' a' n c') 54 2 false) ∧ At h1 (h.nx + 2) (.cells [.func (.func fI) #[] #[]] 176 1 false) ∧ At h1 (h.nx + 3) (.cells zShot 54 2 false))) ?_ ?_
  · repeat' (first | with_reducible refine wo_nil ?_ | ((with_reducible refine wo_any ?_); first | ((with_reducible refine ik_assign ?_); refine wo_op rfl (op_assign rfl) rfl rfl ?_) | ((with_reducible refine ik_box ?_); first | refine wo_op rfl (op_boxAgg rfl zs54 rfl) rfl rfl ?_ | refine wo_op rfl (op_box1 rfl rfl zs176) rfl rfl ?_) | ((with_reducible refine ik_alloc ?_); refine wo_op rfl (op_alloc zz54 zs54 rfl rfl rfl) rfl rfl ?_)) | with_reducible refine wc_region ?_)
    exact ⟨rfl, (), within_lk ⟨rfl, rfl, rfl, rfl, rfl, trivial⟩, wf_A, gr_A, (by simp only [H.nx_push]; omega), at_A, at_A, at_A, at_A⟩
  rintro _ h1 ⟨w1, g1, n1, a0, a1, a2, a3⟩
  refine wc_mid (ι := Nat × Nat × Bool) (fun i => [(3, .pointer (some ⟨h.nx, 0, some 0⟩)), (4, .pointer (some ⟨h.nx + 1, 0, some 0⟩)), (5, .pointer (some ⟨h.nx + 2, 0, some 0⟩)), (6, .pointer (some ⟨h.nx + 3, 0, some 0⟩)), (7, .int .i64 0), (8, .pointer (some ⟨i.1, 0, some 0⟩))]) (fun i h1 => (Wf h1 ∧ Grow h h1 ∧ h.nx + 4 ≤ i.1 ∧ i.1 < i.2.1 ∧ i.2.1 < h1.nx ∧ At h1 h.nx (.cells (shC nm a n c) 54 2 false) ∧ At h1 (h.nx + 1) (.cells (shC nm' a' n c') 54 2 false) ∧ At h1 (h.nx + 2) (.cells [.func (.func fI) #[] #[]] 176 1 false) ∧ At h1 (h.nx + 3) (.cells zShot 54 2 false) ∧ At h1 i.1 (.cells (shC nm (some ⟨i.2.1, 0, some 0⟩) n n) 54 2 false)) ∧ At h1 i.2.1 (.cells (ts.flatMap Trc.cells) 58 10 i.2.2)) ?_ ?_
  · repeat' (first | ((with_reducible refine xk_any ?_); first | ((with_reducible refine xk_as0 ?_); first | ((with_reducible refine xk_alloc ?_); refine wx_a0 (wt_none rfl) rfl (oa_alloc zz54 zs54 rfl rfl rfl) rfl rfl ?_) | ((with_reducible refine xk_fieldAddr ?_); first | refine wx_q (wt_none rfl) rfl rfl (op_q rfl (op_fieldAddr (o := 0) rfl Tryz.underlying54 rfl zs9 rfl)) rfl rfl rfl ?_ | refine wx_q (wt_none rfl) rfl rfl (op_q rfl (op_fieldAddr (o := 1) rfl Tryz.underlying54 rfl zs52 rfl)) rfl rfl rfl ?_) | ((with_reducible refine xk_load ?_); first | refine wx_h0 (wt_none rfl) rfl (op_q rfl (op_ldAt rfl at_A Tryz.underlying9 rfl rfl)) rfl rfl rfl ?_ | refine wx_h0 (wt_none rfl) rfl (op_q rfl (op_ldAt rfl at_A Tryz.underlying52 rfl rfl)) rfl rfl rfl ?_) | ((with_reducible refine xk_build ?_); refine wx_q (wt_none rfl) rfl rfl (op_q rfl (op_buildT rfl zz54 zp54 rfl rfl)) rfl rfl rfl ?_) | ((with_reducible refine xk_callv ?_); (refine wx_call0 (wt_none rfl) rfl rfl rfl rfl (q160 _ gr_A wf_A) rfl rfl ?_; rintro _ _ ⟨⟨B, sf, rfl, hB, hatB⟩, hq⟩; all_goals ((try (have hqn := hq.nx)); (try simp only [H.nx_push, H.nx_set, H.nx_bump] at hqn))))) | ((with_reducible refine xk_store ?_); ((with_reducible refine xk_as1 ?_); refine wx_e01 (wt_none rfl) rfl rfl rfl (op_stAgg rfl rfl at_A zs54 rfl rfl rfl rfl) rfl ?_)) | refine wx_niln ?_ ?_ rfl rfl ?_) | with_reducible exact obl_nil | with_reducible refine obl_cons ?_ ?_ | ((with_reducible refine ik_obs ?_); first | exact obs_nil | refine obs_skip rfl ?_ | refine obs_chkn rfl rfl (op_q rfl (op_ldAt rfl at_A Tryz.underlying9 rfl (by rfl))) ?_ | refine obs_chkn rfl rfl (op_q rfl (op_ldAt rfl at_A Tryz.underlying52 rfl (by rfl))) ?_) | with_reducible exact stk_nil | with_reducible refine stk_cons ?_ ?_ | ((with_reducible refine ik_stk ?_); first | exact stk_abs rfl rfl | exact stk_freeB rfl rfl wf_A gr_B) | refine wc_drawB (id := 1) 8 [0, 1, 0, 4, 12, 31, 0, 127] [0, 1, 2, 3, 4, 5, 6, 7] (by kernel_rfl) (by kernel_rfl) rfl rfl ?_)
    have hBn := hatB.lt
    simp only [H.nx_bump] at hB
    exact ⟨rfl, (_, B, sf), within_lk ⟨rfl, rfl, rfl, rfl, rfl, rfl, trivial⟩, ⟨wf_A, gr_A, (by simp only; omega), (by simp only; omega), (by simp only [H.nx_set]; omega), at_A, at_A, at_A, at_A, at_A⟩, at_A⟩
  clear w1 g1 n1 a0 a1 a2 a3 h1 q160
  rintro ⟨b8, B, sf⟩ h1 ⟨⟨w1, g1, n1, n2, n3, a0, a1, a2, a3, a8⟩, aB⟩
  simp only at n1 n2 n3 a8 aB ⊢
  repeat' (first | with_reducible refine wo_nil ?_ | ((with_reducible refine wo_any ?_); first | ((with_reducible refine ik_move ?_); refine wo_op rfl (op_move rfl) rfl rfl ?_) | ((with_reducible refine ik_fieldAddr ?_); refine wo_op rfl (op_fieldAddr (o := 1) rfl Tryz.underlying54 rfl zs52 rfl) rfl rfl ?_) | ((with_reducible refine ik_load ?_); refine wo_op rfl (op_ldAt rfl at_A Tryz.underlying52 rfl rfl) rfl rfl ?_) | ((with_reducible refine ik_callb ?_); refine wo_op rfl (op_lenSl rfl Tryz.underlying52) rfl rfl ?_)) | with_reducible refine sq_norm ?_ | with_reducible refine wc_seq ?_ | with_reducible refine wc_region ?_ | with_reducible refine wc_block ?_)
  refine wc_loop (fun k => n - k) (fun k : Nat => [(3, .pointer (some ⟨h.nx, 0, some 0⟩)), (4, .pointer (some ⟨h.nx + 1, 0, some 0⟩)), (5, .pointer (some ⟨h.nx + 2, 0, some 0⟩)), (6, .pointer (some ⟨h.nx + 3, 0, some 0⟩)), (7, .int .i64 0), (8, .pointer (some ⟨b8, 0, some 0⟩)), (18, .slice a' n c'), (19, .int .i64 n), (20, .int .i64 k)])
    (fun k h1 => (Wf h1 ∧ Grow h h1 ∧ B < h1.nx ∧ At h1 h.nx (.cells (shC nm a n c) 54 2 false) ∧ At h1 (h.nx + 1) (.cells (shC nm' a' n c') 54 2 false) ∧ At h1 (h.nx + 2) (.cells [.func (.func fI) #[] #[]] 176 1 false) ∧ At h1 (h.nx + 3) (.cells zShot 54 2 false) ∧ At h1 b8 (.cells (shC nm (some ⟨B, 0, some 0⟩) n n) 54 2 false)) ∧ k ≤ n ∧ ∃ vs : List Trc, At h1 B (.cells (vs.flatMap Trc.cells) 58 10 sf) ∧ vs.length = n ∧ ∀ i (q : i < vs.length) (q1 : i < ts.length) (q2 : i < us.length), vs[i] = if i < k then msk ts[i] us[i] else ts[i]) 0 (within_lk ⟨rfl, rfl, rfl, rfl, rfl, rfl, rfl, rfl, rfl, trivial⟩) ⟨⟨w1, g1, n3, a0, a1, a2, a3, a8⟩, Nat.zero_le _, ts, aB, hlen, fun i q q1 q2 => by rw [if_neg (by omega)]⟩ ?_
  clear w1 g1 n3 a0 a1 a2 a3 a8 aB h1
  rintro k h1 ⟨⟨w1, g1, n3, a0, a1, a2, a3, a8⟩, hk, vs, aB, hvl, hvs⟩
  by_cases hlt : k < n
  · obtain ⟨ad, f1, f3⟩ := slT_at (s'.grow g1) Tryz.underlying52 zs58 (i := (k : Int)) hlt rfl
    have hkv : k < vs.length := by omega
    have hvk := hvs k hkv (by omega) (by omega)
    rw [if_neg (by omega)] at hvk
    have hcl : (vs.flatMap Trc.cells).length = n * 10 := by rw [flat_len, hvl]
    have hs8 := flat_set (v := .bool true) (j := 8) (by omega) vs k hkv ⟨(vs[k]).hd, true, (vs[k]).sa, (vs[k]).n, (vs[k]).c, (vs[k]).l⟩ rfl
    have hnext : (us[k]'(by omega)).hole = true → ∀ i (q : i < (vs.set k ⟨(vs[k]).hd, true, (vs[k]).sa, (vs[k]).n, (vs[k]).c, (vs[k]).l⟩).length) (q1 : i < ts.length) (q2 : i < us.length), (vs.set k ⟨(vs[k]).hd, true, (vs[k]).sa, (vs[k]).n, (vs[k]).c, (vs[k]).l⟩)[i] = if i < k + 1 then msk ts[i] us[i] else ts[i] := fun hh i q q1 q2 => by
      rw [List.getElem_set]
      split
      · rename_i e; subst e
        rw [if_pos (by omega), hvk]; unfold msk; rw [hh, Bool.or_true]
      · rename_i e
        rw [hvs i (by rw [List.length_set] at q; exact q) q1 q2]
        by_cases h1 : i < k
        · rw [if_pos h1, if_pos (by omega)]
        · rw [if_neg h1, if_neg (by omega)]
    have hsame : (us[k]'(by omega)).hole = false → ∀ i (q : i < vs.length) (q1 : i < ts.length) (q2 : i < us.length), vs[i] = if i < k + 1 then msk ts[i] us[i] else ts[i] := fun hh i q q1 q2 => by
      rw [hvs i q q1 q2]
      by_cases h1 : i < k
      · rw [if_pos h1, if_pos (by omega)]
      · rw [if_neg h1]
        by_cases h2 : i = k
        · subst h2
          rw [if_pos (by omega)]; unfold msk; rw [hh, Bool.or_false]
        · rw [if_neg (by omega)]
    clear hvs hvk
    obtain ⟨u, hu⟩ : ∃ u, us[k]'(by omega) = u := ⟨_, rfl⟩
    rw [hu] at f3 hnext hsame
    clear hu
    obtain ⟨hd, hole, sa, tn, tc, tl⟩ := u
    dsimp only [Trc.cells] at f3 hnext hsame
    cases hole with
    | true =>
      repeat' (first | with_reducible refine wo_nil ?_ | ((with_reducible refine wo_any ?_); first | ((with_reducible refine ik_move ?_); refine wo_op rfl (op_move rfl) rfl rfl ?_) | ((with_reducible refine ik_assign ?_); refine wo_op rfl (op_assign rfl) rfl rfl ?_) | ((with_reducible refine ik_indexAddr ?_); first | refine wo_op rfl (op_indexAddr rfl rfl f1) rfl rfl ?_ | refine wo_op rfl (op_idxSl (b := B) (o := k * 10) rfl rfl Tryz.underlying52 zs58 (by omega) (by omega) (by omega)) rfl rfl ?_) | ((with_reducible refine ik_load ?_); first | refine wo_op rfl (op_ldTr rfl Tryz.underlying58 rfl zs58 f3.all) rfl rfl ?_ | refine wo_op rfl (op_ldAt rfl at_A Tryz.underlying52 rfl rfl) rfl rfl ?_ | refine wo_op rfl (op_ldAt rfl at_A Tryz.underlying4 rfl rfl) rfl rfl ?_) | ((with_reducible refine ik_store ?_); first | refine wo_op0 rfl (op_stIdx (b := B) (o := k * 10 + 8) rfl rfl at_A rfl zs4 (by omega) rfl hs8) rfl ?_ | refine wo_op0 rfl (op_stAgg rfl rfl at_A zs58 rfl rfl rfl rfl) rfl ?_) | ((with_reducible refine ik_alloc ?_); refine wo_op rfl (op_alloc zz58 zs58 rfl rfl rfl) rfl rfl ?_) | ((with_reducible refine ik_fieldAddr ?_); first | refine wo_op rfl (op_fieldAddr (o := 1) rfl Tryz.underlying54 rfl zs52 rfl) rfl rfl ?_ | refine wo_op rfl (op_fieldAddr (o := 8) rfl Tryz.underlying58 rfl zs4 rfl) rfl rfl ?_) | ((with_reducible refine ik_bin ?_); first | refine wo_op rfl (op_lss rfl rfl) rfl rfl ?_ | refine wo_op rfl (op_add' rfl rfl (w64 (by omega) (by omega))) rfl rfl ?_)) | with_reducible refine sq_norm ?_ | with_reducible refine wc_seq ?_ | with_reducible refine wc_region ?_ | with_reducible refine wc_skip ?_ | with_reducible refine wc_block ?_ | with_reducible refine bq_norm ?_ | refine wc_ift rfl ?_ | (refine wc_if rfl (fun hb => ?_) (fun hb => dead_A hb); (try simp only [decide_eq_true_eq, decide_eq_false_iff_not, Bool.not_eq_true', Bool.not_eq_false', Int.not_lt, Int.not_le, Decidable.not_not, not_true_eq_false, not_false_eq_true, beq_self_eq_true, reduceCtorEq] at hb)))
      all_goals exact lq_norm (k + 1) (by omega) (within_lk ⟨rfl, rfl, rfl, rfl, rfl, rfl, rfl, rfl, rfl, trivial⟩) ⟨⟨wf_A, gr_A, z6_A, at_A, at_A, at_A, at_A, at_A⟩, by omega, _, at_A, by rw [List.length_set, hvl], hnext rfl⟩
    | false =>
      repeat' (first | with_reducible refine wo_nil ?_ | ((with_reducible refine wo_any ?_); first | ((with_reducible refine ik_move ?_); refine wo_op rfl (op_move rfl) rfl rfl ?_) | ((with_reducible refine ik_assign ?_); refine wo_op rfl (op_assign rfl) rfl rfl ?_) | ((with_reducible refine ik_indexAddr ?_); refine wo_op rfl (op_indexAddr rfl rfl f1) rfl rfl ?_) | ((with_reducible refine ik_load ?_); first | refine wo_op rfl (op_ldTr rfl Tryz.underlying58 rfl zs58 f3.all) rfl rfl ?_ | refine wo_op rfl (op_ldAt rfl at_A Tryz.underlying4 rfl rfl) rfl rfl ?_) | ((with_reducible refine ik_alloc ?_); refine wo_op rfl (op_alloc zz58 zs58 rfl rfl rfl) rfl rfl ?_) | ((with_reducible refine ik_fieldAddr ?_); refine wo_op rfl (op_fieldAddr (o := 8) rfl Tryz.underlying58 rfl zs4 rfl) rfl rfl ?_) | ((with_reducible refine ik_store ?_); refine wo_op0 rfl (op_stAgg rfl rfl at_A zs58 rfl rfl rfl rfl) rfl ?_) | ((with_reducible refine ik_bin ?_); first | refine wo_op rfl (op_lss rfl rfl) rfl rfl ?_ | refine wo_op rfl (op_add' rfl rfl (w64 (by omega) (by omega))) rfl rfl ?_)) | with_reducible refine sq_norm ?_ | with_reducible refine wc_seq ?_ | with_reducible refine wc_region ?_ | with_reducible refine wc_skip ?_ | with_reducible refine wc_block ?_ | with_reducible refine bq_norm ?_ | refine wc_iff rfl ?_ | (refine wc_if rfl (fun hb => ?_) (fun hb => dead_A hb); (try simp only [decide_eq_true_eq, decide_eq_false_iff_not, Bool.not_eq_true', Bool.not_eq_false', Int.not_lt, Int.not_le, Decidable.not_not, not_true_eq_false, not_false_eq_true, beq_self_eq_true, reduceCtorEq] at hb)))
      all_goals exact lq_norm (k + 1) (by omega) (within_lk ⟨rfl, rfl, rfl, rfl, rfl, rfl, rfl, rfl, rfl, trivial⟩) ⟨⟨wf_A, gr_A, z6_A, at_A, at_A, at_A, at_A, at_A⟩, by omega, vs, at_A, hvl, hsame rfl⟩
  have hkn : k = n := by omega
  subst hkn
  have hms : vs = mskL ts us := mskL_of (by omega) (by omega) fun i q q1 q2 => by rw [hvs i q q1 q2, if_pos (by omega)]
  subst hms
  have hmk : ∀ t ∈ mskL ts us, ∃ i, ∃ q1 : i < ts.length, ∃ q2 : i < us.length, t = msk ts[i] us[i] := fun t ht => by
    obtain ⟨i, q, rfl⟩ := List.getElem_of_mem ht
    exact ⟨i, by omega, by omega, mskL_get q (by omega) (by omega)⟩
  have sm : SlT G h1 (.slice (some ⟨B, 0, some 0⟩) k k) k (mskL ts us) := ⟨Sl.ofAt aB (by rw [flat_len, hvl]) (Nat.le_refl _), hvl, fun t ht => by
    obtain ⟨i, q1, q2, rfl⟩ := hmk t ht
    exact ⟨((s.ok _ (List.getElem_mem q1)).sl).grow g1⟩⟩
  have q110 := fun (h2 : H) (g : Grow h1 h2) (w : Wf h2) (b4 : At h2 (h.nx + 1) (.cells (shC nm' a' k c') 54 2 false)) (b5 : At h2 (h.nx + 2) (.cells [.func (.func fI) #[] #[]] 176 1 false)) =>
    c110 (nm := nm) (F := mrgF f us) (sm.grow g) hn hn0 (fun t ht => by obtain ⟨i, q1, q2, rfl⟩ := hmk t ht; exact hl ts[i] (List.getElem_mem q1)) (fun t ht _ => by obtain ⟨i, q1, q2, rfl⟩ := hmk t ht; exact hv ts[i] (List.getElem_mem q1)) w rfl
      (merged_clos (s'.grow (g1.trans g)) (by omega) hl' (by omega) (fun t ht => by obtain ⟨i, q1, q2, rfl⟩ := hmk t ht; simpa [msk] using (s.ok _ (List.getElem_mem q1)).sl.length)
        (fun i q q' hh => by
          rw [mskL_get q (by omega) q'] at hh ⊢
          simp only [msk, Bool.or_eq_false_iff] at hh ⊢
          exact ⟨hv' _ (List.getElem_mem q'), hP i (by omega) q' hh.1 hh.2⟩) (hI h2) b5 b4)
  clear hvs hmk sm
  repeat' (first | with_reducible refine wo_nil ?_ | ((with_reducible refine wo_any ?_); first | ((with_reducible refine ik_assign ?_); refine wo_op rfl (op_assign rfl) rfl rfl ?_) | ((with_reducible refine ik_makeFunc ?_); refine wo_op rfl (op_makeFunc (fun _ q => by cases q) rfl rfl) rfl rfl ?_) | ((with_reducible refine ik_load ?_); refine wo_op rfl (op_ldAgg rfl at_A Tryz.underlying54 rfl zs54 rfl rfl) rfl rfl ?_) | ((with_reducible refine ik_store ?_); refine wo_op0 rfl (op_stAgg rfl rfl at_A zs54 rfl rfl rfl rfl) rfl ?_) | ((with_reducible refine ik_bin ?_); refine wo_op rfl (op_lss rfl rfl) rfl rfl ?_) | ((with_reducible refine ik_extract ?_); refine wo_op rfl (op_extract rfl rfl) rfl rfl ?_) | ((with_reducible refine ik_callv ?_); (refine wo_call rfl rfl rfl rfl (q110 _ gr_A wf_A at_A at_A) rfl rfl ?_; rintro _ _ ⟨(⟨rfl, hbad⟩ | ⟨hnb, B2, ws, rfl, hB2, hatB, hus, hka⟩), hq⟩; all_goals ((try (have hqn := hq.nx)); (try simp only [H.nx_push, H.nx_set, H.nx_bump] at hqn))))) | with_reducible refine sq_norm ?_ | with_reducible refine wc_seq ?_ | with_reducible refine wc_region ?_ | with_reducible refine wc_ret ?_ | with_reducible refine wc_exit ?_ | with_reducible refine sq_exit ?_ | with_reducible refine lq_exit ?_ | refine bq_eq rfl ?_ | (refine wc_if rfl (fun hb => dead_A hb) (fun hb => ?_); (try simp only [decide_eq_true_eq, decide_eq_false_iff_not, Bool.not_eq_true', Bool.not_eq_false', Int.not_lt, Int.not_le, Decidable.not_not, not_true_eq_false, not_false_eq_true, beq_self_eq_true, reduceCtorEq] at hb)))
  · exact rqc2 rfl (ldAgg at_A Tryz.underlying54 rfl zs54 rfl rfl) rfl ⟨.inl ⟨rfl, hbad⟩, gr_A⟩
  · have hgx := g1.nx
    exact rqc2 rfl (ldAgg at_A Tryz.underlying54 rfl zs54 rfl rfl) rfl ⟨.inr ⟨hnb, B2, ws, rfl, by omega, at_A, fun u hu => ((hus u hu).set (by omega) _).le (by omega), hka⟩, gr_A⟩
end Go.Proofs.YtdelgpbfdimefaaGreatDoor

/- What follows a shot, by the program. -/
namespace Go.Proofs.YtdelgpbfdimefaaGreatDoor
open Go Go.Ab Go.Fl
attribute [local irreducible] SeqQ BlkQ LpQ RetQ Wc Wo WD WX Op1 Op1q Op1a Cf Cl From
attribute [local irreducible] Ieee.Format.order Ieee.Format.read Ieee.Format.nearest Ieee.Format.write Ieee.Format.mul Ieee.Format.div Ieee.Datum.order Ieee.Datum.integral smpE smp smpW K J U trE hdrE lchk firstNZ isNameB wid mism shE offs shortB anyLarge spanE
set_option maxRecDepth 10000
variable {G : Base} {h : H}

theorem op_addq {M : Mc} {op : Op} {l : KL} {h h' : H} {v : Value} (q : Op1 M op l h v h') : Op1 M op l h v h' := q
def hdB (x y : Nat → Int) : Bool := decide (x 0 = y 0) && (decide (x 1 = y 1) && (decide (x 2 = y 2) && (decide (x 3 = y 3) && (decide (x 4 = y 4) && (decide (x 5 = y 5) && (decide (x 6 = y 6) && (decide (x 7 = y 7) && true)))))))
theorem hd_eqv (x y : Nat → Int) : eqV Tryz.prog 3 44 (hdCells x) (hdCells y) = some (hdB x y) := eqv44 _ _ _ _ _ _ _ _ _ _ _ _ _ _ _ _
/-- A header, later, as the machine adds. -/
def ltrW (hd : Nat → Int) (w : Int) : Nat → Int := fun i => if i = 4 then IntKind.wrap .i64 (hd 4 + w) else hd i
def folM (w : Int) : List Trc → List Trc → Bool
  | t :: ts, u :: us => !hdB (ltrW t.hd w) u.hd || folM w ts us
  | _, _ => false
def bigM : List Trc → List Trc → Bool
  | t :: ts, u :: us => (!t.hole && !u.hole && decide (1024 < t.n + u.n)) || bigM ts us
  | _, _ => false
def folE (ts us : List Trc) : Int := if ts.length ≠ us.length then 2 else if folM (wid ts : Nat) ts us = true then 24 else if bigM ts us = true then 5 else 0
theorem folM_step {w : Int} {ts us : List Trc} {k : Nat} (h1 : k < ts.length) (h2 : k < us.length) : folM w (ts.drop k) (us.drop k) = (!hdB (ltrW (ts[k]).hd w) (us[k]).hd || folM w (ts.drop (k + 1)) (us.drop (k + 1))) := by
  rw [List.drop_eq_getElem_cons h1, List.drop_eq_getElem_cons h2, folM]
theorem bigM_step {ts us : List Trc} {k : Nat} (h1 : k < ts.length) (h2 : k < us.length) : bigM (ts.drop k) (us.drop k) = ((!(ts[k]).hole && !(us[k]).hole && decide (1024 < (ts[k]).n + (us[k]).n)) || bigM (ts.drop (k + 1)) (us.drop (k + 1))) := by
  rw [List.drop_eq_getElem_cons h1, List.drop_eq_getElem_cons h2, bigM]
set_option maxHeartbeats 4000000 in
theorem c112 {nm nm' : ByteArray} {a a' : Option Addr} {n m c c' : Nat} {ts us : List Trc} (s : SlT G h (.slice a n c) n ts) (s' : SlT G h (.slice a' m c') m us) (hn : n < 1000000) (hm : m < 1000000) (hl : ∀ t ∈ ts, t.n < 1000000) (hl' : ∀ t ∈ us, t.n < 1000000) (hw : Wf h) :
    Cf (mz G) (.func (.func 112) #[] #[]) [.agg ⟨shC nm a n c⟩, .agg ⟨shC nm' a' m c'⟩] h fun r h' => r = .int .i64 (folE ts us) ∧ Grow h h' := by
  have hlen := s.len
  have hlen' := s'.len
  have q103 := fun (h' : H) (g : Grow h h') (w : Wf h') => c103 (nm := nm) (s.grow g) (by omega) w
  unfold folE
  rw [hlen, hlen']
  obtain ⟨W, hW⟩ : ∃ W, wid ts = W := ⟨_, rfl⟩
  rw [hW] at q103 ⊢
  by_cases hne : n ≠ m
  · rw [if_pos hne]
    refine cf_enter0 67 [.cell 4 26] Tryz.func112 rfl rfl rfl rfl ?_
    repeat' (first | with_reducible refine wo_nil ?_ | ((with_reducible refine wo_any ?_); first | ((with_reducible refine ik_box ?_); refine wo_op rfl (op_boxAgg rfl zs54 rfl) rfl rfl ?_) | ((with_reducible refine ik_alloc ?_); refine wo_op rfl (op_alloc zz26 zs26 rfl rfl rfl) rfl rfl ?_) | ((with_reducible refine ik_fieldAddr ?_); refine wo_op rfl (op_fieldAddr (o := 1) rfl Tryz.underlying54 rfl zs52 rfl) rfl rfl ?_) | ((with_reducible refine ik_load ?_); refine wo_op rfl (op_ldAt rfl at_A Tryz.underlying52 rfl rfl) rfl rfl ?_) | ((with_reducible refine ik_callb ?_); refine wo_op rfl (op_lenSl rfl Tryz.underlying52) rfl rfl ?_) | ((with_reducible refine ik_bin ?_); refine wo_op rfl (op_neq rfl rfl) rfl rfl ?_) | ((with_reducible refine ik_store ?_); refine wo_op0 rfl (op_st1 rfl rfl at_A rfl zs26 rfl rfl rfl) rfl ?_)) | with_reducible refine sq_norm ?_ | with_reducible refine wc_seq ?_ | with_reducible refine wc_region ?_ | with_reducible refine wc_ret ?_ | with_reducible refine sq_ret ?_ | (refine wc_if rfl (fun hb => ?_) (fun hb => dead_A hb); (try simp only [decide_eq_true_eq, decide_eq_false_iff_not, Bool.not_eq_true', Bool.not_eq_false', Int.not_lt, Int.not_le, Decidable.not_not, not_true_eq_false, not_false_eq_true, beq_self_eq_true, reduceCtorEq] at hb)))
    all_goals exact rqc1 rfl (ld1 at_A Tryz.underlying26 rfl rfl) ⟨rfl, gr_A⟩
  rw [if_neg hne]
  have hne : n = m := by simpa using hne
  subst hne
  refine cf_enter0 67 [.cell 4 26] Tryz.func112 rfl rfl rfl rfl ?_
  repeat' (first | with_reducible refine wo_nil ?_ | ((with_reducible refine wo_any ?_); first | ((with_reducible refine ik_move ?_); refine wo_op rfl (op_move rfl) rfl rfl ?_) | ((with_reducible refine ik_assign ?_); refine wo_op rfl (op_assign rfl) rfl rfl ?_) | ((with_reducible refine ik_box ?_); refine wo_op rfl (op_boxAgg rfl zs54 rfl) rfl rfl ?_) | ((with_reducible refine ik_alloc ?_); refine wo_op rfl (op_alloc zz26 zs26 rfl rfl rfl) rfl rfl ?_) | ((with_reducible refine ik_fieldAddr ?_); refine wo_op rfl (op_fieldAddr (o := 1) rfl Tryz.underlying54 rfl zs52 rfl) rfl rfl ?_) | ((with_reducible refine ik_load ?_); first | refine wo_op rfl (op_ldAt rfl at_A Tryz.underlying52 rfl rfl) rfl rfl ?_ | refine wo_op rfl (op_ldAgg rfl at_A Tryz.underlying54 rfl zs54 rfl rfl) rfl rfl ?_) | ((with_reducible refine ik_callb ?_); refine wo_op rfl (op_lenSl rfl Tryz.underlying52) rfl rfl ?_) | ((with_reducible refine ik_bin ?_); refine wo_op rfl (op_neq rfl rfl) rfl rfl ?_) | ((with_reducible refine ik_callv ?_); (refine wo_call rfl rfl rfl rfl (q103 _ gr_A wf_A) rfl rfl ?_; rintro _ _ ⟨rfl, hq⟩; all_goals ((try (have hqn := hq.nx)); (try simp only [H.nx_push, H.nx_set, H.nx_bump] at hqn))))) | with_reducible refine sq_norm ?_ | with_reducible refine wc_seq ?_ | with_reducible refine wc_region ?_ | with_reducible refine wc_skip ?_ | with_reducible refine wc_block ?_ | (refine wc_if rfl (fun hb => (of_decide_eq_true hb rfl).elim) (fun hb => ?_); (try simp only [decide_eq_true_eq, decide_eq_false_iff_not, Bool.not_eq_true', Bool.not_eq_false', Int.not_lt, Int.not_le, Decidable.not_not, not_true_eq_false, not_false_eq_true, beq_self_eq_true, reduceCtorEq] at hb)))
  refine wc_cut (ι := Unit) (fun _ => [(2, .pointer (some ⟨h.nx, 0, some 0⟩)), (3, .pointer (some ⟨h.nx + 1, 0, some 0⟩)), (4, .pointer (some ⟨h.nx + 2, 0, some 0⟩)), (5, .int .i64 (W : Nat)), (22, .slice a n c), (23, .int .i64 n), (24, .int .i64 0)])
    (fun _ h1 => (Wf h1 ∧ Grow h h1 ∧ h.nx + 3 ≤ h1.nx ∧ At h1 h.nx (.cells (shC nm a n c) 54 2 false) ∧ At h1 (h.nx + 1) (.cells (shC nm' a' n c') 54 2 false) ∧ At h1 (h.nx + 2) (.cells [.int .i64 0] 26 1 false))) () (within_lk ⟨rfl, rfl, rfl, rfl, rfl, rfl, rfl, trivial⟩) ⟨wf_A, gr_A, (by first | omega | (simp only [H.nx_push] at hqn; omega)), at_A, at_A, at_A⟩ ?_
  clear hq hqn
  rintro _ h1 ⟨w1, g1, n1, a0, a1, a2⟩
  refine wc_loop (fun k => n - k) (fun k : Nat => [(2, .pointer (some ⟨h.nx, 0, some 0⟩)), (3, .pointer (some ⟨h.nx + 1, 0, some 0⟩)), (4, .pointer (some ⟨h.nx + 2, 0, some 0⟩)), (5, .int .i64 (W : Nat)), (22, .slice a n c), (23, .int .i64 n), (24, .int .i64 k)])
    (fun k h1 => (Wf h1 ∧ Grow h h1 ∧ h.nx + 3 ≤ h1.nx ∧ At h1 h.nx (.cells (shC nm a n c) 54 2 false) ∧ At h1 (h.nx + 1) (.cells (shC nm' a' n c') 54 2 false) ∧ At h1 (h.nx + 2) (.cells [.int .i64 0] 26 1 false)) ∧ k ≤ n ∧ folM W (ts.drop k) (us.drop k) = folM W ts us) 0 (within_lk ⟨rfl, rfl, rfl, rfl, rfl, rfl, rfl, trivial⟩) ⟨⟨w1, g1, n1, a0, a1, a2⟩, Nat.zero_le _, rfl⟩ ?_
  clear w1 g1 n1 a0 a1 a2 h1
  rintro k h1 ⟨⟨w1, g1, n1, a0, a1, a2⟩, hk, hi⟩
  have hgn := g1.nx
  by_cases hlt : k < n
  · obtain ⟨ad, f1, f3⟩ := slT_at (s.grow g1) Tryz.underlying52 zs58 (i := (k : Int)) hlt rfl
    obtain ⟨bd, e1, e3⟩ := slT_at (s'.grow g1) Tryz.underlying52 zs58 (i := (k : Int)) hlt rfl
    rw [folM_step (by omega) (by omega)] at hi
    have hD := hd_eqv (ltrW (ts[k]'(by omega)).hd W) (us[k]'(by omega)).hd
    obtain ⟨D, hD2⟩ : ∃ D, hdB (ltrW (ts[k]'(by omega)).hd W) (us[k]'(by omega)).hd = D := ⟨_, rfl⟩
    rw [hD2] at hD hi
    clear hD2
    obtain ⟨t, ht⟩ : ∃ t, ts[k]'(by omega) = t := ⟨_, rfl⟩
    obtain ⟨u, hu⟩ : ∃ t, us[k]'(by omega) = t := ⟨_, rfl⟩
    rw [ht] at f3 hD
    rw [hu] at e3 hD
    clear ht hu
    obtain ⟨hd, hole, sa, tn, tc, tl⟩ := t
    obtain ⟨hd', hole', sa', tn', tc', tl'⟩ := u
    dsimp only [Trc.cells] at f3 e3 hD
    have e8 := e3.take 8
    have e8 : Cells G h1 bd (hdCells hd') := e8
    have hD : eqV Tryz.prog 3 44 [.int .i64 (hd 0), .int .i64 (hd 1), .int .i64 (hd 2), .int .i64 (hd 3), .int .i64 (IntKind.wrap .i64 (hd 4 + W)), .int .i64 (hd 5), .int .i64 (hd 6), .int .i64 (hd 7)] (hdCells hd') = some D := hD
    obtain ⟨h4, hh4⟩ : ∃ h4, IntKind.wrap .i64 (hd 4 + (W : Int)) = h4 := ⟨_, rfl⟩
    have qadd : ∀ (l : KL) (h : H) (t ty : TypeId) (x y : Operand), val l x = some (.int .i64 (hd 4)) → val l y = some (.int .i64 (W : Nat)) → Op1 (mz G) (.binOp .add t x y ty) l h (.int .i64 h4) h := fun l h t ty x y hx hy => by rw [← hh4]; exact op_add hx hy
    rw [hh4] at hD
    clear hh4
    have qe8 := fun (g : H) (gg : Grow h1 g) => (e8.grow gg).all
    cases D with
    | false =>
      rw [show (!false || folM W (ts.drop (k + 1)) (us.drop (k + 1))) = true from rfl] at hi
      rw [← hi, if_pos rfl]
      repeat' (first | with_reducible refine wo_nil ?_ | ((with_reducible refine wo_any ?_); first | ((with_reducible refine ik_move ?_); refine wo_op rfl (op_move rfl) rfl rfl ?_) | ((with_reducible refine ik_assign ?_); refine wo_op rfl (op_assign rfl) rfl rfl ?_) | ((with_reducible refine ik_indexAddr ?_); first | refine wo_op rfl (op_indexAddr rfl rfl f1) rfl rfl ?_ | refine wo_op rfl (op_idxArr' rfl rfl Tryz.underlying44 zs3 (by omega) (by omega)) rfl rfl ?_) | ((with_reducible refine ik_load ?_); first | refine wo_op rfl (op_ldTr rfl Tryz.underlying58 rfl zs58 f3.all) rfl rfl ?_ | refine wo_op rfl (op_ldAgg rfl at_A Tryz.underlying44 rfl zs44 rfl rfl) rfl rfl ?_ | refine wo_op rfl (op_ldAt rfl at_A Tryz.underlying3 rfl rfl) rfl rfl ?_) | ((with_reducible refine ik_bin ?_); first | refine wo_op rfl (op_addq (qadd _ _ _ _ _ _ rfl rfl)) rfl rfl ?_ | refine wo_op rfl (op_lss rfl rfl) rfl rfl ?_) | ((with_reducible refine ik_alloc ?_); first | refine wo_op rfl (op_alloc zz58 zs58 rfl rfl rfl) rfl rfl ?_ | refine wo_op rfl (op_alloc zz44 zs44 rfl rfl rfl) rfl rfl ?_) | ((with_reducible refine ik_fieldAddr ?_); refine wo_op rfl (op_fieldAddr (o := 0) rfl Tryz.underlying58 rfl zs44 rfl) rfl rfl ?_) | ((with_reducible refine ik_store ?_); first | refine wo_op0 rfl (op_st1 rfl rfl at_A rfl zs26 rfl rfl rfl) rfl ?_ | refine wo_op0 rfl (op_stAgg rfl rfl at_A zs58 rfl rfl rfl rfl) rfl ?_ | refine wo_op0 rfl (op_stAgg rfl rfl at_A zs44 rfl rfl rfl rfl) rfl ?_)) | ((with_reducible refine xk_any ?_); ((with_reducible refine xk_as0 ?_); first | ((with_reducible refine xk_move ?_); refine wx_q (wt_none rfl) rfl rfl (op_q rfl (op_move rfl)) rfl rfl rfl ?_) | ((with_reducible refine xk_indexAddr ?_); refine wx_q (wt_none rfl) rfl rfl (op_q rfl (op_indexAddr rfl rfl e1)) rfl rfl rfl ?_) | ((with_reducible refine xk_load ?_); first | refine wx_h0 (wt_none rfl) rfl (op_q rfl (op_ldCells rfl Tryz.underlying44 rfl zs44 (qe8 _ gr_A))) rfl rfl rfl ?_ | refine wx_h0 (wt_none rfl) rfl (op_q rfl (op_ldAt rfl at_A Tryz.underlying52 rfl rfl)) rfl rfl rfl ?_ | refine wx_h0 (wt_none rfl) rfl (op_q rfl (op_ldAgg rfl at_A Tryz.underlying44 rfl zs44 rfl rfl)) rfl rfl rfl ?_) | ((with_reducible refine xk_bin ?_); refine wx_q (wt_none rfl) rfl rfl (op_q rfl (op_neT 3 rfl rfl rfl Tryz.underlying44 rfl eg44 hD)) rfl rfl rfl ?_) | ((with_reducible refine xk_fieldAddr ?_); first | refine wx_q (wt_none rfl) rfl rfl (op_q rfl (op_fieldAddr (o := 1) rfl Tryz.underlying54 rfl zs52 rfl)) rfl rfl rfl ?_ | refine wx_q (wt_none rfl) rfl rfl (op_q rfl (op_fieldAddr (o := 0) rfl Tryz.underlying58 rfl zs44 rfl)) rfl rfl rfl ?_) | with_reducible refine wx_nil0 ?_ ?_)) | with_reducible exact obl_nil | with_reducible refine obl_cons ?_ ?_ | ((with_reducible refine ik_obs ?_); first | exact obs_nil | refine obs_chkn rfl rfl (op_q rfl (op_ldCells rfl Tryz.underlying44 rfl zs44 (qe8 _ gr_A))) ?_ | refine obs_chkn rfl rfl (op_q rfl (op_ldAt rfl at_A Tryz.underlying52 rfl (by rfl))) ?_ | refine obs_chkn rfl rfl (op_q rfl (op_ldAgg rfl at_A Tryz.underlying44 rfl zs44 (by rfl) rfl)) ?_) | with_reducible refine sq_norm ?_ | with_reducible refine wc_seq ?_ | with_reducible refine wc_region ?_ | with_reducible refine wc_skip ?_ | with_reducible refine wc_ret ?_ | with_reducible refine wc_block ?_ | with_reducible refine bq_ret ?_ | with_reducible refine sq_ret ?_ | with_reducible refine lq_ret ?_ | refine wc_ift rfl ?_ | (refine wc_if rfl (fun hb => ?_) (fun hb => dead_A hb); (try simp only [decide_eq_true_eq, decide_eq_false_iff_not, Bool.not_eq_true', Bool.not_eq_false', Int.not_lt, Int.not_le, Decidable.not_not, not_true_eq_false, not_false_eq_true, beq_self_eq_true, reduceCtorEq] at hb)) | refine wc_drawB (id := 9) 8 [0, 0, 2, 0, 14, 30, 62, 127] [0, 1, 2, 3, 4, 5, 6, 7] (by kernel_rfl) (by kernel_rfl) rfl rfl ?_)
      all_goals exact rqc1 rfl (ld1 at_A Tryz.underlying26 rfl rfl) ⟨rfl, gr_A⟩
    | true =>
      rw [show (!true || folM W (ts.drop (k + 1)) (us.drop (k + 1))) = folM W (ts.drop (k + 1)) (us.drop (k + 1)) from rfl] at hi
      repeat' (first | with_reducible refine wo_nil ?_ | ((with_reducible refine wo_any ?_); first | ((with_reducible refine ik_move ?_); refine wo_op rfl (op_move rfl) rfl rfl ?_) | ((with_reducible refine ik_assign ?_); refine wo_op rfl (op_assign rfl) rfl rfl ?_) | ((with_reducible refine ik_indexAddr ?_); first | refine wo_op rfl (op_indexAddr rfl rfl f1) rfl rfl ?_ | refine wo_op rfl (op_idxArr' rfl rfl Tryz.underlying44 zs3 (by omega) (by omega)) rfl rfl ?_) | ((with_reducible refine ik_load ?_); first | refine wo_op rfl (op_ldTr rfl Tryz.underlying58 rfl zs58 f3.all) rfl rfl ?_ | refine wo_op rfl (op_ldAgg rfl at_A Tryz.underlying44 rfl zs44 rfl rfl) rfl rfl ?_ | refine wo_op rfl (op_ldAt rfl at_A Tryz.underlying3 rfl rfl) rfl rfl ?_) | ((with_reducible refine ik_bin ?_); first | refine wo_op rfl (op_addq (qadd _ _ _ _ _ _ rfl rfl)) rfl rfl ?_ | refine wo_op rfl (op_lss rfl rfl) rfl rfl ?_ | refine wo_op rfl (op_add' rfl rfl (w64 (by omega) (by omega))) rfl rfl ?_) | ((with_reducible refine ik_alloc ?_); first | refine wo_op rfl (op_alloc zz58 zs58 rfl rfl rfl) rfl rfl ?_ | refine wo_op rfl (op_alloc zz44 zs44 rfl rfl rfl) rfl rfl ?_) | ((with_reducible refine ik_fieldAddr ?_); refine wo_op rfl (op_fieldAddr (o := 0) rfl Tryz.underlying58 rfl zs44 rfl) rfl rfl ?_) | ((with_reducible refine ik_store ?_); first | refine wo_op0 rfl (op_st1 rfl rfl at_A rfl zs26 rfl rfl rfl) rfl ?_ | refine wo_op0 rfl (op_stAgg rfl rfl at_A zs58 rfl rfl rfl rfl) rfl ?_ | refine wo_op0 rfl (op_stAgg rfl rfl at_A zs44 rfl rfl rfl rfl) rfl ?_)) | ((with_reducible refine xk_any ?_); ((with_reducible refine xk_as0 ?_); first | ((with_reducible refine xk_move ?_); refine wx_q (wt_none rfl) rfl rfl (op_q rfl (op_move rfl)) rfl rfl rfl ?_) | ((with_reducible refine xk_indexAddr ?_); refine wx_q (wt_none rfl) rfl rfl (op_q rfl (op_indexAddr rfl rfl e1)) rfl rfl rfl ?_) | ((with_reducible refine xk_load ?_); first | refine wx_h0 (wt_none rfl) rfl (op_q rfl (op_ldCells rfl Tryz.underlying44 rfl zs44 (qe8 _ gr_A))) rfl rfl rfl ?_ | refine wx_h0 (wt_none rfl) rfl (op_q rfl (op_ldAt rfl at_A Tryz.underlying52 rfl rfl)) rfl rfl rfl ?_ | refine wx_h0 (wt_none rfl) rfl (op_q rfl (op_ldAgg rfl at_A Tryz.underlying44 rfl zs44 rfl rfl)) rfl rfl rfl ?_) | ((with_reducible refine xk_bin ?_); refine wx_q (wt_none rfl) rfl rfl (op_q rfl (op_neT 3 rfl rfl rfl Tryz.underlying44 rfl eg44 hD)) rfl rfl rfl ?_) | ((with_reducible refine xk_fieldAddr ?_); first | refine wx_q (wt_none rfl) rfl rfl (op_q rfl (op_fieldAddr (o := 1) rfl Tryz.underlying54 rfl zs52 rfl)) rfl rfl rfl ?_ | refine wx_q (wt_none rfl) rfl rfl (op_q rfl (op_fieldAddr (o := 0) rfl Tryz.underlying58 rfl zs44 rfl)) rfl rfl rfl ?_) | with_reducible refine wx_nil0 ?_ ?_)) | with_reducible exact obl_nil | with_reducible refine obl_cons ?_ ?_ | ((with_reducible refine ik_obs ?_); first | exact obs_nil | refine obs_chkn rfl rfl (op_q rfl (op_ldCells rfl Tryz.underlying44 rfl zs44 (qe8 _ gr_A))) ?_ | refine obs_chkn rfl rfl (op_q rfl (op_ldAt rfl at_A Tryz.underlying52 rfl (by rfl))) ?_ | refine obs_chkn rfl rfl (op_q rfl (op_ldAgg rfl at_A Tryz.underlying44 rfl zs44 (by rfl) rfl)) ?_) | with_reducible refine sq_norm ?_ | with_reducible refine wc_seq ?_ | with_reducible refine wc_region ?_ | with_reducible refine wc_skip ?_ | with_reducible refine wc_block ?_ | with_reducible refine bq_norm ?_ | refine wc_iff rfl ?_ | (refine wc_if rfl (fun hb => ?_) (fun hb => dead_A hb); (try simp only [decide_eq_true_eq, decide_eq_false_iff_not, Bool.not_eq_true', Bool.not_eq_false', Int.not_lt, Int.not_le, Decidable.not_not, not_true_eq_false, not_false_eq_true, beq_self_eq_true, reduceCtorEq] at hb)) | refine wc_drawB (id := 9) 8 [0, 0, 2, 0, 14, 30, 62, 127] [0, 1, 2, 3, 4, 5, 6, 7] (by kernel_rfl) (by kernel_rfl) rfl rfl ?_)
      all_goals exact lq_norm (k + 1) (by omega) (within_lk ⟨rfl, rfl, rfl, rfl, rfl, rfl, rfl, trivial⟩) ⟨⟨wf_A, gr_A, z8_A, at_A, at_A, at_A⟩, by omega, hi⟩
  have hkn : k = n := by omega
  subst hkn
  rw [List.drop_eq_nil_of_le (by omega), List.drop_eq_nil_of_le (by omega)] at hi
  have hnf : folM W ts us = false := by rw [← hi]; rfl
  rw [hnf, if_neg (by simp)]
  clear hi hnf hlt hk q103
  repeat' (first | with_reducible refine wo_nil ?_ | ((with_reducible refine wo_any ?_); first | ((with_reducible refine ik_load ?_); refine wo_op rfl (op_ldAgg rfl at_A Tryz.underlying54 rfl zs54 rfl rfl) rfl rfl ?_) | ((with_reducible refine ik_bin ?_); refine wo_op rfl (op_lss rfl rfl) rfl rfl ?_) | ((with_reducible refine ik_callF (f := 108) ?_); (refine wo_call rfl rfl rfl rfl (c108) rfl rfl ?_; rintro _ _ ⟨rfl, rfl⟩; all_goals ((try (have hqn := hq.nx)); (try simp only [H.nx_push, H.nx_set, H.nx_bump] at hqn))))) | with_reducible refine sq_norm ?_ | with_reducible refine wc_seq ?_ | with_reducible refine wc_region ?_ | with_reducible refine wc_exit ?_ | with_reducible refine wc_block ?_ | with_reducible refine sq_exit ?_ | with_reducible refine lq_exit ?_ | refine bq_eq rfl ?_ | (refine wc_if rfl (fun hb => dead_A hb) (fun hb => ?_); (try simp only [decide_eq_true_eq, decide_eq_false_iff_not, Bool.not_eq_true', Bool.not_eq_false', Int.not_lt, Int.not_le, Decidable.not_not, not_true_eq_false, not_false_eq_true, beq_self_eq_true, reduceCtorEq] at hb)))
  refine wc_cut (ι := Nat) (fun b => [(3, .pointer (some ⟨h.nx + 1, 0, some 0⟩)), (4, .pointer (some ⟨h.nx + 2, 0, some 0⟩)), (46, whF b)])
    (fun b h1 => (Wf h1 ∧ Grow h h1 ∧ h.nx + 3 ≤ b ∧ b < h1.nx ∧ At h1 (h.nx + 1) (.cells (shC nm' a' k c') 54 2 false) ∧ At h1 (h.nx + 2) (.cells [.int .i64 0] 26 1 false) ∧ At h1 b (.cells (shC nm a k c) 54 2 false))) _ (within_lk ⟨rfl, rfl, rfl, trivial⟩) ⟨wf_A, gr_A, n1, (by simp only [H.nx_push]; omega), at_A, at_A, at_A⟩ ?_
  clear w1 g1 n1 a0 a1 a2 hgn
  rintro Bs h0 ⟨w0, g0, n1, n2, a1, a2, a3⟩
  refine wc_rangeFunc2 rfl fun ev lp he hlp => ?_
  refine (c159 (nm := nm) (a := a) (c := c) (ts := ts) (fun j g => Wf g ∧ Grow h g ∧ h0.nx + 1 ≤ g.nx ∧ At g (h.nx + 1) (.cells (shC nm' a' k c') 54 2 false) ∧ At g (h.nx + 2) (.cells [.int .i64 0] 26 1 false) ∧ At g Bs (.cells (shC nm a k c) 54 2 false) ∧ At g h0.nx lp ∧ bigM (ts.drop j) (us.drop j) = bigM ts us)
    (fun g => Wf g ∧ Grow h g ∧ At g (h.nx + 2) (.cells [.int .i64 5] 26 1 false) ∧ (∃ pe ps asg bd, At g h0.nx (.loop .done (some .ret) pe ps asg bd)) ∧ bigM ts us = true) hn hlen ?_ ?_ ?_ ?_ ?_).mono ?_
  · rintro j g ⟨w, gr, _, _, _, b, _⟩
    exact ⟨b, s.grow gr, w⟩
  · rintro j g g' ⟨w, gr, nx, b1, b2, b3, b4, e⟩ gg ww
    exact ⟨ww, gr.trans gg, Nat.le_trans nx gg.nx, b1.grow gg, b2.grow gg, b3.grow gg, b4.grow gg, e⟩
  · rintro j g hj ⟨w, gr, nx, b1, b2, b3, b4, e⟩ hh
    refine ⟨w, gr, nx, b1, b2, b3, b4, ?_⟩
    rw [← e, bigM_step hj (by omega), hh]; rfl
  · rintro j g hj ⟨w, gr, nx, b1, b2, b3, b4, e⟩ hh
    have hju : j < us.length := by omega
    rw [bigM_step hj hju, hh] at e
    have hln := hl _ (List.getElem_mem hj)
    have hln' := hl' _ (List.getElem_mem hju)
    obtain ⟨bd, e1, e3⟩ := slT_at s' Tryz.underlying52 zs58 (i := (j : Int)) (by omega) rfl
    obtain ⟨t, ht⟩ : ∃ t, ts[j] = t := ⟨_, rfl⟩
    obtain ⟨u, hu⟩ : ∃ u, us[j] = u := ⟨_, rfl⟩
    rw [ht] at e hln ⊢
    rw [hu] at e e3 hln'
    clear hh ht hu
    obtain ⟨hd, hole, sa, tn, tc, tl⟩ := t
    obtain ⟨hd', hole', sa', tn', tc', tl'⟩ := u
    dsimp only [Trc.cells] at e e3 hln hln' ⊢
    subst hlp
    have qe3 := fun (h2 : H) (gg : Grow h h2) => (e3.grow gg).all
    refine cf_round b4.get he rfl rfl ?_
    repeat' (first | with_reducible refine wo_nil ?_ | ((with_reducible refine wo_any ?_); first | ((with_reducible refine ik_assign ?_); refine wo_op rfl (op_assign rfl) rfl rfl ?_) | ((with_reducible refine ik_alloc ?_); refine wo_op rfl (op_alloc zz58 zs58 rfl rfl rfl) rfl rfl ?_) | ((with_reducible refine ik_store ?_); refine wo_op0 rfl (op_stAgg rfl rfl at_A zs58 rfl rfl rfl rfl) rfl ?_)) | with_reducible refine sq_norm ?_ | with_reducible refine wc_seq ?_ | with_reducible refine wc_region ?_)
    refine ⟨rfl, _, _, _, _, _, At.get (b := h0.nx) (o := .loop .ready none ev _ _ _) at_A, ?_⟩
    cases hole' with
    | true =>
      have e : bigM (ts.drop (j + 1)) (us.drop (j + 1)) = bigM ts us := e
      repeat' (first | with_reducible refine wo_nil ?_ | ((with_reducible refine wo_any ?_); first | ((with_reducible refine ik_move ?_); refine wo_op rfl (op_move rfl) rfl rfl ?_) | ((with_reducible refine ik_indexAddr ?_); refine wo_op rfl (op_indexAddr rfl rfl e1) rfl rfl ?_) | ((with_reducible refine ik_load ?_); first | refine wo_op rfl (op_ldTr rfl Tryz.underlying58 rfl zs58 (qe3 _ gr_A)) rfl rfl ?_ | refine wo_op rfl (op_ldAt rfl at_A Tryz.underlying52 rfl rfl) rfl rfl ?_ | refine wo_op rfl (op_ldAt rfl at_A Tryz.underlying4 rfl rfl) rfl rfl ?_) | ((with_reducible refine ik_alloc ?_); refine wo_op rfl (op_alloc zz58 zs58 rfl rfl rfl) rfl rfl ?_) | ((with_reducible refine ik_fieldAddr ?_); first | refine wo_op rfl (op_fieldAddr (o := 1) rfl Tryz.underlying54 rfl zs52 rfl) rfl rfl ?_ | refine wo_op rfl (op_fieldAddr (o := 8) rfl Tryz.underlying58 rfl zs4 rfl) rfl rfl ?_) | ((with_reducible refine ik_store ?_); refine wo_op0 rfl (op_stAgg rfl rfl at_A zs58 rfl rfl rfl rfl) rfl ?_) | ((with_reducible refine ik_un ?_); refine wo_op rfl (op_not rfl) rfl rfl ?_) | ((with_reducible refine ik_pick ?_); refine wo_op rfl (op_pickf rfl rfl) rfl rfl ?_) | ((with_reducible refine ik_g ?_); refine wo_gskip rfl rfl rfl rfl rfl rfl ?_)) | with_reducible refine sq_norm ?_ | with_reducible refine wc_seq ?_ | with_reducible refine wc_region ?_ | with_reducible refine wc_skip ?_ | with_reducible refine wc_block ?_ | with_reducible refine bq_norm ?_ | refine wc_iff rfl ?_)
      all_goals exact ⟨_, _, _, _, _, _, At.get (b := h0.nx) (o := .loop .busy none ev _ _ _) at_A, .inl ⟨rfl, wf_A, gr_A, (by simp only [H.nx_push, H.nx_set]; omega), at_A, at_A, at_A, at_A, e⟩⟩
    | false =>
      by_cases hbg : 1024 < tn + tn'
      · have e : true = bigM ts us := by rw [← e, decide_eq_true hbg]; rfl
        repeat' (first | with_reducible refine wo_nil ?_ | ((with_reducible refine wo_any ?_); first | ((with_reducible refine ik_move ?_); refine wo_op rfl (op_move rfl) rfl rfl ?_) | ((with_reducible refine ik_indexAddr ?_); refine wo_op rfl (op_indexAddr rfl rfl e1) rfl rfl ?_) | ((with_reducible refine ik_load ?_); first | refine wo_op rfl (op_ldTr rfl Tryz.underlying58 rfl zs58 (qe3 _ gr_A)) rfl rfl ?_ | refine wo_op rfl (op_ldAt rfl at_A Tryz.underlying52 rfl rfl) rfl rfl ?_ | refine wo_op rfl (op_ldAt rfl at_A Tryz.underlying4 rfl rfl) rfl rfl ?_) | ((with_reducible refine ik_alloc ?_); refine wo_op rfl (op_alloc zz58 zs58 rfl rfl rfl) rfl rfl ?_) | ((with_reducible refine ik_fieldAddr ?_); first | refine wo_op rfl (op_fieldAddr (o := 1) rfl Tryz.underlying54 rfl zs52 rfl) rfl rfl ?_ | refine wo_op rfl (op_fieldAddr (o := 8) rfl Tryz.underlying58 rfl zs4 rfl) rfl rfl ?_) | ((with_reducible refine ik_store ?_); first | refine wo_op0 rfl (op_st1 rfl rfl at_A rfl zs26 rfl rfl rfl) rfl ?_ | refine wo_op0 rfl (op_stAgg rfl rfl at_A zs58 rfl rfl rfl rfl) rfl ?_) | ((with_reducible refine ik_un ?_); refine wo_op rfl (op_not rfl) rfl rfl ?_) | ((with_reducible refine ik_pick ?_); refine wo_op rfl (op_pickt rfl rfl) rfl rfl ?_) | ((with_reducible refine ik_g ?_); first | ((with_reducible refine ig_load ?_); refine wo_grun rfl rfl rfl (op_ldAt rfl at_A Tryz.underlying45 rfl rfl) rfl rfl ?_) | ((with_reducible refine ig_fieldAddr ?_); refine wo_grun rfl rfl rfl (op_fieldAddr (o := 9) rfl Tryz.underlying58 rfl zs45 rfl) rfl rfl ?_) | ((with_reducible refine ig_callb ?_); refine wo_grun rfl rfl rfl (op_lenSl rfl Tryz.underlying45) rfl rfl ?_) | ((with_reducible refine ig_bin ?_); first | refine wo_grun rfl rfl rfl (op_add' rfl rfl (w64 (by omega) (by omega))) rfl rfl ?_ | refine wo_grun rfl rfl rfl (op_gtr rfl rfl) rfl rfl ?_))) | with_reducible refine sq_norm ?_ | with_reducible refine wc_seq ?_ | with_reducible refine wc_region ?_ | with_reducible refine wc_ret ?_ | with_reducible refine wc_block ?_ | with_reducible refine bq_ret ?_ | (refine wc_if rfl (fun hb => ?_) (fun hb => dead_A hb); (try simp only [decide_eq_true_eq, decide_eq_false_iff_not, Bool.not_eq_true', Bool.not_eq_false', Int.not_lt, Int.not_le, Decidable.not_not, not_true_eq_false, not_false_eq_true, beq_self_eq_true, reduceCtorEq] at hb)))
        all_goals exact ⟨_, _, _, _, _, _, At.get (b := h0.nx) (o := .loop .busy none ev _ _ _) at_A, .inr ⟨rfl, wf_A, gr_A, at_A, ⟨_, _, _, _, at_A⟩, e.symm⟩⟩
      · have e : bigM (ts.drop (j + 1)) (us.drop (j + 1)) = bigM ts us := by rw [← e, decide_eq_false hbg]; rfl
        repeat' (first | with_reducible refine wo_nil ?_ | ((with_reducible refine wo_any ?_); first | ((with_reducible refine ik_move ?_); refine wo_op rfl (op_move rfl) rfl rfl ?_) | ((with_reducible refine ik_indexAddr ?_); refine wo_op rfl (op_indexAddr rfl rfl e1) rfl rfl ?_) | ((with_reducible refine ik_load ?_); first | refine wo_op rfl (op_ldTr rfl Tryz.underlying58 rfl zs58 (qe3 _ gr_A)) rfl rfl ?_ | refine wo_op rfl (op_ldAt rfl at_A Tryz.underlying52 rfl rfl) rfl rfl ?_ | refine wo_op rfl (op_ldAt rfl at_A Tryz.underlying4 rfl rfl) rfl rfl ?_) | ((with_reducible refine ik_alloc ?_); refine wo_op rfl (op_alloc zz58 zs58 rfl rfl rfl) rfl rfl ?_) | ((with_reducible refine ik_fieldAddr ?_); first | refine wo_op rfl (op_fieldAddr (o := 1) rfl Tryz.underlying54 rfl zs52 rfl) rfl rfl ?_ | refine wo_op rfl (op_fieldAddr (o := 8) rfl Tryz.underlying58 rfl zs4 rfl) rfl rfl ?_) | ((with_reducible refine ik_store ?_); refine wo_op0 rfl (op_stAgg rfl rfl at_A zs58 rfl rfl rfl rfl) rfl ?_) | ((with_reducible refine ik_un ?_); refine wo_op rfl (op_not rfl) rfl rfl ?_) | ((with_reducible refine ik_pick ?_); refine wo_op rfl (op_pickt rfl rfl) rfl rfl ?_) | ((with_reducible refine ik_g ?_); first | ((with_reducible refine ig_load ?_); refine wo_grun rfl rfl rfl (op_ldAt rfl at_A Tryz.underlying45 rfl rfl) rfl rfl ?_) | ((with_reducible refine ig_fieldAddr ?_); refine wo_grun rfl rfl rfl (op_fieldAddr (o := 9) rfl Tryz.underlying58 rfl zs45 rfl) rfl rfl ?_) | ((with_reducible refine ig_callb ?_); refine wo_grun rfl rfl rfl (op_lenSl rfl Tryz.underlying45) rfl rfl ?_) | ((with_reducible refine ig_bin ?_); first | refine wo_grun rfl rfl rfl (op_add' rfl rfl (w64 (by omega) (by omega))) rfl rfl ?_ | refine wo_grun rfl rfl rfl (op_gtr rfl rfl) rfl rfl ?_))) | with_reducible refine sq_norm ?_ | with_reducible refine wc_seq ?_ | with_reducible refine wc_region ?_ | with_reducible refine wc_skip ?_ | with_reducible refine wc_block ?_ | with_reducible refine bq_norm ?_ | (refine wc_if rfl (fun hb => dead_A hb) (fun hb => ?_); (try simp only [decide_eq_true_eq, decide_eq_false_iff_not, Bool.not_eq_true', Bool.not_eq_false', Int.not_lt, Int.not_le, Decidable.not_not, not_true_eq_false, not_false_eq_true, beq_self_eq_true, reduceCtorEq] at hb)))
        all_goals exact ⟨_, _, _, _, _, _, At.get (b := h0.nx) (o := .loop .busy none ev _ _ _) at_A, .inl ⟨rfl, wf_A, gr_A, (by simp only [H.nx_push, H.nx_set]; omega), at_A, at_A, at_A, at_A, e⟩⟩
  · exact ⟨wf_A, gr_A, (by simp only [H.nx_push]; omega), at_A, at_A, at_A, at_A, rfl⟩
  · rintro _ g (⟨w, gr, nx, b1, b2, b3, b4, e⟩ | ⟨w, gr, b1, ⟨pe, ps, asg, bd, b3⟩, hm5⟩)
    · rw [List.drop_eq_nil_of_le (by omega), List.drop_eq_nil_of_le (by omega)] at e
      have hm5 : bigM ts us = false := by rw [← e]; rfl
      rw [hm5, if_neg (by simp)]
      subst hlp
      refine ⟨_, _, _, _, _, _, b4.get, by simp, ?_⟩
      repeat' (first | with_reducible refine wo_nil ?_ | ((with_reducible refine wo_any ?_); ((with_reducible refine ik_store ?_); refine wo_op0 rfl (op_st1 rfl rfl at_A rfl zs26 rfl rfl rfl) rfl ?_)) | with_reducible refine sq_norm ?_ | with_reducible refine wc_seq ?_ | with_reducible refine wc_region ?_ | with_reducible refine wc_ret ?_ | with_reducible refine bq_norm ?_)
      exact rqc1 rfl (ld1 at_A Tryz.underlying26 rfl rfl) ⟨rfl, gr_A⟩
    · rw [hm5, if_pos rfl]
      refine ⟨_, _, _, _, _, _, b3.get, by simp, ?_⟩
      repeat' (first | with_reducible refine bq_ret ?_ | with_reducible refine sq_ret ?_)
      exact rqc1 rfl (ld1 at_A Tryz.underlying26 rfl rfl) ⟨rfl, gr_A⟩
end Go.Proofs.YtdelgpbfdimefaaGreatDoor

/- Lists joined by the program. -/
namespace Go.Proofs.YtdelgpbfdimefaaGreatDoor
open Go Go.Ab Go.Fl
attribute [local irreducible] SeqQ BlkQ LpQ RetQ Wc Wo WD WX Op1 Op1q Op1a Cf Cl From
attribute [local irreducible] Ieee.Format.order Ieee.Format.read Ieee.Format.nearest Ieee.Format.write Ieee.Format.mul Ieee.Format.div Ieee.Datum.order Ieee.Datum.integral smpE smp smpW K J U trE hdrE lchk firstNZ isNameB wid mism shE offs shortB anyLarge spanE
set_option maxRecDepth 10000
variable {G : Base} {h : H}

theorem op_capNil {M : Mc} {l : KL} {h : H} {x : Operand} {t : TypeId} {n c : Nat} {e1 : TypeId} (hx : val l x = some (.slice none n c)) (hu : M.P.underlying t = some (.slice e1)) : Op1 M (.call ⟨.builtin .cap, #[x], #[t]⟩) l h (.int .i64 c) h :=
  op_blt fun e he => by simp [aop, he.val (x := x) (by simp [Op.operands, Call.operands]) hx, hu]
theorem app_room {N : Nat} (hN : 0 < N) (hN2 : N < 1000000) (h : H) : aappend (mz G).P (mz G).G h 25 3 (.slice none 0 0) (.int .i64 (N : Nat)) = some (.slice (some ⟨h.nx, 0, some 0⟩) N N, h.push (.cells (List.replicate N (.int .i64 0)) 3 1 true)) := by
  have e1 : (mz G).P.underlying 25 = some (.slice 3) := Tryz.underlying25
  have e2 : tsz (mz G).P 3 = some 1 := zs3
  have e3 : tby (mz G).P 3 = some 8 := zb3
  have e4 : tzero (mz G).P 3 = some (.int .i64 0) := zz3
  have e5 : (mz G).P.underlying 3 = some (.int .i64) := Tryz.underlying3
  have ha : anews (mz G).P (mz G).G h 3 1 (Value.int .i64 0).cells.toList (.int .i64 (N : Nat)) = some (N, List.replicate N (.int .i64 0)) := by
    unfold anews
    rw [e5]
    simp only
    rw [decide_eq_true ⟨by omega, by omega⟩]
    simp only [Int.toNat_natCast]
    rw [show (Value.int IntKind.i64 0).cells.toList = [.int .i64 0] from rfl, repeatCells_one]
  unfold aappend
  simp only [e1, e2, e3, e4, ha]
  have hc : (gd (Value.int .i64 0) && Nat.beq (Value.int .i64 0).cells.size 1 && !(Nat.beq 1 0) && !(Nat.beq 8 0) && Nat.ble ((0 + N) * 8) 70368744177664 && (List.replicate N (Value.int .i64 0)).all one && Nat.beq (List.replicate N (Value.int .i64 0)).length (N * 1)) = true := by
    have h1 : (List.replicate N (Value.int .i64 0)).all one = true := by rw [List.all_eq_true]; intro x hx; rw [List.eq_of_mem_replicate hx]; rfl
    rw [h1, ble_dec, decide_eq_true (by omega), List.length_replicate, Nat.mul_one, nbeq_self]; rfl
  rw [hc]
  have hb : Nat.ble (0 + N) 0 = false := by rw [ble_dec]; simp; omega
  simp only [hb]
  have : afirst (mz G).G h 1 0 (.slice none 0 0) = some [] := rfl
  simp only [this, List.nil_append]
  unfold agrow
  simp only [List.length_replicate, Nat.zero_add, Nat.mul_one, nbeq_self]
set_option maxHeartbeats 4000000 in
theorem c162 {N : Nat} (hN : 0 < N) (hN2 : N < 1000000) : Cf (mz G) (.func (.func 162) #[] #[]) [.slice none 0 0, .int .i64 (N : Nat)] h fun r h' => r = .slice (some ⟨h.nx, 0, some 0⟩) 0 N ∧ h' = h.push (.cells (List.replicate N (.int .i64 0)) 3 1 true) := by
  have hsl : Sl (mz G).G (h.push (.cells (List.replicate N (.int .i64 0)) 3 1 true)) 1 (.slice (some ⟨h.nx, 0, some 0⟩) N N) N (List.replicate N (.int .i64 0)) := Sl.ofAt (At.new _ _) (by simp) (Nat.le_refl _)
  have e25 : (mz G).P.underlying 25 = some (.slice 3) := Tryz.underlying25
  have ez : tsz (mz G).P 3 = some 1 := zs3
  have hs1 : aslice (mz G).P h 25 (.slice none 0 0) none (some (.int .i64 0)) none = some (.slice none 0 0) := by
    unfold aslice; rw [e25]; simp [optInt, ez, asInt?]
  have hs2 : aslice (mz G).P (h.push (.cells (List.replicate N (.int .i64 0)) 3 1 true)) 25 (.slice (some ⟨h.nx, 0, some 0⟩) N N) none (some (.int .i64 0)) none = some (.slice (some ⟨h.nx, 0, some 0⟩) 0 N) := by
    have hg := (At.new h (.cells (List.replicate N (.int .i64 0)) 3 1 true)).get
    have hb : Nat.beq N 0 = false := by rw [beq_dec]; simp; omega
    unfold aslice; rw [e25]
    simp [optInt, ez, asInt?, hg, nbeq_self, hb, aadd]
  refine cf_enter0 27 [.tmp 4] Tryz.func162 rfl rfl rfl rfl ?_
  repeat' (first | with_reducible refine wo_nil ?_ | ((with_reducible refine wo_any ?_); first | ((with_reducible refine ik_move ?_); refine wo_op rfl (op_move rfl) rfl rfl ?_) | ((with_reducible refine ik_assign ?_); refine wo_op rfl (op_assign rfl) rfl rfl ?_) | ((with_reducible refine ik_callb ?_); first | refine wo_op rfl (op_capNil rfl Tryz.underlying25) rfl rfl ?_ | refine wo_op rfl (op_append rfl rfl (app_room hN hN2 _)) rfl rfl ?_ | refine wo_op rfl (op_lenSl rfl Tryz.underlying25) rfl rfl ?_) | ((with_reducible refine ik_slice ?_); first | refine wo_op rfl (op_slice rfl rfl rfl rfl hs1) rfl rfl ?_ | refine wo_op rfl (op_slice rfl rfl rfl rfl hs2) rfl rfl ?_) | ((with_reducible refine ik_bin ?_); first | refine wo_op rfl (op_lss rfl rfl) rfl rfl ?_ | refine wo_op rfl (op_sub' rfl rfl (w64 (by omega) (by omega))) rfl rfl ?_ | refine wo_op rfl (op_gtr rfl rfl) rfl rfl ?_)) | with_reducible refine sq_norm ?_ | with_reducible refine wc_seq ?_ | with_reducible refine wc_region ?_ | with_reducible refine wc_skip ?_ | with_reducible refine wc_ret ?_ | refine wc_iff rfl ?_ | (refine wc_if rfl (fun hb => ?_) (fun hb => dead_A hb); (try simp only [decide_eq_true_eq, decide_eq_false_iff_not, Bool.not_eq_true', Bool.not_eq_false', Int.not_lt, Int.not_le, Decidable.not_not, not_true_eq_false, not_false_eq_true, beq_self_eq_true, reduceCtorEq] at hb)))
  all_goals exact rq1 rfl ⟨rfl, rfl⟩
set_option maxHeartbeats 4000000 in
theorem c162z : Cf (mz G) (.func (.func 162) #[] #[]) [.slice none 0 0, .int .i64 0] h fun r h' => r = .slice none 0 0 ∧ h = h' := by
  refine cf_enter0 27 [.tmp 4] Tryz.func162 rfl rfl rfl rfl ?_
  repeat' (first | with_reducible refine wo_nil ?_ | ((with_reducible refine wo_any ?_); first | ((with_reducible refine ik_move ?_); refine wo_op rfl (op_move rfl) rfl rfl ?_) | ((with_reducible refine ik_assign ?_); refine wo_op rfl (op_assign rfl) rfl rfl ?_) | ((with_reducible refine ik_callb ?_); first | refine wo_op rfl (op_capNil rfl Tryz.underlying25) rfl rfl ?_ | refine wo_op rfl (op_lenSl rfl Tryz.underlying25) rfl rfl ?_) | ((with_reducible refine ik_bin ?_); first | refine wo_op rfl (op_lss rfl rfl) rfl rfl ?_ | refine wo_op rfl (op_sub' rfl rfl (w64 (by omega) (by omega))) rfl rfl ?_ | refine wo_op rfl (op_gtr rfl rfl) rfl rfl ?_)) | with_reducible refine sq_norm ?_ | with_reducible refine wc_seq ?_ | with_reducible refine wc_region ?_ | with_reducible refine wc_skip ?_ | with_reducible refine wc_ret ?_ | refine wc_iff rfl ?_)
  all_goals exact rq1 rfl ⟨rfl, rfl⟩
theorem app_in {g0 h : H} {b n m N : Nat} {c new : List Value} {sf : Bool} {w : Value} (hat : At h b (.cells c 3 1 sf)) (hcl : c.length = N) (hnm : n + m ≤ N) (hN : N < 1000000) (sl : Sl G h 1 w m new) (hone : new.all one = true) (hg : Grow g0 h) (hb : g0.nx ≤ b) :
    ∃ r h2, aappend (mz G).P (mz G).G h 25 25 (.slice (some ⟨b, 0, some 0⟩) n N) w = some (r, h2) ∧ (r = .slice (some ⟨b, 0, some 0⟩) (n + m) N ∧ At h2 b (.cells (c.take n ++ (new ++ c.drop (n + m))) 3 1 sf) ∧ Grow g0 h2 ∧ (Wf h → Wf h2) ∧ h.nx ≤ h2.nx) := by
  have e1 : (mz G).P.underlying 25 = some (.slice 3) := Tryz.underlying25
  have e2 : tsz (mz G).P 3 = some 1 := zs3
  have e3 : tby (mz G).P 3 = some 8 := zb3
  have e4 : tzero (mz G).P 3 = some (.int .i64 0) := zz3
  have hlen := sl.length
  have hf := (Sl.first (M := mz G) sl)
  obtain ⟨wa, wc, rfl⟩ := sl.form
  have ha : anews (mz G).P (mz G).G h 25 1 (Value.int .i64 0).cells.toList (.slice wa m wc) = some (m, new) := by
    unfold anews
    rw [e1]
    simp only [alen, hf]
  have hc : (gd (Value.int .i64 0) && Nat.beq (Value.int .i64 0).cells.size 1 && !(Nat.beq 1 0) && !(Nat.beq 8 0) && Nat.ble ((n + m) * 8) 70368744177664 && new.all one && Nat.beq new.length (m * 1)) = true := by
    rw [hone, ble_dec, decide_eq_true (by omega), hlen, nbeq_self]; rfl
  have hb1 : Nat.ble (n + m) N = true := by rw [ble_dec, decide_eq_true hnm]
  by_cases hm : m = 0
  · subst hm
    have hn0 : new = [] := by simpa using hlen
    subst hn0
    refine ⟨.slice (some ⟨b, 0, some 0⟩) (n + 0) N, h, ?_, rfl, by rw [List.nil_append, Nat.add_zero, List.take_append_drop]; exact hat, hg, id, Nat.le_refl _⟩
    unfold aappend
    simp only [e1, e2, e3, e4, ha, hc, hb1]
    try rfl
  · have hb2 : Nat.beq m 0 = false := by rw [beq_dec]; simpa using hm
    have hs : asto h (aadd ⟨b, 0, some 0⟩ (n * 1)) new = some (h.set b (.cells (c.take n ++ (new ++ c.drop (n + m))) 3 1 sf)) := by
      simp only [asto, aadd, Nat.zero_add, Nat.mul_one, hat.get, hone, Bool.and_true]
      rw [ble_dec, decide_eq_true (by omega), show new.length = m by omega]
    refine ⟨.slice (some ⟨b, 0, some 0⟩) (n + m) N, h.set b (.cells (c.take n ++ (new ++ c.drop (n + m))) 3 1 sf), ?_, rfl, At.lay hat.lt, hg.set hb hat.lt _, fun w => w.set hat.lt _, Nat.le_refl _⟩
    unfold aappend
    simp only [e1, e2, e3, e4, ha, hc, hb1, hb2, hs]
theorem app_nil0 {h : H} {w : Value} (sl : Sl G h 1 w 0 []) : aappend (mz G).P (mz G).G h 25 25 (.slice none 0 0) w = some (.slice none 0 0, h) := by
  have e1 : (mz G).P.underlying 25 = some (.slice 3) := Tryz.underlying25
  have e2 : tsz (mz G).P 3 = some 1 := zs3
  have e3 : tby (mz G).P 3 = some 8 := zb3
  have e4 : tzero (mz G).P 3 = some (.int .i64 0) := zz3
  have hf := (Sl.first (M := mz G) sl)
  obtain ⟨wa, wc, rfl⟩ := sl.form
  have ha : anews (mz G).P (mz G).G h 25 1 (Value.int .i64 0).cells.toList (.slice wa 0 wc) = some (0, []) := by
    unfold anews
    rw [e1]
    simp only [alen, hf]
  unfold aappend
  simp only [e1, e2, e3, e4, ha]
  rfl
set_option maxHeartbeats 4000000 in
theorem c115 {b n1 c1 n2 c2 : Nat} {a1 a2 : Option Addr} {l1 l2 : List Int} (hat : At h b (.cells [.slice a1 n1 c1, .slice a2 n2 c2] 25 1 false)) (s1 : Sl G h 1 (.slice a1 n1 c1) n1 (l1.map (.int .i64))) (s2 : Sl G h 1 (.slice a2 n2 c2) n2 (l2.map (.int .i64))) (hn : n1 + n2 < 1000000) (hw : Wf h) :
    Cf (mz G) (.func (.func 115) #[] #[]) [.slice (some ⟨b, 0, some 0⟩) 2 2] h fun r h' => (∃ a c, r = .slice a (n1 + n2) c ∧ Sl G h' 1 (.slice a (n1 + n2) c) (n1 + n2) ((l1 ++ l2).map (.int .i64))) ∧ Grow h h' := by
  have hl1 := s1.length
  have hl2 := s2.length
  simp at hl1 hl2
  refine cf_enter0 36 [.tmp 2] Tryz.func115 rfl rfl rfl rfl ?_
  repeat' (first | with_reducible refine wo_nil ?_ | ((with_reducible refine wo_any ?_); first | ((with_reducible refine ik_move ?_); refine wo_op rfl (op_move rfl) rfl rfl ?_) | ((with_reducible refine ik_assign ?_); refine wo_op rfl (op_assign rfl) rfl rfl ?_) | ((with_reducible refine ik_callb ?_); refine wo_op rfl (op_lenSl rfl Tryz.underlying222) rfl rfl ?_)) | with_reducible refine sq_norm ?_ | with_reducible refine wc_seq ?_ | with_reducible refine wc_region ?_ | with_reducible refine wc_block ?_)
  refine wc_loop (fun p => 2 - p.1) (fun p : Nat × Nat => [(0, .slice (some ⟨b, 0, some 0⟩) 2 2), (3, .int .i64 (p.2 : Nat)), (9, .slice (some ⟨b, 0, some 0⟩) 2 2), (10, .int .i64 2), (11, .int .i64 (p.1 : Nat))]) (fun p h' => h' = h ∧ ((p.1 = 0 ∧ p.2 = 0) ∨ (p.1 = 1 ∧ p.2 = n1) ∨ (p.1 = 2 ∧ p.2 = n1 + n2))) (0, 0) (within_lk ⟨rfl, rfl, rfl, rfl, rfl, trivial⟩) ⟨rfl, .inl ⟨rfl, rfl⟩⟩ ?_
  rintro ⟨k, S⟩ h' ⟨rfl, hkS⟩
  simp only at hkS
  rcases hkS with ⟨rfl, rfl⟩ | ⟨rfl, rfl⟩ | ⟨rfl, rfl⟩
  · repeat' (first | with_reducible refine wo_nil ?_ | ((with_reducible refine wo_any ?_); first | ((with_reducible refine ik_move ?_); refine wo_op rfl (op_move rfl) rfl rfl ?_) | ((with_reducible refine ik_assign ?_); refine wo_op rfl (op_assign rfl) rfl rfl ?_) | ((with_reducible refine ik_indexAddr ?_); refine wo_op rfl (op_idxSl (o := 0) rfl rfl Tryz.underlying222 zs25 (by omega) (by omega) (by omega)) rfl rfl ?_) | ((with_reducible refine ik_load ?_); refine wo_op rfl (op_ldIdx rfl hat Tryz.underlying25 rfl rfl) rfl rfl ?_) | ((with_reducible refine ik_callb ?_); refine wo_op rfl (op_lenSl rfl Tryz.underlying25) rfl rfl ?_) | ((with_reducible refine ik_bin ?_); first | refine wo_op rfl (op_lss rfl rfl) rfl rfl ?_ | refine wo_op rfl (op_add' rfl rfl (w64 (by omega) (by omega))) rfl rfl ?_)) | with_reducible refine sq_norm ?_ | with_reducible refine wc_seq ?_ | with_reducible refine wc_region ?_ | with_reducible refine wc_skip ?_ | with_reducible refine wc_block ?_ | with_reducible refine bq_norm ?_ | refine wc_ift rfl ?_ | refine wc_iff rfl ?_)
    all_goals exact lq_norm (1, n1) (by simp only; omega) (within_lk ⟨rfl, by simp [lk], rfl, rfl, rfl, trivial⟩) ⟨rfl, .inr (.inl ⟨rfl, rfl⟩)⟩
  · repeat' (first | with_reducible refine wo_nil ?_ | ((with_reducible refine wo_any ?_); first | ((with_reducible refine ik_move ?_); refine wo_op rfl (op_move rfl) rfl rfl ?_) | ((with_reducible refine ik_assign ?_); refine wo_op rfl (op_assign rfl) rfl rfl ?_) | ((with_reducible refine ik_indexAddr ?_); refine wo_op rfl (op_idxSl (o := 1) rfl rfl Tryz.underlying222 zs25 (by omega) (by omega) (by omega)) rfl rfl ?_) | ((with_reducible refine ik_load ?_); refine wo_op rfl (op_ldIdx rfl hat Tryz.underlying25 rfl rfl) rfl rfl ?_) | ((with_reducible refine ik_callb ?_); refine wo_op rfl (op_lenSl rfl Tryz.underlying25) rfl rfl ?_) | ((with_reducible refine ik_bin ?_); first | refine wo_op rfl (op_lss rfl rfl) rfl rfl ?_ | refine wo_op rfl (op_add' rfl rfl (w64 (by omega) (by omega))) rfl rfl ?_)) | with_reducible refine sq_norm ?_ | with_reducible refine wc_seq ?_ | with_reducible refine wc_region ?_ | with_reducible refine wc_skip ?_ | with_reducible refine wc_block ?_ | with_reducible refine bq_norm ?_ | refine wc_ift rfl ?_ | refine wc_iff rfl ?_)
    all_goals exact lq_norm (2, S + n2) (by simp only; omega) (within_lk ⟨rfl, rfl, rfl, rfl, rfl, trivial⟩) ⟨rfl, .inr (.inr ⟨rfl, rfl⟩)⟩
  by_cases hN : n1 + n2 = 0
  · have z1 : n1 = 0 := by omega
    have z2 : n2 = 0 := by omega
    subst z1 z2
    have y1 : l1 = [] := List.length_eq_zero_iff.1 hl1
    have y2 : l2 = [] := List.length_eq_zero_iff.1 hl2
    subst y1 y2
    repeat' (first | with_reducible refine wo_nil ?_ | ((with_reducible refine wo_any ?_); first | ((with_reducible refine ik_move ?_); refine wo_op rfl (op_move rfl) rfl rfl ?_) | ((with_reducible refine ik_assign ?_); refine wo_op rfl (op_assign rfl) rfl rfl ?_) | ((with_reducible refine ik_callb ?_); refine wo_op rfl (op_lenSl rfl Tryz.underlying222) rfl rfl ?_) | ((with_reducible refine ik_bin ?_); refine wo_op rfl (op_lss rfl rfl) rfl rfl ?_) | ((with_reducible refine ik_callF (f := 162) ?_); (refine wo_call rfl rfl rfl rfl (c162z) rfl rfl ?_; rintro _ _ ⟨rfl, rfl⟩; all_goals ((try (have hqn := hq.nx)); (try simp only [H.nx_push, H.nx_set, H.nx_bump] at hqn))))) | with_reducible refine sq_norm ?_ | with_reducible refine wc_seq ?_ | with_reducible refine wc_region ?_ | with_reducible refine wc_exit ?_ | with_reducible refine wc_block ?_ | with_reducible refine sq_exit ?_ | with_reducible refine lq_exit ?_ | refine bq_eq rfl ?_ | refine wc_iff rfl ?_)
    refine wc_loop (fun k => 2 - k) (fun k : Nat => [(6, .slice none 0 0), (25, .slice (some ⟨b, 0, some 0⟩) 2 2), (26, .int .i64 2), (27, .int .i64 k)]) (fun k g => g = h' ∧ k ≤ 2) 0 (within_lk ⟨rfl, rfl, rfl, rfl, trivial⟩) ⟨rfl, by omega⟩ ?_
    rintro k g ⟨rfl, hk⟩
    rcases (by omega : k = 0 ∨ k = 1 ∨ k = 2) with rfl | rfl | rfl
    · repeat' (first | with_reducible refine wo_nil ?_ | ((with_reducible refine wo_any ?_); first | ((with_reducible refine ik_move ?_); refine wo_op rfl (op_move rfl) rfl rfl ?_) | ((with_reducible refine ik_assign ?_); refine wo_op rfl (op_assign rfl) rfl rfl ?_) | ((with_reducible refine ik_indexAddr ?_); refine wo_op rfl (op_idxSl (o := 0) rfl rfl Tryz.underlying222 zs25 (by omega) (by omega) (by omega)) rfl rfl ?_) | ((with_reducible refine ik_load ?_); refine wo_op rfl (op_ldIdx rfl hat Tryz.underlying25 rfl rfl) rfl rfl ?_) | ((with_reducible refine ik_callb ?_); refine wo_op rfl (op_append rfl rfl (app_nil0 s1)) rfl rfl ?_) | ((with_reducible refine ik_bin ?_); first | refine wo_op rfl (op_lss rfl rfl) rfl rfl ?_ | refine wo_op rfl (op_add' rfl rfl (w64 (by omega) (by omega))) rfl rfl ?_)) | with_reducible refine sq_norm ?_ | with_reducible refine wc_seq ?_ | with_reducible refine wc_region ?_ | with_reducible refine wc_skip ?_ | with_reducible refine wc_block ?_ | with_reducible refine bq_norm ?_ | refine wc_ift rfl ?_)
      all_goals exact lq_norm 1 (by omega) (within_lk ⟨rfl, rfl, rfl, rfl, trivial⟩) ⟨rfl, by omega⟩
    · repeat' (first | with_reducible refine wo_nil ?_ | ((with_reducible refine wo_any ?_); first | ((with_reducible refine ik_move ?_); refine wo_op rfl (op_move rfl) rfl rfl ?_) | ((with_reducible refine ik_assign ?_); refine wo_op rfl (op_assign rfl) rfl rfl ?_) | ((with_reducible refine ik_indexAddr ?_); refine wo_op rfl (op_idxSl (o := 1) rfl rfl Tryz.underlying222 zs25 (by omega) (by omega) (by omega)) rfl rfl ?_) | ((with_reducible refine ik_load ?_); refine wo_op rfl (op_ldIdx rfl hat Tryz.underlying25 rfl rfl) rfl rfl ?_) | ((with_reducible refine ik_callb ?_); refine wo_op rfl (op_append rfl rfl (app_nil0 s2)) rfl rfl ?_) | ((with_reducible refine ik_bin ?_); first | refine wo_op rfl (op_lss rfl rfl) rfl rfl ?_ | refine wo_op rfl (op_add' rfl rfl (w64 (by omega) (by omega))) rfl rfl ?_)) | with_reducible refine sq_norm ?_ | with_reducible refine wc_seq ?_ | with_reducible refine wc_region ?_ | with_reducible refine wc_skip ?_ | with_reducible refine wc_block ?_ | with_reducible refine bq_norm ?_ | refine wc_ift rfl ?_)
      all_goals exact lq_norm 2 (by omega) (within_lk ⟨rfl, rfl, rfl, rfl, trivial⟩) ⟨rfl, by omega⟩
    · repeat' (first | with_reducible refine wo_nil ?_ | ((with_reducible refine wo_any ?_); first | ((with_reducible refine ik_move ?_); refine wo_op rfl (op_move rfl) rfl rfl ?_) | ((with_reducible refine ik_assign ?_); refine wo_op rfl (op_assign rfl) rfl rfl ?_) | ((with_reducible refine ik_bin ?_); refine wo_op rfl (op_lss rfl rfl) rfl rfl ?_)) | with_reducible refine sq_norm ?_ | with_reducible refine wc_seq ?_ | with_reducible refine wc_region ?_ | with_reducible refine wc_ret ?_ | with_reducible refine wc_exit ?_ | with_reducible refine sq_exit ?_ | with_reducible refine lq_exit ?_ | refine bq_eq rfl ?_ | refine wc_iff rfl ?_)
      all_goals exact rq1 rfl ⟨⟨_, _, rfl, .nil⟩, .refl _⟩
  · have q162 := c162 (G := G) (h := h') (N := n1 + n2) (by omega) (by omega)
    obtain ⟨N, hNe⟩ : ∃ N, n1 + n2 = N := ⟨_, rfl⟩
    rw [hNe] at q162 hn hN ⊢
    repeat' (first | with_reducible refine wo_nil ?_ | ((with_reducible refine wo_any ?_); first | ((with_reducible refine ik_move ?_); refine wo_op rfl (op_move rfl) rfl rfl ?_) | ((with_reducible refine ik_assign ?_); refine wo_op rfl (op_assign rfl) rfl rfl ?_) | ((with_reducible refine ik_callb ?_); refine wo_op rfl (op_lenSl rfl Tryz.underlying222) rfl rfl ?_) | ((with_reducible refine ik_bin ?_); refine wo_op rfl (op_lss rfl rfl) rfl rfl ?_) | ((with_reducible refine ik_callv ?_); (refine wo_call rfl rfl rfl rfl (q162) rfl rfl ?_; rintro _ _ ⟨rfl, rfl⟩; all_goals ((try (have hqn := hq.nx)); (try simp only [H.nx_push, H.nx_set, H.nx_bump] at hqn))))) | with_reducible refine sq_norm ?_ | with_reducible refine wc_seq ?_ | with_reducible refine wc_region ?_ | with_reducible refine wc_exit ?_ | with_reducible refine wc_block ?_ | with_reducible refine sq_exit ?_ | with_reducible refine lq_exit ?_ | refine bq_eq rfl ?_ | refine wc_iff rfl ?_)
    refine wc_loop (fun p => 2 - p.1) (fun p : Nat × Nat × List Int => [(6, .slice (some ⟨h'.nx, 0, some 0⟩) p.2.1 N), (25, .slice (some ⟨b, 0, some 0⟩) 2 2), (26, .int .i64 2), (27, .int .i64 (p.1 : Nat))]) (fun p g => Wf g ∧ Grow h' g ∧ At g h'.nx (.cells (p.2.2.map (.int .i64) ++ List.replicate (N - p.2.1) (.int .i64 0)) 3 1 true) ∧ ((p.1 = 0 ∧ p.2.1 = 0 ∧ p.2.2 = []) ∨ (p.1 = 1 ∧ p.2.1 = n1 ∧ p.2.2 = l1) ∨ (p.1 = 2 ∧ p.2.1 = N ∧ p.2.2 = l1 ++ l2))) (0, 0, []) (within_lk ⟨rfl, rfl, rfl, rfl, trivial⟩) ⟨wf_A, gr_A, at_A, .inl ⟨rfl, rfl, rfl⟩⟩ ?_
    rintro ⟨k, S, L⟩ g ⟨wg, gg0, aB, hkS⟩
    simp only at hkS aB
    rcases hkS with ⟨rfl, rfl, rfl⟩ | ⟨rfl, rfl, rfl⟩ | ⟨rfl, rfl, rfl⟩
    · have qin := fun (g : H) (at1 : At g h'.nx (.cells (([] : List Int).map (.int .i64) ++ List.replicate (N - 0) (.int .i64 0)) 3 1 true)) (gr : Grow h' g) => app_in (n := 0) (N := N) at1 (by simp) (by omega) hn (s1.grow gr) (all_one_map (fun _ => rfl) l1) gr (Nat.le_refl _)
      repeat' (first | with_reducible refine wo_nil ?_ | ((with_reducible refine wo_any ?_); first | ((with_reducible refine ik_move ?_); refine wo_op rfl (op_move rfl) rfl rfl ?_) | ((with_reducible refine ik_assign ?_); refine wo_op rfl (op_assign rfl) rfl rfl ?_) | ((with_reducible refine ik_indexAddr ?_); refine wo_op rfl (op_idxSl (o := 0) rfl rfl Tryz.underlying222 zs25 (by omega) (by omega) (by omega)) rfl rfl ?_) | ((with_reducible refine ik_load ?_); refine wo_op rfl (op_ldIdx rfl at_A Tryz.underlying25 rfl rfl) rfl rfl ?_) | ((with_reducible refine ik_bin ?_); first | refine wo_op rfl (op_lss rfl rfl) rfl rfl ?_ | refine wo_op rfl (op_add' rfl rfl (w64 (by omega) (by omega))) rfl rfl ?_)) | with_reducible refine sq_norm ?_ | with_reducible refine wc_seq ?_ | with_reducible refine wc_region ?_ | with_reducible refine wc_skip ?_ | with_reducible refine wc_block ?_ | with_reducible refine bq_norm ?_ | refine wc_ift rfl ?_ | ((with_reducible refine wo_any ?_); (with_reducible refine ik_callb ?_); refine wo_opx rfl (opx_app rfl rfl (qin _ at_A gr_A)) rfl rfl ?_; rintro _ _ ⟨rfl, atB, gg, ww, nn⟩))
      all_goals
        refine lq_norm (1, n1, l1) (by simp only; omega) (within_lk ⟨by simp [lk], rfl, rfl, rfl, trivial⟩) ⟨ww wg, gg, ?_, .inr (.inl ⟨rfl, rfl, rfl⟩)⟩
        simpa using atB
    · have qin := fun (g : H) (at1 : At g h'.nx (.cells (L.map (.int .i64) ++ List.replicate (N - S) (.int .i64 0)) 3 1 true)) (gr : Grow h' g) => app_in (n := S) (N := N) at1 (by simp; omega) (by omega) hn (s2.grow gr) (all_one_map (fun _ => rfl) l2) gr (Nat.le_refl _)
      repeat' (first | with_reducible refine wo_nil ?_ | ((with_reducible refine wo_any ?_); first | ((with_reducible refine ik_move ?_); refine wo_op rfl (op_move rfl) rfl rfl ?_) | ((with_reducible refine ik_assign ?_); refine wo_op rfl (op_assign rfl) rfl rfl ?_) | ((with_reducible refine ik_indexAddr ?_); refine wo_op rfl (op_idxSl (o := 1) rfl rfl Tryz.underlying222 zs25 (by omega) (by omega) (by omega)) rfl rfl ?_) | ((with_reducible refine ik_load ?_); refine wo_op rfl (op_ldIdx rfl at_A Tryz.underlying25 rfl rfl) rfl rfl ?_) | ((with_reducible refine ik_bin ?_); first | refine wo_op rfl (op_lss rfl rfl) rfl rfl ?_ | refine wo_op rfl (op_add' rfl rfl (w64 (by omega) (by omega))) rfl rfl ?_)) | with_reducible refine sq_norm ?_ | with_reducible refine wc_seq ?_ | with_reducible refine wc_region ?_ | with_reducible refine wc_skip ?_ | with_reducible refine wc_block ?_ | with_reducible refine bq_norm ?_ | refine wc_ift rfl ?_ | ((with_reducible refine wo_any ?_); (with_reducible refine ik_callb ?_); refine wo_opx rfl (opx_app rfl rfl (qin _ at_A gr_A)) rfl rfl ?_; rintro _ _ ⟨rfl, atB, gg, ww, nn⟩))
      all_goals
        subst hNe
        refine lq_norm (2, S + n2, L ++ l2) (by simp only; omega) (within_lk ⟨rfl, rfl, rfl, rfl, trivial⟩) ⟨ww wg, gg, ?_, .inr (.inr ⟨rfl, rfl, rfl⟩)⟩
        have e1 : (L.map (Value.int .i64) ++ List.replicate (S + n2 - S) (Value.int .i64 0)).take S = L.map (Value.int .i64) := by rw [List.take_append_of_le_length (by simp; omega), List.take_of_length_le (by simp; omega)]
        have e2 : (L.map (Value.int .i64) ++ List.replicate (S + n2 - S) (Value.int .i64 0)).drop (S + n2) = [] := List.drop_eq_nil_of_le (by simp; omega)
        rw [e1, e2] at atB
        simpa using atB
    · repeat' (first | with_reducible refine wo_nil ?_ | ((with_reducible refine wo_any ?_); first | ((with_reducible refine ik_move ?_); refine wo_op rfl (op_move rfl) rfl rfl ?_) | ((with_reducible refine ik_assign ?_); refine wo_op rfl (op_assign rfl) rfl rfl ?_) | ((with_reducible refine ik_bin ?_); refine wo_op rfl (op_lss rfl rfl) rfl rfl ?_)) | with_reducible refine sq_norm ?_ | with_reducible refine wc_seq ?_ | with_reducible refine wc_region ?_ | with_reducible refine wc_ret ?_ | with_reducible refine wc_exit ?_ | with_reducible refine sq_exit ?_ | with_reducible refine lq_exit ?_ | refine bq_eq rfl ?_ | refine wc_iff rfl ?_)
      all_goals
        rw [Nat.sub_self, List.replicate_zero, List.append_nil] at aB
        exact rq1 rfl ⟨⟨_, _, rfl, Sl.ofAt aB (by simp; omega) (Nat.le_refl _)⟩, gg0⟩
set_option maxHeartbeats 4000000 in
theorem join_ok : ∀ h, InOk G h (.func (.func 114) #[] #[]) (fun l y => l.length + y.length ≤ 100000 ∧ (∀ x ∈ l, x.natAbs ≤ 16384) ∧ ∀ x ∈ y, x.natAbs ≤ 16384) (fun l y => l ++ y) := by
  rintro h l y ⟨p1, p2, p3⟩
  refine ⟨⟨by simp; omega, fun x hx => ?_⟩, fun g0 g b g1 w0 g2 at1 aty _ => ?_⟩
  · rcases List.mem_append.1 hx with q | q
    · have := p2 x q; omega
    · have := p3 x q; omega
  · have w := g2.wf w0
    have sl : Sl G g 1 (.slice (some ⟨b, 0, some 0⟩) y.length y.length) y.length (y.map (.int .i64)) := Sl.ofAt aty (by simp) (Nat.le_refl _)
    have s1 : Sl G g 1 (.slice (some ⟨g0.nx, 0, some 0⟩) l.length l.length) l.length (l.map (.int .i64)) := Sl.ofAt at1 (by simp) (Nat.le_refl _)
    have q115 := fun (g3 : H) (b' : Nat) (gg : Grow g g3) (w3 : Wf g3) (at2 : At g3 b' (.cells [.slice (some ⟨g0.nx, 0, some 0⟩) l.length l.length, .slice (some ⟨b, 0, some 0⟩) y.length y.length] 25 1 false)) => c115 at2 (s1.grow gg) (sl.grow gg) (by omega) w3
    rw [← List.length_append] at q115
    refine cf_enter0 9 [.tmp 4] Tryz.func114 rfl rfl rfl rfl ?_
    repeat' (first | with_reducible refine wo_nil ?_ | ((with_reducible refine wo_any ?_); first | ((with_reducible refine ik_move ?_); refine wo_op rfl (op_move rfl) rfl rfl ?_) | ((with_reducible refine ik_assign ?_); refine wo_op rfl (op_assign rfl) rfl rfl ?_) | ((with_reducible refine ik_buildSlice ?_); refine wo_op rfl (op_buildSl rfl Tryz.underlying222 zs25 zz25 rfl rfl) rfl rfl ?_) | ((with_reducible refine ik_callv ?_); (refine wo_call rfl rfl rfl rfl (q115 _ _ gr_A wf_A at_A) rfl rfl ?_; rintro _ _ ⟨⟨fa, fc, rfl, hfs⟩, hq⟩; all_goals ((try (have hqn := hq.nx)); (try simp only [H.nx_push, H.nx_set, H.nx_bump] at hqn))))) | with_reducible refine sq_norm ?_ | with_reducible refine wc_seq ?_ | with_reducible refine wc_region ?_ | with_reducible refine wc_ret ?_)
    all_goals exact rq1 rfl ⟨⟨_, _, rfl, hfs⟩, gr_A⟩
end Go.Proofs.YtdelgpbfdimefaaGreatDoor

/- Shots joined by the program. -/
namespace Go.Proofs.YtdelgpbfdimefaaGreatDoor
open Go Go.Ab Go.Fl
attribute [local irreducible] SeqQ BlkQ LpQ RetQ Wc Wo WD WX Op1 Op1q Op1a Cf Cl From
attribute [local irreducible] Ieee.Format.order Ieee.Format.read Ieee.Format.nearest Ieee.Format.write Ieee.Format.mul Ieee.Format.div Ieee.Datum.order Ieee.Datum.integral smpE smp smpW K J U trE hdrE lchk firstNZ isNameB wid mism shE offs shortB anyLarge spanE folE
set_option maxRecDepth 10000
variable {G : Base} {h : H}
def catF (l y : List Int) : List Int := l ++ y
def joinC (nm : ByteArray) (ts : List Trc) (nm' : ByteArray) (us : List Trc) : Int := firstNZ [shE nm ts, shE nm' us, folE ts us]
theorem first3 (a b c : Int) : firstNZ [a, b, c] = if a ≠ 0 then a else if b ≠ 0 then b else c := by
  unfold firstNZ; unfold firstNZ; unfold firstNZ; unfold firstNZ
  by_cases h : a = 0
  · simp only [h]
    by_cases k : b = 0
    · simp only [k]; by_cases q : c = 0 <;> simp [q]
    · simp [k]
  · simp [h]
theorem first3_zero {a b c : Int} (h : firstNZ [a, b, c] = 0) : a = 0 ∧ b = 0 ∧ c = 0 := by
  rw [first3] at h
  split at h
  · exact absurd h (by assumption)
  · split at h
    · exact absurd h (by assumption)
    · rename_i h1 h2
      exact ⟨by simpa using h1, by simpa using h2, h⟩
theorem folE_ok {ts us : List Trc} (h : folE ts us = 0) : ts.length = us.length ∧ folM (wid ts : Nat) ts us = false ∧ bigM ts us = false := by
  unfold folE at h
  by_cases h1 : ts.length ≠ us.length
  · rw [if_pos h1] at h; exact absurd h (by decide)
  rw [if_neg h1] at h
  by_cases h2 : folM (wid ts : Nat) ts us = true
  · rw [if_pos h2] at h; exact absurd h (by decide)
  rw [if_neg h2] at h
  by_cases h3 : bigM ts us = true
  · rw [if_pos h3] at h; exact absurd h (by decide)
  exact ⟨by simpa using h1, by simpa using h2, by simpa using h3⟩
theorem valid_facts {nm : ByteArray} {v : Value} {n : Nat} {ts : List Trc} (s : SlT G h v n ts) (hE : shE nm ts = 0) : (0 < n ∧ n ≤ 64) ∧ (∀ t ∈ ts, t.l.length = t.n) ∧ (∀ t ∈ ts, t.n ≤ 1024) ∧ (∀ t ∈ ts, ∀ x ∈ t.l, smpE x = 0) ∧ (∀ t ∈ ts, t.hole = true → t.n = 0) := by
  obtain ⟨k1, k2, k3, k4, k5⟩ := shE_ok hE
  have hlen := s.len
  have hll : ∀ t ∈ ts, t.l.length = t.n := fun t ht => by simpa using (s.ok t ht).sl.length
  exact ⟨by omega, hll, fun t ht => by have := (lchk_ok (tr_ok (k4 t ht)).2.1).1; have := hll t ht; omega, fun t ht => (lchk_ok (tr_ok (k4 t ht)).2.1).2, fun t ht => (tr_ok (k4 t ht)).2.2⟩
set_option maxHeartbeats 4000000 in
theorem c43 {nm nm' : ByteArray} {a a' : Option Addr} {n m c c' : Nat} {ts us : List Trc} (s : SlT G h (.slice a n c) n ts) (s' : SlT G h (.slice a' m c') m us) (hn : n ≤ 65) (hm : m ≤ 65) (hl : ∀ t ∈ ts, t.n < 1000000) (hl' : ∀ t ∈ us, t.n < 1000000) (hw : Wf h) (hG : ∀ a v, laidBase a = some v → G a = some v) :
    Cf (mz G) (.func (.func 43) #[] #[]) [.agg ⟨shC nm a n c⟩, .agg ⟨shC nm' a' m c'⟩] h fun r h' => ((joinC nm ts nm' us ≠ 0 ∧ r = .tuple #[.agg ⟨zShot⟩, .int .i64 (joinC nm ts nm' us)]) ∨ (joinC nm ts nm' us = 0 ∧ ∃ (B : Nat) (vs : List Trc), r = .tuple #[.agg ⟨shC nm (some ⟨B, 0, some 0⟩) n n⟩, .int .i64 0] ∧ h.nx ≤ B ∧ At h' B (.cells (vs.flatMap Trc.cells) 58 10 false) ∧ (∀ u ∈ vs, TrN h' h.nx u) ∧ KeyAll vs (mskL ts us) (chKey (mrgF catF us)))) ∧ Grow h h' := by
  have q41 := fun (h' : H) (g : Grow h h') (w : Wf h') => c41 (nm := nm) (s.grow g) (by omega) hl w hG
  have q41b := fun (h' : H) (g : Grow h h') (w : Wf h') => c41 (nm := nm') (s'.grow g) (by omega) hl' w hG
  have q112 := fun (h' : H) (g : Grow h h') (w : Wf h') => c112 (nm := nm) (nm' := nm') (s.grow g) (s'.grow g) (by omega) (by omega) hl hl' w
  have hz := fun (q : firstNZ [shE nm ts, shE nm' us, folE ts us] = 0) => first3_zero q
  unfold joinC
  obtain ⟨E, hE⟩ : ∃ E, shE nm ts = E := ⟨_, rfl⟩
  obtain ⟨E', hE'⟩ : ∃ E, shE nm' us = E := ⟨_, rfl⟩
  obtain ⟨S, hS⟩ : ∃ S, folE ts us = S := ⟨_, rfl⟩
  rw [hE] at q41 hz ⊢
  rw [hE'] at q41b hz ⊢
  rw [hS] at q112 hz ⊢
  have q90 := fun (h' : H) (b : Nat) (w : Wf h') (at' : At h' b (.cells [.int .i64 E, .int .i64 E', .int .i64 S] 26 1 false)) => c90 (G := G) (h := h') (es := [E, E', S]) (n := 3) (Sl.ofAt at' rfl (Nat.le_refl _)) (by omega)
  refine cf_enter0 25 [.cell 4 54, .tmp 5] Tryz.func43 rfl rfl rfl rfl ?_
  refine wc_mid (ι := Unit) (fun _ => [(2, .pointer (some ⟨h.nx, 0, some 0⟩)), (3, .pointer (some ⟨h.nx + 1, 0, some 0⟩)), (4, .pointer (some ⟨h.nx + 2, 0, some 0⟩)), (5, .int .i64 0)]) (fun _ h1 => (Wf h1 ∧ Grow h h1 ∧ h.nx + 3 ≤ h1.nx ∧ At h1 h.nx (.cells (shC nm a n c) 54 2 false) ∧ At h1 (h.nx + 1) (.cells (shC nm' a' m c') 54 2 false) ∧ At h1 (h.nx + 2) (.cells zShot 54 2 false))) ?_ ?_
  · repeat' (first | with_reducible refine wo_nil ?_ | ((with_reducible refine wo_any ?_); first | ((with_reducible refine ik_assign ?_); refine wo_op rfl (op_assign rfl) rfl rfl ?_) | ((with_reducible refine ik_box ?_); refine wo_op rfl (op_boxAgg rfl zs54 rfl) rfl rfl ?_) | ((with_reducible refine ik_alloc ?_); refine wo_op rfl (op_alloc zz54 zs54 rfl rfl rfl) rfl rfl ?_)) | with_reducible refine wc_region ?_)
    exact ⟨rfl, (), within_lk ⟨rfl, rfl, rfl, rfl, trivial⟩, wf_A, gr_A, (by simp only [H.nx_push]; omega), at_A, at_A, at_A⟩
  rintro _ h1 ⟨w1, g1, n1, a0, a1, a2⟩
  refine wc_seq ?_
  try refine wc_scope ?_
  refine wc_mid (ι := Unit) (fun _ => [(2, .pointer (some ⟨h.nx, 0, some 0⟩)), (3, .pointer (some ⟨h.nx + 1, 0, some 0⟩)), (4, .pointer (some ⟨h.nx + 2, 0, some 0⟩)), (5, .int .i64 0), (6, .int .i64 (firstNZ [E, E', S]))]) (fun _ h1 => (Wf h1 ∧ Grow h h1 ∧ h.nx + 3 ≤ h1.nx ∧ At h1 h.nx (.cells (shC nm a n c) 54 2 false) ∧ At h1 (h.nx + 1) (.cells (shC nm' a' m c') 54 2 false) ∧ At h1 (h.nx + 2) (.cells zShot 54 2 false))) ?_ ?_
  · repeat' (first | ((with_reducible refine xk_any ?_); first | ((with_reducible refine xk_as0 ?_); first | ((with_reducible refine xk_load ?_); refine wx_h0 (wt_none rfl) rfl (op_q rfl (op_ldAgg rfl at_A Tryz.underlying54 rfl zs54 rfl rfl)) rfl rfl rfl ?_) | ((with_reducible refine xk_buildSlice ?_); refine wx_a0 (wt_none rfl) rfl (oa_buildSlice rfl Tryz.underlying216 zs26 zz26 rfl rfl) rfl rfl ?_) | ((with_reducible refine xk_callv ?_); first | (refine wx_call0 (wt_none rfl) rfl rfl rfl rfl (q41 _ gr_A wf_A) rfl rfl ?_; rintro _ _ ⟨rfl, hq⟩; all_goals ((try (have hqn := hq.nx)); (try simp only [H.nx_push, H.nx_set, H.nx_bump] at hqn))) | (refine wx_call0 (wt_none rfl) rfl rfl rfl rfl (q41b _ gr_A wf_A) rfl rfl ?_; rintro _ _ ⟨rfl, hq⟩; all_goals ((try (have hqn := hq.nx)); (try simp only [H.nx_push, H.nx_set, H.nx_bump] at hqn))) | (refine wx_call0 (wt_none rfl) rfl rfl rfl rfl (q112 _ gr_A wf_A) rfl rfl ?_; rintro _ _ ⟨rfl, hq⟩; all_goals ((try (have hqn := hq.nx)); (try simp only [H.nx_push, H.nx_set, H.nx_bump] at hqn))))) | ((with_reducible refine xk_assign ?_); refine wx_q (wt_none rfl) rfl rfl (op_q rfl (op_assign rfl)) rfl rfl rfl ?_) | ((with_reducible refine xk_callv ?_); ((with_reducible refine xk_as1 ?_); refine wx_e1 (wt_none rfl) rfl rfl rfl (op_call rfl rfl (q90 _ _ wf_A at_A)) rfl rfl ?_)) | refine wx_niln ?_ ?_ rfl rfl ?_) | with_reducible exact obl_nil | with_reducible refine obl_cons ?_ ?_ | ((with_reducible refine ik_obs ?_); first | exact obs_nil | refine obs_skip rfl ?_ | refine obs_chkn rfl rfl (op_q rfl (op_ldAgg rfl at_A Tryz.underlying54 rfl zs54 (by rfl) rfl)) ?_) | with_reducible exact stk_nil | with_reducible refine stk_cons ?_ ?_ | ((with_reducible refine ik_stk ?_); first | exact stk_abs rfl rfl | exact stk_freeB rfl rfl wf_A gr_B) | refine wc_drawB (id := 1) 10 [0, 1, 0, 7, 0, 0, 63, 127, 255, 511] [0, 1, 2, 3, 4, 5, 6, 7, 8, 9] (by kernel_rfl) (by kernel_rfl) rfl rfl ?_)
    exact ⟨rfl, (), within_lk ⟨rfl, rfl, rfl, rfl, rfl, trivial⟩, wf_A, gr_A, (by simp only [H.nx_set]; omega), at_A, at_A, at_A⟩
  clear w1 g1 n1 a0 a1 a2 q41 q41b q112 q90 h1
  rintro _ h1 ⟨w1, g1, n1, a0, a1, a2⟩
  obtain ⟨F, hF⟩ : ∃ F, firstNZ [E, E', S] = F := ⟨_, rfl⟩
  rw [hF] at hz ⊢
  by_cases hF0 : F ≠ 0
  · repeat' (first | with_reducible refine wo_nil ?_ | ((with_reducible refine wo_any ?_); first | ((with_reducible refine ik_move ?_); refine wo_op rfl (op_move rfl) rfl rfl ?_) | ((with_reducible refine ik_assign ?_); refine wo_op rfl (op_assign rfl) rfl rfl ?_) | ((with_reducible refine ik_bin ?_); refine wo_op rfl (op_neq rfl rfl) rfl rfl ?_) | ((with_reducible refine ik_build ?_); refine wo_op rfl (op_buildT rfl zz54 zp54 rfl rfl) rfl rfl ?_) | ((with_reducible refine ik_store ?_); refine wo_op0 rfl (op_stAgg rfl rfl at_A zs54 rfl rfl rfl rfl) rfl ?_)) | with_reducible refine sq_norm ?_ | with_reducible refine wc_seq ?_ | with_reducible refine wc_region ?_ | with_reducible refine wc_ret ?_ | with_reducible refine sq_ret ?_ | (refine wc_if rfl (fun hb => ?_) (fun hb => dead_A hb); (try simp only [decide_eq_true_eq, decide_eq_false_iff_not, Bool.not_eq_true', Bool.not_eq_false', Int.not_lt, Int.not_le, Decidable.not_not, not_true_eq_false, not_false_eq_true, beq_self_eq_true, reduceCtorEq] at hb)))
    all_goals exact rqc2 rfl (ldAgg at_A Tryz.underlying54 rfl zs54 rfl rfl) rfl ⟨.inl ⟨hF0, rfl⟩, gr_A⟩
  have hF0 : F = 0 := by simpa using hF0
  subst hF0
  obtain ⟨rfl, rfl, rfl⟩ := hz rfl
  obtain ⟨z1, z2, z3⟩ := folE_ok hS
  have hnm : n = m := by rw [← s.len, ← s'.len, z1]
  subst hnm
  obtain ⟨v1, v2, v3, v4, v5⟩ := valid_facts s hE
  obtain ⟨v1', v2', v3', v4', v5'⟩ := valid_facts s' hE'
  have q113 := fun (h2 : H) (g : Grow h h2) (w : Wf h2) => (c113 (nm := nm) (nm' := nm') (fI := 114) (s.grow g) (s'.grow g) hn (by omega) hl hl' v4 v4' (fun k q q' hh hh' => by
      have e1 := v2 _ (List.getElem_mem q)
      have e2 := v3 _ (List.getElem_mem q)
      have e3 := v2' _ (List.getElem_mem q')
      have e4 := v3' _ (List.getElem_mem q')
      refine ⟨by simp; omega, fun x hx => ?_, fun x hx => ?_⟩
      · obtain ⟨y, hy, rfl⟩ := List.mem_map.1 hx
        exact smp_le (v4 _ (List.getElem_mem q) y hy)
      · obtain ⟨y, hy, rfl⟩ := List.mem_map.1 hx
        exact smp_le (v4' _ (List.getElem_mem q') y hy)) join_ok w).mono
      (Q' := fun r h' => (∃ (B : Nat) (vs : List Trc), r = .tuple #[.agg ⟨shC nm (some ⟨B, 0, some 0⟩) n n⟩, .int .i64 0] ∧ h2.nx ≤ B ∧ At h' B (.cells (vs.flatMap Trc.cells) 58 10 false) ∧ (∀ u ∈ vs, TrN h' h2.nx u) ∧ KeyAll vs (mskL ts us) (chKey (mrgF catF us))) ∧ Grow h2 h') fun r h' ⟨q, g⟩ => ⟨by
        rcases q with ⟨_, j, qj, _, q2⟩ | ⟨_, q⟩
        · exfalso
          have hj1 : j < ts.length := by rw [mskL_len z1] at qj; exact qj
          have hj2 : j < us.length := by omega
          rw [mskL_get qj hj1 hj2] at q2
          rw [notLarge] at q2
          · cases q2
          · intro x hx
            unfold mrgF at hx
            rw [getL_eq hj2] at hx
            rcases List.mem_append.1 hx with hx | hx
            · obtain ⟨y, hy, rfl⟩ := List.mem_map.1 hx
              exact smp_le (v4 _ (List.getElem_mem hj1) y hy)
            · obtain ⟨y, hy, rfl⟩ := List.mem_map.1 hx
              exact smp_le (v4' _ (List.getElem_mem hj2) y hy)
        · exact q, g⟩
  repeat' (first | with_reducible refine wo_nil ?_ | ((with_reducible refine wo_any ?_); first | ((with_reducible refine ik_move ?_); refine wo_op rfl (op_move rfl) rfl rfl ?_) | ((with_reducible refine ik_assign ?_); refine wo_op rfl (op_assign rfl) rfl rfl ?_) | ((with_reducible refine ik_load ?_); refine wo_op rfl (op_ldAgg rfl at_A Tryz.underlying54 rfl zs54 rfl rfl) rfl rfl ?_) | ((with_reducible refine ik_bin ?_); refine wo_op rfl (op_neq rfl rfl) rfl rfl ?_) | ((with_reducible refine ik_store ?_); refine wo_op0 rfl (op_stAgg rfl rfl at_A zs54 rfl rfl rfl rfl) rfl ?_) | ((with_reducible refine ik_extract ?_); refine wo_op rfl (op_extract rfl rfl) rfl rfl ?_) | ((with_reducible refine ik_callv ?_); (refine wo_call rfl rfl rfl rfl (q113 _ gr_A wf_A) rfl rfl ?_; rintro _ _ ⟨⟨B, vs, rfl, hB, hatB, hvs, hka⟩, hq⟩; all_goals ((try (have hqn := hq.nx)); (try simp only [H.nx_push, H.nx_set, H.nx_bump] at hqn))))) | with_reducible refine sq_norm ?_ | with_reducible refine wc_seq ?_ | with_reducible refine wc_region ?_ | with_reducible refine wc_skip ?_ | with_reducible refine wc_ret ?_ | refine wc_iff rfl ?_)
  all_goals exact rqc2 rfl (ldAgg at_A Tryz.underlying54 rfl zs54 rfl rfl) rfl ⟨.inr ⟨rfl, B, vs, rfl, by omega, at_A, fun u hu => ((hvs u hu).set (by omega) _).le (by omega), hka⟩, gr_A⟩
end Go.Proofs.YtdelgpbfdimefaaGreatDoor

/- What is made: two shots held against one another, with their errors. -/
namespace Go.Proofs.YtdelgpbfdimefaaGreatDoor
open Go Go.Ab Go.Fl
attribute [local irreducible] SeqQ BlkQ LpQ RetQ Wc Wo WD WX Op1 Op1q Op1a Cf Cl From
attribute [local irreducible] Ieee.Format.order Ieee.Format.read Ieee.Format.nearest Ieee.Format.write Ieee.Format.mul Ieee.Format.div Ieee.Datum.order Ieee.Datum.integral smpE smp smpW K J U trE hdrE lchk firstNZ isNameB wid mism shE offs shortB anyLarge spanE folE
set_option maxRecDepth 10000
variable {G : Base} {h : H}
theorem slT_nil : SlT G h (.slice none 0 0) 0 [] := ⟨.nil, rfl, fun _ h => by cases h⟩
set_option maxHeartbeats 4000000 in
theorem c47 {nm : ByteArray} {a a' : Option Addr} {n c c' : Nat} {ts us : List Trc} (s : SlT G h (.slice a n c) n ts) (s' : SlT G h (.slice a' n c') n us) (hn : n ≤ 65) (hl : ∀ t ∈ ts, t.n < 1000000) (q : TrsS ts us) (hw : Wf h) : Cf (mz G) (.func (.func 47) #[] #[]) [.agg ⟨shC nm a n c⟩, .int .i64 0, .int .i64 0, .agg ⟨shC nm a' n c'⟩] h fun r h' => r = .bool true ∧ Grow h h' := by
  have q81 := fun (h2 : H) (g : Grow h h2) (w : Wf h2) => c81 (nm := nm) (s.grow g) hn w
  have q82 := fun (h2 : H) (b : Option Addr) (d : Nat) (st : SlT G h2 (.slice b n d) n ts) (g : Grow h h2) (w : Wf h2) => c82 (nm := nm) st (s'.grow g) (by omega) hl q w
  refine cf_enter0 21 [.tmp 8] Tryz.func47 rfl rfl rfl rfl ?_
  repeat' (first | with_reducible refine wo_nil ?_ | ((with_reducible refine wo_any ?_); first | ((with_reducible refine ik_move ?_); refine wo_op rfl (op_move rfl) rfl rfl ?_) | ((with_reducible refine ik_assign ?_); refine wo_op rfl (op_assign rfl) rfl rfl ?_) | ((with_reducible refine ik_box ?_); refine wo_op rfl (op_boxAgg rfl zs54 rfl) rfl rfl ?_) | ((with_reducible refine ik_bin ?_); refine wo_op rfl (op_neq rfl rfl) rfl rfl ?_)) | ((with_reducible refine xk_any ?_); ((with_reducible refine xk_as0 ?_); first | ((with_reducible refine xk_move ?_); refine wx_q (wt_none rfl) rfl rfl (op_q rfl (op_move rfl)) rfl rfl rfl ?_) | ((with_reducible refine xk_assign ?_); refine wx_q (wt_none rfl) rfl rfl (op_q rfl (op_assign rfl)) rfl rfl rfl ?_) | ((with_reducible refine xk_load ?_); first | refine wx_h0 (wt_none rfl) rfl (op_q rfl (op_ldAgg rfl at_A Tryz.underlying54 rfl zs54 rfl rfl)) rfl rfl rfl ?_ | refine wx_h0 (wt_none rfl) rfl (op_q rfl (op_ldAgg rfl at_A Tryz.underlying43 rfl zs43 rfl rfl)) rfl rfl rfl ?_) | ((with_reducible refine xk_pick ?_); refine wx_q (wt_none rfl) rfl rfl (op_q rfl (op_pickt rfl rfl)) rfl rfl rfl ?_) | ((with_reducible refine xk_callv ?_); first | (refine wx_call0 (wt_none rfl) rfl rfl rfl rfl (q81 _ gr_A wf_A) rfl rfl ?_; rintro _ _ ⟨⟨b, d, rfl, st⟩, hq⟩; all_goals ((try (have hqn := hq.nx)); (try simp only [H.nx_push, H.nx_set, H.nx_bump] at hqn))) | (refine wx_call0 (wt_none rfl) rfl rfl rfl rfl (q82 _ _ _ st gr_A wf_A) rfl rfl ?_; rintro _ _ ⟨rfl, hq⟩; all_goals ((try (have hqn := hq.nx)); (try simp only [H.nx_push, H.nx_set, H.nx_bump] at hqn)))) | ((with_reducible refine xk_g ?_); first | ((with_reducible refine xg_move ?_); refine wx_q (wt_run rfl rfl rfl) rfl rfl (op_q rfl (op_move rfl)) rfl rfl rfl ?_) | ((with_reducible refine xg_bin ?_); refine wx_q (wt_run rfl rfl rfl) rfl rfl (op_q rfl (op_eql rfl rfl)) rfl rfl rfl ?_)) | with_reducible refine wx_nil0 ?_ ?_)) | with_reducible exact obl_nil | with_reducible refine obl_cons ?_ ?_ | ((with_reducible refine ik_obs ?_); first | exact obs_nil | refine obs_skip rfl ?_ | refine obs_chkn rfl rfl (op_q rfl (op_ldAgg rfl at_A Tryz.underlying54 rfl zs54 (by rfl) rfl)) ?_ | refine obs_chkn rfl rfl (op_q rfl (op_ldAgg rfl at_A Tryz.underlying43 rfl zs43 (by rfl) rfl)) ?_) | with_reducible refine sq_norm ?_ | with_reducible refine wc_seq ?_ | with_reducible refine wc_region ?_ | with_reducible refine wc_skip ?_ | with_reducible refine wc_ret ?_ | refine wc_iff rfl ?_ | refine wc_drawB (id := 3) 10 [0, 1, 0, 7, 15, 31, 31, 127, 255, 511] [0, 1, 2, 3, 4, 5, 6, 7, 8, 9] (by kernel_rfl) (by kernel_rfl) rfl rfl ?_)
  all_goals exact rq1 rfl ⟨rfl, gr_A⟩
set_option maxHeartbeats 4000000 in
theorem c47e {nm : ByteArray} {a' : Option Addr} {n c' : Nat} {e : Int} (he : e ≠ 0) (hw : Wf h) : Cf (mz G) (.func (.func 47) #[] #[]) [.agg ⟨zShot⟩, .int .i64 e, .int .i64 e, .agg ⟨shC nm a' n c'⟩] h fun r h' => r = .bool true ∧ Grow h h' := by
  have q81 := fun (h2 : H) (w : Wf h2) => c81 (G := G) (nm := .empty) (h := h2) slT_nil (by omega) w
  have q82 := fun (h2 : H) (b : Option Addr) (d : Nat) (st : SlT G h2 (.slice b 0 d) 0 []) (w : Wf h2) => c82 (G := G) (nm := .empty) (h := h2) st (slT_nil) (by omega) (fun _ q => by cases q) ⟨rfl, fun i q => absurd q (Nat.not_lt_zero i)⟩ w
  refine cf_enter0 21 [.tmp 8] Tryz.func47 rfl rfl rfl rfl ?_
  repeat' (first | with_reducible refine wo_nil ?_ | ((with_reducible refine wo_any ?_); first | ((with_reducible refine ik_move ?_); refine wo_op rfl (op_move rfl) rfl rfl ?_) | ((with_reducible refine ik_assign ?_); refine wo_op rfl (op_assign rfl) rfl rfl ?_) | ((with_reducible refine ik_box ?_); refine wo_op rfl (op_boxAgg rfl zs54 rfl) rfl rfl ?_) | ((with_reducible refine ik_bin ?_); refine wo_op rfl (op_neq rfl rfl) rfl rfl ?_) | ((with_reducible refine ik_build ?_); refine wo_op rfl (op_buildT rfl zz43 zp43 rfl rfl) rfl rfl ?_) | ((with_reducible refine ik_store ?_); refine wo_op0 rfl (op_stAgg rfl rfl at_A zs43 rfl rfl rfl rfl) rfl ?_)) | ((with_reducible refine xk_any ?_); ((with_reducible refine xk_as0 ?_); first | ((with_reducible refine xk_move ?_); refine wx_q (wt_none rfl) rfl rfl (op_q rfl (op_move rfl)) rfl rfl rfl ?_) | ((with_reducible refine xk_assign ?_); refine wx_q (wt_none rfl) rfl rfl (op_q rfl (op_assign rfl)) rfl rfl rfl ?_) | ((with_reducible refine xk_load ?_); first | refine wx_h0 (wt_none rfl) rfl (op_q rfl (op_ldAgg rfl at_A Tryz.underlying54 rfl zs54 rfl rfl)) rfl rfl rfl ?_ | refine wx_h0 (wt_none rfl) rfl (op_q rfl (op_ldAgg rfl at_A Tryz.underlying43 rfl zs43 rfl rfl)) rfl rfl rfl ?_) | ((with_reducible refine xk_pick ?_); refine wx_q (wt_none rfl) rfl rfl (op_q rfl (op_pickt rfl rfl)) rfl rfl rfl ?_) | ((with_reducible refine xk_callv ?_); first | (refine wx_call0 (wt_none rfl) rfl rfl rfl rfl (q81 _ wf_A) rfl rfl ?_; rintro _ _ ⟨⟨b, d, rfl, st⟩, hq⟩; all_goals ((try (have hqn := hq.nx)); (try simp only [H.nx_push, H.nx_set, H.nx_bump] at hqn))) | (refine wx_call0 (wt_none rfl) rfl rfl rfl rfl (q82 _ _ _ st wf_A) rfl rfl ?_; rintro _ _ ⟨rfl, hq⟩; all_goals ((try (have hqn := hq.nx)); (try simp only [H.nx_push, H.nx_set, H.nx_bump] at hqn)))) | ((with_reducible refine xk_g ?_); first | ((with_reducible refine xg_move ?_); refine wx_q (wt_run rfl rfl rfl) rfl rfl (op_q rfl (op_move rfl)) rfl rfl rfl ?_) | ((with_reducible refine xg_bin ?_); refine wx_q (wt_run rfl rfl rfl) rfl rfl (op_q rfl (op_eql rfl rfl)) rfl rfl rfl ?_)) | with_reducible refine wx_nil0 ?_ ?_)) | with_reducible exact obl_nil | with_reducible refine obl_cons ?_ ?_ | ((with_reducible refine ik_obs ?_); first | exact obs_nil | refine obs_skip rfl ?_ | refine obs_chkn rfl rfl (op_q rfl (op_ldAgg rfl at_A Tryz.underlying54 rfl zs54 (by rfl) rfl)) ?_ | refine obs_chkn rfl rfl (op_q rfl (op_ldAgg rfl at_A Tryz.underlying43 rfl zs43 (by rfl) rfl)) ?_) | with_reducible refine sq_norm ?_ | with_reducible refine wc_seq ?_ | with_reducible refine wc_region ?_ | with_reducible refine wc_ret ?_ | (refine wc_if rfl (fun hb => ?_) (fun hb => dead_A hb); (try simp only [decide_eq_true_eq, decide_eq_false_iff_not, Bool.not_eq_true', Bool.not_eq_false', Int.not_lt, Int.not_le, Decidable.not_not, not_true_eq_false, not_false_eq_true, beq_self_eq_true, reduceCtorEq] at hb)) | refine wc_drawB (id := 3) 10 [0, 1, 0, 7, 15, 31, 31, 127, 255, 511] [0, 1, 2, 3, 4, 5, 6, 7, 8, 9] (by kernel_rfl) (by kernel_rfl) rfl rfl ?_)
  all_goals exact rq1 rfl ⟨by first | rfl | simp, gr_A⟩
/-! what the program and the reference make is the same -/
theorem feq_list {l : List Nat} (h : ∀ x ∈ l, smpE x = 0) : fEqL ((l.map smp).map smpW) l := by
  refine ⟨by simp, fun i q q' => ?_⟩
  rw [List.getElem_map, List.getElem_map]
  exact smpW_feq (h _ (List.getElem_mem q'))
theorem trs_of {vs us ts : List Trc} {K1 K2 : Nat → Trc → Key} (h1 : KeyAll vs ts K1) (h2 : KeyAll us ts K2) (h : ∀ i (q : i < ts.length), (∀ j, j < 8 → (K1 i ts[i]).1 j = (K2 i ts[i]).1 j) ∧ (K1 i ts[i]).2.1 = (K2 i ts[i]).2.1 ∧ (K1 i ts[i]).2.2.1 = (K2 i ts[i]).2.2.1 ∧ fEqL (K1 i ts[i]).2.2.2 (K2 i ts[i]).2.2.2) : TrsS vs us := by
  refine ⟨by rw [h1.1, h2.1], fun i q q' => ?_⟩
  have qt : i < ts.length := by rw [← h1.1]; exact q
  have e1 := h1.2 i q qt
  have e2 := h2.2 i q' qt
  obtain ⟨a, b, c, d⟩ := h i qt
  simp only [Trc.key] at e1 e2
  rw [← e1, ← e2] at a b c d
  exact ⟨a, b, c, d⟩
theorem cut_same {ts : List Trc} {lo hi : Nat} (hv : ∀ t ∈ ts, ∀ x ∈ t.l, smpE x = 0) (hlen : ∀ t ∈ ts, t.hole = false → hi ≤ t.l.length) (hlh : lo ≤ hi) {vs us : List Trc} (h1 : KeyAll vs ts (cutKey lo hi)) (h2 : KeyAll us ts (cutKeyR lo hi)) : TrsS vs us := by
  refine trs_of h1 h2 fun i q => ?_
  have hm := List.getElem_mem q
  have v := hv _ hm
  have hle := hlen _ hm
  unfold cutKey cutKeyR chKey
  cases hh : (ts[i]).hole with
  | true => simp [fEqL, hh]
  | false =>
    rw [hh] at hle
    have hle := hle rfl
    refine ⟨fun _ _ => rfl, by simp [hh], by simp [hh, cutF]; omega, ?_⟩
    simp only [hh, Bool.false_eq_true, if_false]
    unfold cutF
    rw [← List.map_drop, ← List.map_take]
    exact feq_list fun x hx => v x (List.mem_of_mem_drop (List.mem_of_mem_take hx))
end Go.Proofs.YtdelgpbfdimefaaGreatDoor
