/- Contracts of functions on shots: ranges over traces, widths, checks by the program, holes. -/
import Derived.Test.YthnnndkfpamacaaGreatDoorN2
set_option linter.all false
/- Ranges over the traces that are no holes. -/
namespace Go.Proofs.YthnnndkfpamacaaGreatDoor
open Go Go.Ab Go.Fl
attribute [local irreducible] SeqQ BlkQ LpQ RetQ Wc Wo WD WX Op1 Op1q Op1a Cf Cl From
attribute [local irreducible] Ieee.Format.order Ieee.Format.read Ieee.Format.nearest Ieee.Format.write Ieee.Format.mul Ieee.Format.div Ieee.Datum.order Ieee.Datum.integral smpE smp smpW K J U trE hdrE lchk firstNZ isNameB wid mism
set_option maxRecDepth 10000
variable {G : Base} {h : H}
@[reducible] def whF (B : Nat) : Value := .func (.func 160) #[] #[.pointer (some ⟨B, 0, some 0⟩)]
set_option maxHeartbeats 4000000 in
theorem c109 {nm : ByteArray} {a : Option Addr} {n c : Nat} : Cf (mz G) (.func (.func 109) #[] #[]) [.agg ⟨shC nm a n c⟩] h fun r h' => r = whF h.nx ∧ h' = h.push (.cells (shC nm a n c) 54 2 false) := by
 refine ar_ 4 [.tmp 2] Tryz.func109 rfl rfl rfl rfl ?_
 repeat' (first | with_reducible refine am_ ?_ | ((with_reducible refine al_ ?_); first | ((with_reducible refine ae_ ?_); refine ac_ (ad_ rfl) ?_) | ((with_reducible refine ik_makeFunc ?_); refine ac_ (op_makeFunc (fun _ q => by cases q) rfl rfl) ?_) | ((with_reducible refine bw_ ?_); refine ac_ (aL_ rfl cc_ rfl) ?_)) | (with_reducible first | refine ah_ ?_ | refine ao_ ?_ | refine ab_ ?_ | refine aA_ ?_))
 exact rq1 rfl ⟨rfl, rfl⟩
set_option maxHeartbeats 4000000 in
theorem c160 {y : Value} {B : Nat} (J : Nat → H → Prop) (D : H → Prop) {nm : ByteArray} {a : Option Addr} {n c : Nat} {ts : List Trc} (hn : n < 1000000) (hts : ts.length = n)
   (hB : ∀ k g, J k g → At g B (.cells (shC nm a n c) 54 2 false) ∧ SlT G g (.slice a n c) n ts ∧ Wf g)
   (hst : ∀ k g g', J k g → Grow g g' → Wf g' → J k g')
   (hh : ∀ k g (hk : k < ts.length), J k g → (ts[k]).hole = true → J (k + 1) g)
   (hy : ∀ k g (hk : k < ts.length), J k g → (ts[k]).hole = false → Cf (mz G) y [.int .i64 k, .agg ⟨(ts[k]).cells⟩] g fun v g' => (v = .bool true ∧ J (k + 1) g') ∨ (v = .bool false ∧ D g'))
   (h0 : J 0 h) : Cf (mz G) (whF B) [y] h fun _ g => J n g ∨ D g := by
 obtain ⟨b1, b2, b3⟩ := hB 0 h h0
 refine cf_enter (sz := 24) (rs := []) (all := [y, .pointer (some ⟨B, 0, some 0⟩)]) Tryz.func160 rfl rfl rfl rfl rfl ?_
 repeat' (first | with_reducible refine am_ ?_ | ((with_reducible refine al_ ?_); first | ((with_reducible refine ak_ ?_); refine ac_ (ag_ rfl) ?_) | ((with_reducible refine ap_ ?_); refine ac_ (aa_ (o := 1) rfl Tryz.underlying54 rfl zs52 rfl) ?_) | ((with_reducible refine au_ ?_); refine ac_ (aq_ rfl an_ Tryz.underlying52 rfl rfl) ?_) | ((with_reducible refine aC_ ?_); refine ac_ (ax_ rfl Tryz.underlying52) ?_)) | (with_reducible first | refine ah_ ?_ | refine ao_ ?_ | refine ab_ ?_ | refine at_ ?_))
 refine bq_ (fun k => n - k) (fun k : Nat => [(0, y), (6, .slice a n c), (7, .int .i64 n), (8, .int .i64 k)]) (fun k g => k ≤ n ∧ J k g) 0 (ai_ ⟨rfl, rfl, rfl, rfl, trivial⟩) ⟨Nat.zero_le _, h0⟩ ?_
 clear b1 b2 b3
 rintro k g ⟨hk, hJ⟩
 obtain ⟨b1, b2, b3⟩ := hB k g hJ
 by_cases hlt : k < n
 · obtain ⟨ad, h1, h3⟩ := cA_ b2 Tryz.underlying52 ch_ (i := (k : Int)) hlt rfl
   have hhk := hh k g (by omega) hJ
   have hyk := fun g' (gr : Grow g g') (w : Wf g') => hy k g' (by omega) (hst k g g' hJ gr w)
   obtain ⟨t, ht⟩ : ∃ t, ts[k]'(by omega) = t := ⟨_, rfl⟩
   rw [ht] at h3 hhk hyk
   obtain ⟨hd, hole, sa, tn, tc, tl⟩ := t
   dsimp only [Trc.cells] at h3 hhk hyk
   clear ht
   cases hole with
   | true =>
     repeat' (first | with_reducible refine am_ ?_ | ((with_reducible refine al_ ?_); first | ((with_reducible refine ak_ ?_); refine ac_ (ag_ rfl) ?_) | ((with_reducible refine ae_ ?_); refine ac_ (ad_ rfl) ?_) | ((with_reducible refine aw_ ?_); refine ac_ (as_ rfl rfl h1) ?_) | ((with_reducible refine au_ ?_); first | refine ac_ (bJ_ rfl Tryz.underlying58 rfl ch_ h3.all) ?_ | refine ac_ (aq_ rfl an_ Tryz.underlying4 rfl rfl) ?_) | ((with_reducible refine ap_ ?_); refine ac_ (aa_ (o := 8) rfl Tryz.underlying58 rfl zs4 rfl) ?_) | ((with_reducible refine av_ ?_); first | refine ac_ (aF_ rfl rfl) ?_ | refine ac_ (aR_ rfl rfl (w64 (by omega) (by omega))) ?_) | ((with_reducible refine aU_ ?_); refine ac_ (aQ_ zz58 ch_ rfl rfl rfl) ?_) | ((with_reducible refine aG_ ?_); refine ci_ (aM_ rfl rfl an_ ch_ rfl rfl rfl rfl) ?_) | ((with_reducible refine cj_ ?_); refine ac_ (bv_ rfl) ?_) | ((with_reducible refine aS_ ?_); refine ac_ (aO_ rfl rfl) ?_) | ((with_reducible refine cG_ ?_); refine bC_ rfl rfl rfl rfl rfl rfl ?_)) | (with_reducible first | refine ah_ ?_ | refine ao_ ?_ | refine ab_ ?_ | refine az_ ?_ | refine at_ ?_ | refine aP_ ?_) | refine bs_ rfl ?_ | (refine aK_ rfl (fun hb => ?_) (fun hb => aH_ hb); (try simp only [bj_, reduceCtorEq] at hb)))
     all_goals exact aX_ (k + 1) (by omega) (ai_ ⟨rfl, rfl, rfl, rfl, trivial⟩) ⟨by omega, hst _ _ _ (hhk rfl) aD_ aZ_⟩
   | false =>
     repeat' (first | with_reducible refine am_ ?_ | ((with_reducible refine al_ ?_); first | ((with_reducible refine ak_ ?_); refine ac_ (ag_ rfl) ?_) | ((with_reducible refine ae_ ?_); refine ac_ (ad_ rfl) ?_) | ((with_reducible refine aw_ ?_); refine ac_ (as_ rfl rfl h1) ?_) | ((with_reducible refine au_ ?_); first | refine ac_ (bJ_ rfl Tryz.underlying58 rfl ch_ h3.all) ?_ | refine ac_ (aq_ rfl an_ Tryz.underlying4 rfl rfl) ?_) | ((with_reducible refine ap_ ?_); refine ac_ (aa_ (o := 8) rfl Tryz.underlying58 rfl zs4 rfl) ?_) | ((with_reducible refine av_ ?_); first | refine ac_ (aF_ rfl rfl) ?_ | refine ac_ (aR_ rfl rfl (w64 (by omega) (by omega))) ?_) | ((with_reducible refine aU_ ?_); refine ac_ (aQ_ zz58 ch_ rfl rfl rfl) ?_) | ((with_reducible refine aG_ ?_); refine ci_ (aM_ rfl rfl an_ ch_ rfl rfl rfl rfl) ?_) | ((with_reducible refine cj_ ?_); refine ac_ (bv_ rfl) ?_) | ((with_reducible refine aS_ ?_); refine ac_ (aT_ rfl rfl) ?_) | ((with_reducible refine cG_ ?_); first | ((with_reducible refine bB_ ?_); refine aj_ rfl rfl rfl (ag_ rfl) rfl rfl ?_) | ((with_reducible refine bX_ ?_); refine aj_ rfl rfl rfl (ay_ rfl an_ Tryz.underlying58 rfl ch_ rfl rfl) rfl rfl ?_) | ((with_reducible refine ig_un ?_); refine aj_ rfl rfl rfl (bv_ rfl) rfl rfl ?_) | ((with_reducible refine ig_callv ?_); (refine cq_ rfl rfl rfl rfl rfl rfl ((hyk _ aD_ aZ_ rfl)) rfl rfl ?_; rintro _ _ (⟨rfl, hq⟩ | ⟨rfl, hq⟩); all_goals ((try (have hqn := hq.nx)); (try simp only [bG_] at hqn)))))) | (with_reducible first | refine ah_ ?_ | refine ao_ ?_ | refine ab_ ?_ | refine az_ ?_ | refine aA_ ?_ | refine at_ ?_ | refine aP_ ?_ | refine bV_ ?_ | refine bd_ ?_ | refine cx_ ?_) | refine bP_ rfl ?_ | refine bs_ rfl ?_ | (refine aK_ rfl (fun hb => ?_) (fun hb => aH_ hb); (try simp only [bj_, reduceCtorEq] at hb)))
     all_goals first
       | exact aX_ (k + 1) (by omega) (ai_ ⟨rfl, rfl, rfl, rfl, trivial⟩) ⟨by omega, hq⟩
       | exact rq0 (.inr hq)
 · have hkn : k = n := by omega
   subst hkn
   repeat' (first | with_reducible refine am_ ?_ | ((with_reducible refine al_ ?_); ((with_reducible refine av_ ?_); refine ac_ (aF_ rfl rfl) ?_)) | (with_reducible first | refine ah_ ?_ | refine ao_ ?_ | refine ab_ ?_ | refine be_ ?_ | refine bf_ ?_ | refine bi_ ?_) | refine bS_ rfl ?_ | (refine aK_ rfl (fun hb => ?_) (fun hb => ?_) <;> (try simp only [bj_, reduceCtorEq] at hb) <;> (try (exfalso; omega))))
   exact rq0n (.inl hJ)
theorem mism_some {w : Nat} {ts : List Trc} {k : Nat} (hk : k < ts.length) (h1 : (ts[k]).hole = false) (h2 : (ts[k]).n ≠ w) : mism w ts = true := by
 unfold mism
 rw [List.any_eq_true]
 exact ⟨_, List.getElem_mem hk, by simp [h1, h2]⟩
theorem cP_ {M : Mc} {f : Operand} {ps : Array Tmp} {assign body : Code} {sz : Nat} {l : KL} {h : H} {Q : X → KL → H → Prop} {fv : Value} (hf : val l f = some fv)
   (w : ∀ e lp, Has sz l e → lp = AObj.loop .ready none e ps assign body → Cf M fv [.func (.yield h.nx) #[] #[]] (h.push lp) fun _ h2 => RfQ h.nx l Q h2) : Wc M none (.rangeFunc f ps assign body) sz l h Q :=
 wc_rangeFunc hf fun e he => w e _ he rfl
theorem ld1 {M : Mc} {h : H} {b off : Nat} {c : List Value} {e t : TypeId} {es : Nat} {s : Bool} {dd : TypeDesc} {v : Value} (hat : At h b (.cells c e es s)) (hu : M.P.underlying t = some dd) (hd : isAggD dd = false) (hc : c[off]? = some v) : aloadVar M.P M.G h t ⟨b, off, some 0⟩ = some v :=
 ld_one hu hd (by unfold acell; simp only [hat.get]; exact hc)
/- The width by the program. -/
set_option maxHeartbeats 4000000 in
theorem c103 {nm : ByteArray} {a : Option Addr} {n c : Nat} {ts : List Trc} (s : SlT G h (.slice a n c) n ts) (hn : n < 1000000) (hw : Wf h) : Cf (mz G) (.func (.func 103) #[] #[]) [.agg ⟨shC nm a n c⟩] h fun r h' => r = .int .i64 (wid ts : Nat) ∧ Grow h h' := by
 have hlen := s.len
 refine ar_ 12 [.cell 2 3] Tryz.func103 rfl rfl rfl rfl ?_
 repeat' (first | with_reducible refine am_ ?_ | ((with_reducible refine al_ ?_); first | ((with_reducible refine bw_ ?_); refine ac_ (aL_ rfl cc_ rfl) ?_) | ((with_reducible refine aU_ ?_); refine ac_ (aQ_ zz3 zs3 rfl rfl rfl) ?_) | ((with_reducible refine au_ ?_); refine ac_ (ay_ rfl an_ Tryz.underlying54 rfl cc_ rfl rfl) ?_) | ((with_reducible refine ba_ (f := 109) ?_); (refine aW_ rfl rfl rfl rfl (c109) rfl rfl ?_; rintro _ _ ⟨rfl, rfl⟩; all_goals ((try (have hqn := hq.nx)); (try simp only [bG_] at hqn))))) | (with_reducible first | refine ah_ ?_ | refine ao_ ?_ | refine ab_ ?_ | refine at_ ?_))
 refine wc_cut (ι := Unit) (fun _ => [(2, .pointer (some ⟨h.nx + 1, 0, some 0⟩)), (6, whF (h.nx + 2))]) (fun _ h' => h'.nx = h.nx + 3 ∧ Wf h' ∧ Grow h h' ∧ At h' (h.nx + 1) (.cells [.int .i64 0] 3 1 false) ∧ At h' (h.nx + 2) (.cells (shC nm a n c) 54 2 false)) () (ai_ ⟨rfl, rfl, trivial⟩) ⟨rfl, aZ_, aD_, an_, an_⟩ ?_
 rintro _ h0 ⟨hnx, w0, g0, a1, a2⟩
 refine cP_ rfl fun e lp he hlp => ?_
 refine (c160 (nm := nm) (a := a) (c := c) (ts := ts) (fun k g => Wf g ∧ Grow h g ∧ h0.nx + 1 ≤ g.nx ∧ At g (h.nx + 1) (.cells [.int .i64 0] 3 1 false) ∧ At g (h.nx + 2) (.cells (shC nm a n c) 54 2 false) ∧ At g h0.nx lp ∧ wid (ts.drop k) = wid ts)
   (fun g => Wf g ∧ Grow h g ∧ At g (h.nx + 1) (.cells [.int .i64 (wid ts : Nat)] 3 1 false) ∧ ∃ pe ps asg bd, At g h0.nx (.loop .done (some .ret) pe ps asg bd)) hn hlen ?_ ?_ ?_ ?_ ?_).mono ?_
 · rintro k g ⟨w, gr, _, _, b, _⟩
   exact ⟨b, s.grow gr, w⟩
 · rintro k g g' ⟨w, gr, nx, b1, b2, b3, e⟩ gg ww
   exact ⟨ww, gr.trans gg, Nat.le_trans nx gg.nx, b1.grow gg, b2.grow gg, b3.grow gg, e⟩
 · rintro k g hk ⟨w, gr, nx, b1, b2, b3, e⟩ hh
   refine ⟨w, gr, nx, b1, b2, b3, ?_⟩
   rw [← e, List.drop_eq_getElem_cons hk, wid, if_pos hh]
 · rintro k g hk ⟨w, gr, nx, b1, b2, b3, e⟩ hh
   have hwd : wid ts = (ts[k]).n := by
     rw [← e, List.drop_eq_getElem_cons hk, wid, if_neg (by simp [hh])]
   obtain ⟨t, ht⟩ : ∃ t, ts[k] = t := ⟨_, rfl⟩
   rw [ht] at hwd ⊢
   rw [hwd]
   clear hh ht e hwd
   obtain ⟨hd, hole, sa, tn, tc, tl⟩ := t
   dsimp only [Trc.cells]
   subst hlp
   refine cf_round b3.get he rfl rfl ?_
   repeat' (first | with_reducible refine am_ ?_ | ((with_reducible refine al_ ?_); first | ((with_reducible refine aU_ ?_); refine ac_ (aQ_ zz58 ch_ rfl rfl rfl) ?_) | ((with_reducible refine aG_ ?_); refine ci_ (aM_ rfl rfl an_ ch_ rfl rfl rfl rfl) ?_)) | with_reducible refine ab_ ?_)
   refine ⟨rfl, _, _, _, _, _, At.get (b := h0.nx) (o := .loop .ready none e _ _ _) an_, ?_⟩
   repeat' (first | with_reducible refine am_ ?_ | ((with_reducible refine al_ ?_); first | ((with_reducible refine au_ ?_); refine ac_ (aq_ rfl an_ Tryz.underlying45 rfl rfl) ?_) | ((with_reducible refine aG_ ?_); refine ci_ (cn_ rfl rfl an_ rfl zs3 rfl rfl rfl) ?_) | ((with_reducible refine ap_ ?_); refine ac_ (aa_ (o := 9) rfl Tryz.underlying58 rfl zs45 rfl) ?_) | ((with_reducible refine aC_ ?_); refine ac_ (ax_ rfl Tryz.underlying45) ?_)) | (with_reducible first | refine ah_ ?_ | refine ao_ ?_ | refine ab_ ?_ | refine aA_ ?_ | refine at_ ?_ | refine bV_ ?_))
   exact ⟨_, _, _, _, _, _, At.get (b := h0.nx) (o := .loop .busy none e _ _ _) an_, .inr ⟨rfl, aZ_, aD_, an_, _, _, _, _, an_⟩⟩
 · exact ⟨aZ_, aD_, z4_A, an_, an_, an_, rfl⟩
 · rintro _ g (⟨w, gr, nx, b1, b2, b3, e⟩ | ⟨w, gr, b1, pe, ps, asg, bd, b3⟩)
   · have hz : wid ts = 0 := by rw [← e, List.drop_eq_nil_of_le (by omega)]; unfold wid; rfl
     rw [hz]
     subst hlp
     refine ⟨_, _, _, _, _, _, b3.get, by simp, ?_⟩
     repeat' (first | with_reducible refine am_ ?_ | ((with_reducible refine al_ ?_); ((with_reducible refine aG_ ?_); refine ci_ (cn_ rfl rfl an_ rfl zs3 rfl rfl rfl) ?_)) | (with_reducible first | refine ah_ ?_ | refine ao_ ?_ | refine ab_ ?_ | refine aA_ ?_ | refine aP_ ?_))
     exact rqc1 rfl (ld1 an_ Tryz.underlying3 rfl rfl) ⟨rfl, aD_⟩
   · refine ⟨_, _, _, _, _, _, b3.get, by simp, ?_⟩
     repeat' (first | with_reducible refine bV_ ?_ | with_reducible refine bd_ ?_)
     exact rqc1 rfl (ld1 an_ Tryz.underlying3 rfl rfl) ⟨rfl, aD_⟩
/- A shot, checked by the program. -/
set_option maxHeartbeats 4000000 in
theorem c41 {nm : ByteArray} {a : Option Addr} {n c : Nat} {ts : List Trc} (s : SlT G h (.slice a n c) n ts) (hn : n < 1000000) (hl : ∀ t ∈ ts, t.n < 1000000) (hw : Wf h) (hG : ∀ a v, laidBase a = some v → G a = some v) : Cf (mz G) (.func (.func 41) #[] #[]) [.agg ⟨shC nm a n c⟩] h fun r h' => r = .int .i64 (shE nm ts) ∧ Grow h h' := by
 have hlen := s.len
 have q21 := fun (h : H) => c21 (G := G) (h := h) nm
 unfold shE
 rw [hlen]
 by_cases z1 : isNameB nm = false
 · rw [if_pos z1]
   rw [z1] at q21
   refine ar_ 39 [.cell 2 26] Tryz.func41 rfl rfl rfl rfl ?_
   repeat' (first | with_reducible refine am_ ?_ | ((with_reducible refine al_ ?_); first | ((with_reducible refine ae_ ?_); refine ac_ (ad_ rfl) ?_) | ((with_reducible refine bw_ ?_); refine ac_ (aL_ rfl cc_ rfl) ?_) | ((with_reducible refine aU_ ?_); refine ac_ (aQ_ zz26 zs26 rfl rfl rfl) ?_) | ((with_reducible refine ap_ ?_); refine ac_ (aa_ (o := 0) rfl Tryz.underlying54 rfl zs9 rfl) ?_) | ((with_reducible refine au_ ?_); refine ac_ (aq_ rfl an_ Tryz.underlying9 rfl rfl) ?_) | ((with_reducible refine cj_ ?_); refine ac_ (bv_ rfl) ?_) | ((with_reducible refine aG_ ?_); refine ci_ (cn_ rfl rfl an_ rfl zs26 rfl rfl rfl) ?_) | ((with_reducible refine aN_ ?_); (refine aW_ rfl rfl rfl rfl (q21 _) rfl rfl ?_; rintro _ _ ⟨rfl, hq⟩; all_goals ((try (have hqn := hq.nx)); (try simp only [bG_] at hqn))))) | (with_reducible first | refine ah_ ?_ | refine ao_ ?_ | refine ab_ ?_ | refine aA_ ?_ | refine at_ ?_ | refine bV_ ?_ | refine bd_ ?_) | refine bP_ rfl ?_)
   all_goals exact rqc1 rfl (ld1 an_ Tryz.underlying26 rfl rfl) ⟨rfl, aD_⟩
 rw [if_neg z1]
 have z1 : isNameB nm = true := by simpa using z1
 rw [z1] at q21
 by_cases z2 : n = 0
 · rw [if_pos z2]
   refine ar_ 39 [.cell 2 26] Tryz.func41 rfl rfl rfl rfl ?_
   repeat' (first | with_reducible refine am_ ?_ | ((with_reducible refine al_ ?_); first | ((with_reducible refine ae_ ?_); refine ac_ (ad_ rfl) ?_) | ((with_reducible refine bw_ ?_); refine ac_ (aL_ rfl cc_ rfl) ?_) | ((with_reducible refine aU_ ?_); refine ac_ (aQ_ zz26 zs26 rfl rfl rfl) ?_) | ((with_reducible refine ap_ ?_); first | refine ac_ (aa_ (o := 0) rfl Tryz.underlying54 rfl zs9 rfl) ?_ | refine ac_ (aa_ (o := 1) rfl Tryz.underlying54 rfl zs52 rfl) ?_) | ((with_reducible refine au_ ?_); first | refine ac_ (aq_ rfl an_ Tryz.underlying9 rfl rfl) ?_ | refine ac_ (aq_ rfl an_ Tryz.underlying52 rfl rfl) ?_) | ((with_reducible refine cj_ ?_); refine ac_ (bv_ rfl) ?_) | ((with_reducible refine aG_ ?_); refine ci_ (cn_ rfl rfl an_ rfl zs26 rfl rfl rfl) ?_) | ((with_reducible refine aC_ ?_); refine ac_ (ax_ rfl Tryz.underlying52) ?_) | ((with_reducible refine av_ ?_); refine ac_ (cM_ rfl rfl) ?_) | ((with_reducible refine aN_ ?_); (refine aW_ rfl rfl rfl rfl (q21 _) rfl rfl ?_; rintro _ _ ⟨rfl, hq⟩; all_goals ((try (have hqn := hq.nx)); (try simp only [bG_] at hqn))))) | (with_reducible first | refine ah_ ?_ | refine ao_ ?_ | refine ab_ ?_ | refine aA_ ?_ | refine at_ ?_ | refine bV_ ?_ | refine bd_ ?_) | refine bs_ rfl ?_ | (refine aK_ rfl (fun hb => ?_) (fun hb => aH_ hb); (try simp only [bj_, reduceCtorEq] at hb)))
   all_goals exact rqc1 rfl (ld1 an_ Tryz.underlying26 rfl rfl) ⟨rfl, aD_⟩
 rw [if_neg z2]
 by_cases z3 : 64 < n
 · rw [if_pos z3]
   refine ar_ 39 [.cell 2 26] Tryz.func41 rfl rfl rfl rfl ?_
   repeat' (first | with_reducible refine am_ ?_ | ((with_reducible refine al_ ?_); first | ((with_reducible refine ae_ ?_); refine ac_ (ad_ rfl) ?_) | ((with_reducible refine bw_ ?_); refine ac_ (aL_ rfl cc_ rfl) ?_) | ((with_reducible refine aU_ ?_); refine ac_ (aQ_ zz26 zs26 rfl rfl rfl) ?_) | ((with_reducible refine ap_ ?_); first | refine ac_ (aa_ (o := 0) rfl Tryz.underlying54 rfl zs9 rfl) ?_ | refine ac_ (aa_ (o := 1) rfl Tryz.underlying54 rfl zs52 rfl) ?_) | ((with_reducible refine au_ ?_); first | refine ac_ (aq_ rfl an_ Tryz.underlying9 rfl rfl) ?_ | refine ac_ (aq_ rfl an_ Tryz.underlying52 rfl rfl) ?_) | ((with_reducible refine cj_ ?_); refine ac_ (bv_ rfl) ?_) | ((with_reducible refine aG_ ?_); refine ci_ (cn_ rfl rfl an_ rfl zs26 rfl rfl rfl) ?_) | ((with_reducible refine aC_ ?_); refine ac_ (ax_ rfl Tryz.underlying52) ?_) | ((with_reducible refine av_ ?_); first | refine ac_ (cM_ rfl rfl) ?_ | refine ac_ (bZ_ rfl rfl) ?_) | ((with_reducible refine aN_ ?_); (refine aW_ rfl rfl rfl rfl (q21 _) rfl rfl ?_; rintro _ _ ⟨rfl, hq⟩; all_goals ((try (have hqn := hq.nx)); (try simp only [bG_] at hqn))))) | (with_reducible first | refine ah_ ?_ | refine ao_ ?_ | refine ab_ ?_ | refine aA_ ?_ | refine at_ ?_ | refine bV_ ?_ | refine bd_ ?_) | refine bs_ rfl ?_ | (refine aK_ rfl (fun hb => aH_ hb) (fun hb => ?_); (try simp only [bj_, reduceCtorEq] at hb)) | (refine aK_ rfl (fun hb => ?_) (fun hb => aH_ hb); (try simp only [bj_, reduceCtorEq] at hb)))
   all_goals exact rqc1 rfl (ld1 an_ Tryz.underlying26 rfl rfl) ⟨rfl, aD_⟩
 rw [if_neg z3]
 have q107 := fun (h' : H) (g : Grow h h') (w : Wf h') => c108 (s.grow g) hn hl w hG
 obtain ⟨E, hE⟩ : ∃ E, firstNZ (ts.map trE) = E := ⟨_, rfl⟩
 rw [hE] at q107 ⊢
 by_cases z4 : E ≠ 0
 · rw [if_pos z4]
   refine ar_ 39 [.cell 2 26] Tryz.func41 rfl rfl rfl rfl ?_
   repeat' (first | with_reducible refine am_ ?_ | ((with_reducible refine al_ ?_); first | ((with_reducible refine ak_ ?_); refine ac_ (ag_ rfl) ?_) | ((with_reducible refine ae_ ?_); refine ac_ (ad_ rfl) ?_) | ((with_reducible refine bw_ ?_); refine ac_ (aL_ rfl cc_ rfl) ?_) | ((with_reducible refine aU_ ?_); refine ac_ (aQ_ zz26 zs26 rfl rfl rfl) ?_) | ((with_reducible refine ap_ ?_); first | refine ac_ (aa_ (o := 0) rfl Tryz.underlying54 rfl zs9 rfl) ?_ | refine ac_ (aa_ (o := 1) rfl Tryz.underlying54 rfl zs52 rfl) ?_) | ((with_reducible refine au_ ?_); first | refine ac_ (aq_ rfl an_ Tryz.underlying9 rfl rfl) ?_ | refine ac_ (aq_ rfl an_ Tryz.underlying52 rfl rfl) ?_) | ((with_reducible refine cj_ ?_); refine ac_ (bv_ rfl) ?_) | ((with_reducible refine aG_ ?_); refine ci_ (cn_ rfl rfl an_ rfl zs26 rfl rfl rfl) ?_) | ((with_reducible refine aC_ ?_); refine ac_ (ax_ rfl Tryz.underlying52) ?_) | ((with_reducible refine av_ ?_); first | refine ac_ (cM_ rfl rfl) ?_ | refine ac_ (bZ_ rfl rfl) ?_ | refine ac_ (bm_ rfl rfl) ?_) | ((with_reducible refine aN_ ?_); first | (refine aW_ rfl rfl rfl rfl (q21 _) rfl rfl ?_; rintro _ _ ⟨rfl, hq⟩; all_goals ((try (have hqn := hq.nx)); (try simp only [bG_] at hqn))) | (refine aW_ rfl rfl rfl rfl (q107 _ aD_ aZ_) rfl rfl ?_; rintro _ _ ⟨rfl, hq⟩; all_goals ((try (have hqn := hq.nx)); (try simp only [bG_] at hqn))))) | (with_reducible first | refine ah_ ?_ | refine ao_ ?_ | refine ab_ ?_ | refine az_ ?_ | refine aA_ ?_ | refine at_ ?_ | refine aP_ ?_ | refine bd_ ?_) | refine bs_ rfl ?_ | (refine aK_ rfl (fun hb => aH_ hb) (fun hb => ?_); (try simp only [bj_, reduceCtorEq] at hb)) | (refine aK_ rfl (fun hb => ?_) (fun hb => aH_ hb); (try simp only [bj_, reduceCtorEq] at hb)))
   all_goals exact rqc1 rfl (ld1 an_ Tryz.underlying26 rfl rfl) ⟨rfl, aD_⟩
 rw [if_neg z4]
 have z4 : E = 0 := by simpa using z4
 subst z4
 have q103 := fun (h' : H) (g : Grow h h') (w : Wf h') => c103 (nm := nm) (s.grow g) hn w
 obtain ⟨W, hW⟩ : ∃ W, wid ts = W := ⟨_, rfl⟩
 rw [hW] at q103 ⊢
 refine ar_ 39 [.cell 2 26] Tryz.func41 rfl rfl rfl rfl ?_
 repeat' (first | with_reducible refine am_ ?_ | ((with_reducible refine al_ ?_); first | ((with_reducible refine ak_ ?_); refine ac_ (ag_ rfl) ?_) | ((with_reducible refine ae_ ?_); refine ac_ (ad_ rfl) ?_) | ((with_reducible refine bw_ ?_); refine ac_ (aL_ rfl cc_ rfl) ?_) | ((with_reducible refine aU_ ?_); refine ac_ (aQ_ zz26 zs26 rfl rfl rfl) ?_) | ((with_reducible refine ap_ ?_); first | refine ac_ (aa_ (o := 0) rfl Tryz.underlying54 rfl zs9 rfl) ?_ | refine ac_ (aa_ (o := 1) rfl Tryz.underlying54 rfl zs52 rfl) ?_) | ((with_reducible refine au_ ?_); first | refine ac_ (aq_ rfl an_ Tryz.underlying9 rfl rfl) ?_ | refine ac_ (aq_ rfl an_ Tryz.underlying52 rfl rfl) ?_ | refine ac_ (ay_ rfl an_ Tryz.underlying54 rfl cc_ rfl rfl) ?_) | ((with_reducible refine cj_ ?_); refine ac_ (bv_ rfl) ?_) | ((with_reducible refine aG_ ?_); refine ci_ (cn_ rfl rfl an_ rfl zs26 rfl rfl rfl) ?_) | ((with_reducible refine aC_ ?_); refine ac_ (ax_ rfl Tryz.underlying52) ?_) | ((with_reducible refine av_ ?_); first | refine ac_ (cM_ rfl rfl) ?_ | refine ac_ (bZ_ rfl rfl) ?_ | refine ac_ (bm_ rfl rfl) ?_) | ((with_reducible refine aN_ ?_); first | (refine aW_ rfl rfl rfl rfl (q21 _) rfl rfl ?_; rintro _ _ ⟨rfl, hq⟩; all_goals ((try (have hqn := hq.nx)); (try simp only [bG_] at hqn))) | (refine aW_ rfl rfl rfl rfl (q107 _ aD_ aZ_) rfl rfl ?_; rintro _ _ ⟨rfl, hq⟩; all_goals ((try (have hqn := hq.nx)); (try simp only [bG_] at hqn))) | (refine aW_ rfl rfl rfl rfl (q103 _ aD_ aZ_) rfl rfl ?_; rintro _ _ ⟨rfl, hq⟩; all_goals ((try (have hqn := hq.nx)); (try simp only [bG_] at hqn)))) | ((with_reducible refine ba_ (f := 109) ?_); (refine aW_ rfl rfl rfl rfl (c109) rfl rfl ?_; rintro _ _ ⟨rfl, rfl⟩; all_goals ((try (have hqn := hq.nx)); (try simp only [bG_] at hqn))))) | (with_reducible first | refine ah_ ?_ | refine ao_ ?_ | refine ab_ ?_ | refine az_ ?_ | refine at_ ?_ | refine aP_ ?_) | refine bs_ rfl ?_ | (refine aK_ rfl (fun hb => aH_ hb) (fun hb => ?_); (try simp only [bj_, reduceCtorEq] at hb)))
 refine wc_cut (fun i : Nat × Nat => [(2, .pointer (some ⟨h.nx + 1, 0, some 0⟩)), (4, .pointer (some ⟨i.1, 0, some 0⟩)), (31, whF i.2)]) (fun i h' => (h.nx + 2 ≤ i.1 ∧ i.1 < i.2 ∧ i.2 < h'.nx) ∧ Wf h' ∧ Grow h h' ∧ At h' (h.nx + 1) (.cells [.int .i64 0] 26 1 false) ∧ At h' i.1 (.cells [.int .i64 (W : Nat)] 3 1 false) ∧ At h' i.2 (.cells (shC nm a n c) 54 2 false)) (_, _) (ai_ ⟨rfl, rfl, rfl, trivial⟩) ⟨(by refine ⟨?_, ?_, ?_⟩ <;> first | (show _ ≤ H.nx _; simp only [H.nx_push, H.nx_set, H.nx_bump]; omega) | (show _ ≤ H.nx _; omega) | (show H.nx _ < H.nx _; simp only [H.nx_push, H.nx_set, H.nx_bump]; omega) | (show H.nx _ < H.nx _; omega)), aZ_, aD_, an_, an_, an_⟩ ?_
 clear q21 q107 q103
 rintro ⟨Bw, Bs⟩ h0 ⟨⟨n1, n2, n3⟩, w0, g0, a1, a2, a3⟩
 simp only at n1 n2 n3 a2 a3 ⊢
 refine cP_ rfl fun ev lp he hlp => ?_
 refine (c160 (nm := nm) (a := a) (c := c) (ts := ts) (fun k g => Wf g ∧ Grow h g ∧ h0.nx + 1 ≤ g.nx ∧ At g (h.nx + 1) (.cells [.int .i64 0] 26 1 false) ∧ At g Bw (.cells [.int .i64 (W : Nat)] 3 1 false) ∧ At g Bs (.cells (shC nm a n c) 54 2 false) ∧ At g h0.nx lp ∧ mism W (ts.drop k) = mism W ts)
   (fun g => Wf g ∧ Grow h g ∧ At g (h.nx + 1) (.cells [.int .i64 2] 26 1 false) ∧ (∃ pe ps asg bd, At g h0.nx (.loop .done (some .ret) pe ps asg bd)) ∧ mism W ts = true) hn hlen ?_ ?_ ?_ ?_ ?_).mono ?_
 · rintro k g ⟨w, gr, _, _, _, b, _⟩
   exact ⟨b, s.grow gr, w⟩
 · rintro k g g' ⟨w, gr, nx, b1, b2, b3, b4, e⟩ gg ww
   exact ⟨ww, gr.trans gg, Nat.le_trans nx gg.nx, b1.grow gg, b2.grow gg, b3.grow gg, b4.grow gg, e⟩
 · rintro k g hk ⟨w, gr, nx, b1, b2, b3, b4, e⟩ hh
   refine ⟨w, gr, nx, b1, b2, b3, b4, ?_⟩
   rw [← e, mism_split W ts k hk, hh]; rfl
 · rintro k g hk ⟨w, gr, nx, b1, b2, b3, b4, e⟩ hh
   have hms := fun q => mism_some (w := W) hk hh q
   rw [mism_split W ts k hk, hh] at e
   obtain ⟨t, ht⟩ : ∃ t, ts[k] = t := ⟨_, rfl⟩
   rw [ht] at hms e ⊢
   clear hh ht
   obtain ⟨hd, hole, sa, tn, tc, tl⟩ := t
   dsimp only [Trc.cells] at hms e ⊢
   subst hlp
   by_cases hne : tn = W
   · refine cf_round b4.get he rfl rfl ?_
     repeat' (first | with_reducible refine am_ ?_ | ((with_reducible refine al_ ?_); first | ((with_reducible refine aU_ ?_); refine ac_ (aQ_ zz58 ch_ rfl rfl rfl) ?_) | ((with_reducible refine aG_ ?_); refine ci_ (aM_ rfl rfl an_ ch_ rfl rfl rfl rfl) ?_)) | with_reducible refine ab_ ?_)
     refine ⟨rfl, _, _, _, _, _, At.get (b := h0.nx) (o := .loop .ready none ev _ _ _) an_, ?_⟩
     repeat' (first | with_reducible refine am_ ?_ | ((with_reducible refine al_ ?_); first | ((with_reducible refine ap_ ?_); refine ac_ (aa_ (o := 9) rfl Tryz.underlying58 rfl zs45 rfl) ?_) | ((with_reducible refine au_ ?_); first | refine ac_ (aq_ rfl an_ Tryz.underlying45 rfl rfl) ?_ | refine ac_ (aq_ rfl an_ Tryz.underlying3 rfl rfl) ?_) | ((with_reducible refine aC_ ?_); refine ac_ (ax_ rfl Tryz.underlying45) ?_) | ((with_reducible refine av_ ?_); refine ac_ (bm_ rfl rfl) ?_)) | (with_reducible first | refine ah_ ?_ | refine ao_ ?_ | refine ab_ ?_ | refine az_ ?_ | refine at_ ?_ | refine aP_ ?_) | (refine aK_ rfl (fun hb => aH_ hb) (fun hb => ?_); (try simp only [bj_, reduceCtorEq] at hb)))
     exact ⟨_, _, _, _, _, _, At.get (b := h0.nx) (o := .loop .busy none ev _ _ _) an_, .inl ⟨rfl, aZ_, aD_, z5_A, an_, an_, an_, an_, by simpa [hne] using e⟩⟩
   · refine cf_round b4.get he rfl rfl ?_
     repeat' (first | with_reducible refine am_ ?_ | ((with_reducible refine al_ ?_); first | ((with_reducible refine aU_ ?_); refine ac_ (aQ_ zz58 ch_ rfl rfl rfl) ?_) | ((with_reducible refine aG_ ?_); refine ci_ (aM_ rfl rfl an_ ch_ rfl rfl rfl rfl) ?_)) | with_reducible refine ab_ ?_)
     refine ⟨rfl, _, _, _, _, _, At.get (b := h0.nx) (o := .loop .ready none ev _ _ _) an_, ?_⟩
     repeat' (first | with_reducible refine am_ ?_ | ((with_reducible refine al_ ?_); first | ((with_reducible refine ap_ ?_); refine ac_ (aa_ (o := 9) rfl Tryz.underlying58 rfl zs45 rfl) ?_) | ((with_reducible refine au_ ?_); first | refine ac_ (aq_ rfl an_ Tryz.underlying45 rfl rfl) ?_ | refine ac_ (aq_ rfl an_ Tryz.underlying3 rfl rfl) ?_) | ((with_reducible refine aG_ ?_); refine ci_ (cn_ rfl rfl an_ rfl zs26 rfl rfl rfl) ?_) | ((with_reducible refine aC_ ?_); refine ac_ (ax_ rfl Tryz.underlying45) ?_) | ((with_reducible refine av_ ?_); refine ac_ (bm_ rfl rfl) ?_)) | (with_reducible first | refine ah_ ?_ | refine ao_ ?_ | refine ab_ ?_ | refine aA_ ?_ | refine at_ ?_ | refine bV_ ?_) | (refine aK_ rfl (fun hb => ?_) (fun hb => aH_ hb); (try simp only [bj_, reduceCtorEq] at hb)))
     exact ⟨_, _, _, _, _, _, At.get (b := h0.nx) (o := .loop .busy none _ _ _ _) an_, .inr ⟨rfl, aZ_, aD_, an_, ⟨_, _, _, _, an_⟩, hms hne⟩⟩
 · exact ⟨aZ_, aD_, z4_A, an_, an_, an_, an_, rfl⟩
 · rintro _ g (⟨w, gr, nx, b1, b2, b3, b4, e⟩ | ⟨w, gr, b1, ⟨pe, ps, asg, bd, b3⟩, hm⟩)
   · rw [List.drop_eq_nil_of_le (by omega)] at e
     have hm : ¬ mism W ts = true := by rw [← e]; unfold mism; simp
     rw [if_neg hm]
     subst hlp
     refine ⟨_, _, _, _, _, _, b4.get, by simp, ?_⟩
     repeat' (first | with_reducible refine am_ ?_ | ((with_reducible refine al_ ?_); ((with_reducible refine aG_ ?_); refine ci_ (cn_ rfl rfl an_ rfl zs26 rfl rfl rfl) ?_)) | (with_reducible first | refine ah_ ?_ | refine ao_ ?_ | refine ab_ ?_ | refine aA_ ?_ | refine aP_ ?_))
     exact rqc1 rfl (ld1 an_ Tryz.underlying26 rfl rfl) ⟨rfl, aD_⟩
   · rw [if_pos hm]
     refine ⟨_, _, _, _, _, _, b3.get, by simp, ?_⟩
     repeat' (first | with_reducible refine bV_ ?_ | with_reducible refine bd_ ?_)
     exact rqc1 rfl (ld1 an_ Tryz.underlying26 rfl rfl) ⟨rfl, aD_⟩
end Go.Proofs.YthnnndkfpamacaaGreatDoor
/- Widths and holes by the program. -/
namespace Go.Proofs.YthnnndkfpamacaaGreatDoor
open Go Go.Ab Go.Fl
attribute [local irreducible] SeqQ BlkQ LpQ RetQ Wc Wo WD WX Op1 Op1q Op1a Cf Cl From
attribute [local irreducible] Ieee.Format.order Ieee.Format.read Ieee.Format.nearest Ieee.Format.write Ieee.Format.mul Ieee.Format.div Ieee.Datum.order Ieee.Datum.integral smpE smp smpW K J U trE hdrE lchk firstNZ isNameB wid mism shE
set_option maxRecDepth 10000
variable {G : Base} {h : H}
set_option maxHeartbeats 4000000 in
theorem c30 {nm : ByteArray} {a : Option Addr} {n c : Nat} {ts : List Trc} (s : SlT G h (.slice a n c) n ts) (hn : n < 1000000) (hl : ∀ t ∈ ts, t.n < 1000000) (hw : Wf h) (hG : ∀ a v, laidBase a = some v → G a = some v) : Cf (mz G) (.func (.func 30) #[] #[]) [.agg ⟨shC nm a n c⟩] h fun r h' => r = .tuple #[.int .i64 (if shE nm ts ≠ 0 then 0 else (wid ts : Nat)), .int .i64 (shE nm ts)] ∧ Grow h h' := by
 have q41 := fun (h' : H) (g : Grow h h') (w : Wf h') => c41 (nm := nm) (s.grow g) hn hl w hG
 have q103 := fun (h' : H) (g : Grow h h') (w : Wf h') => c103 (nm := nm) (s.grow g) hn w
 obtain ⟨E, hE⟩ : ∃ E, shE nm ts = E := ⟨_, rfl⟩
 rw [hE] at q41 ⊢
 by_cases h0 : E ≠ 0
 · rw [if_pos h0]
   refine ar_ 12 [.tmp 2, .tmp 3] Tryz.func30 rfl rfl rfl rfl ?_
   repeat' (first | with_reducible refine am_ ?_ | ((with_reducible refine al_ ?_); first | ((with_reducible refine ak_ ?_); refine ac_ (ag_ rfl) ?_) | ((with_reducible refine ae_ ?_); refine ac_ (ad_ rfl) ?_) | ((with_reducible refine bw_ ?_); refine ac_ (aL_ rfl cc_ rfl) ?_) | ((with_reducible refine au_ ?_); refine ac_ (ay_ rfl an_ Tryz.underlying54 rfl cc_ rfl rfl) ?_) | ((with_reducible refine av_ ?_); refine ac_ (bm_ rfl rfl) ?_) | ((with_reducible refine aN_ ?_); (refine aW_ rfl rfl rfl rfl (q41 _ aD_ aZ_) rfl rfl ?_; rintro _ _ ⟨rfl, hq⟩; all_goals ((try (have hqn := hq.nx)); (try simp only [bG_] at hqn))))) | (with_reducible first | refine ah_ ?_ | refine ao_ ?_ | refine ab_ ?_ | refine aA_ ?_ | refine bd_ ?_) | (refine aK_ rfl (fun hb => ?_) (fun hb => aH_ hb); (try simp only [bj_, reduceCtorEq] at hb)))
   all_goals exact rq2 rfl rfl ⟨rfl, aD_⟩
 · rw [if_neg h0]
   have h0 : E = 0 := by simpa using h0
   subst h0
   refine ar_ 12 [.tmp 2, .tmp 3] Tryz.func30 rfl rfl rfl rfl ?_
   repeat' (first | with_reducible refine am_ ?_ | ((with_reducible refine al_ ?_); first | ((with_reducible refine ak_ ?_); refine ac_ (ag_ rfl) ?_) | ((with_reducible refine ae_ ?_); refine ac_ (ad_ rfl) ?_) | ((with_reducible refine bw_ ?_); refine ac_ (aL_ rfl cc_ rfl) ?_) | ((with_reducible refine au_ ?_); refine ac_ (ay_ rfl an_ Tryz.underlying54 rfl cc_ rfl rfl) ?_) | ((with_reducible refine av_ ?_); refine ac_ (bm_ rfl rfl) ?_) | ((with_reducible refine aN_ ?_); first | (refine aW_ rfl rfl rfl rfl (q41 _ aD_ aZ_) rfl rfl ?_; rintro _ _ ⟨rfl, hq⟩; all_goals ((try (have hqn := hq.nx)); (try simp only [bG_] at hqn))) | (refine aW_ rfl rfl rfl rfl (q103 _ aD_ aZ_) rfl rfl ?_; rintro _ _ ⟨rfl, hq⟩; all_goals ((try (have hqn := hq.nx)); (try simp only [bG_] at hqn))))) | (with_reducible first | refine ah_ ?_ | refine ao_ ?_ | refine ab_ ?_ | refine az_ ?_ | refine aA_ ?_) | refine bs_ rfl ?_)
   all_goals exact rq2 rfl rfl ⟨rfl, aD_⟩
set_option maxHeartbeats 4000000 in
theorem c32 {nm : ByteArray} {a : Option Addr} {n c : Nat} {ts : List Trc} (s : SlT G h (.slice a n c) n ts) (hn : n < 1000000) (hl : ∀ t ∈ ts, t.n < 1000000) (hw : Wf h) (hG : ∀ a v, laidBase a = some v → G a = some v) : Cf (mz G) (.func (.func 32) #[] #[]) [.agg ⟨shC nm a n c⟩] h fun r h' => (∃ w, r = .tuple #[w, .int .i64 (shE nm ts)] ∧ Sl G h' 1 w (if shE nm ts ≠ 0 then [] else holL 0 ts).length ((if shE nm ts ≠ 0 then [] else holL 0 ts).map (.int .i64))) ∧ Grow h h' := by
 have hlen := s.len
 have hll := holL_len ts 0
 have q41 := fun (h' : H) (g : Grow h h') (w : Wf h') => c41 (nm := nm) (s.grow g) hn hl w hG
 obtain ⟨E, hE⟩ : ∃ E, shE nm ts = E := ⟨_, rfl⟩
 rw [hE] at q41
 simp only [hE]
 clear hE
 by_cases h0 : E ≠ 0
 · simp only [if_pos h0]
   refine ar_ 29 [.tmp 2, .tmp 3] Tryz.func32 rfl rfl rfl rfl ?_
   repeat' (first | with_reducible refine am_ ?_ | ((with_reducible refine al_ ?_); first | ((with_reducible refine ak_ ?_); refine ac_ (ag_ rfl) ?_) | ((with_reducible refine ae_ ?_); refine ac_ (ad_ rfl) ?_) | ((with_reducible refine bw_ ?_); refine ac_ (aL_ rfl cc_ rfl) ?_) | ((with_reducible refine au_ ?_); refine ac_ (ay_ rfl an_ Tryz.underlying54 rfl cc_ rfl rfl) ?_) | ((with_reducible refine av_ ?_); refine ac_ (bm_ rfl rfl) ?_) | ((with_reducible refine aN_ ?_); (refine aW_ rfl rfl rfl rfl (q41 _ aD_ aZ_) rfl rfl ?_; rintro _ _ ⟨rfl, hq⟩; all_goals ((try (have hqn := hq.nx)); (try simp only [bG_] at hqn))))) | (with_reducible first | refine ah_ ?_ | refine ao_ ?_ | refine ab_ ?_ | refine aA_ ?_ | refine bd_ ?_) | (refine aK_ rfl (fun hb => ?_) (fun hb => aH_ hb); (try simp only [bj_, reduceCtorEq] at hb)))
   all_goals exact rq2 rfl rfl ⟨⟨_, rfl, .nil⟩, aD_⟩
 simp only [if_neg h0]
 have h0 : E = 0 := by simpa using h0
 subst h0
 refine ar_ 29 [.tmp 2, .tmp 3] Tryz.func32 rfl rfl rfl rfl ?_
 repeat' (first | with_reducible refine am_ ?_ | ((with_reducible refine al_ ?_); first | ((with_reducible refine ak_ ?_); refine ac_ (ag_ rfl) ?_) | ((with_reducible refine ae_ ?_); refine ac_ (ad_ rfl) ?_) | ((with_reducible refine bw_ ?_); refine ac_ (aL_ rfl cc_ rfl) ?_) | ((with_reducible refine au_ ?_); first | refine ac_ (ay_ rfl an_ Tryz.underlying54 rfl cc_ rfl rfl) ?_ | refine ac_ (aq_ rfl an_ Tryz.underlying52 rfl rfl) ?_) | ((with_reducible refine av_ ?_); refine ac_ (bm_ rfl rfl) ?_) | ((with_reducible refine ap_ ?_); refine ac_ (aa_ (o := 1) rfl Tryz.underlying54 rfl zs52 rfl) ?_) | ((with_reducible refine aC_ ?_); refine ac_ (ax_ rfl Tryz.underlying52) ?_) | ((with_reducible refine aN_ ?_); (refine aW_ rfl rfl rfl rfl (q41 _ aD_ aZ_) rfl rfl ?_; rintro _ _ ⟨rfl, hq⟩; all_goals ((try (have hqn := hq.nx)); (try simp only [bG_] at hqn))))) | (with_reducible first | refine ah_ ?_ | refine ao_ ?_ | refine ab_ ?_ | refine az_ ?_ | refine at_ ?_) | refine bs_ rfl ?_)
 refine wc_cut (fun _ : Unit => [(5, .slice none 0 0), (14, .slice a n c), (15, .int .i64 n), (16, .int .i64 0)]) (fun _ h' => Wf h' ∧ Grow h h') () (ai_ ⟨rfl, rfl, rfl, rfl, trivial⟩) ⟨aZ_, aD_⟩ ?_
 clear q41
 rintro _ g0 ⟨w0, gr0⟩
 refine bq_ (fun p : Nat × Value × List Int => n - p.1) (fun p => [(5, p.2.1), (14, .slice a n c), (15, .int .i64 n), (16, .int .i64 (p.1 : Nat))]) (fun p h' => Wf h' ∧ p.1 ≤ n ∧ Ow g0 h' 3 1 p.2.1 p.2.2.length (p.2.2.map (.int .i64)) ∧ p.2.2 ++ holL p.1 (ts.drop p.1) = holL 0 ts) (0, .slice none 0 0, []) (ai_ ⟨rfl, rfl, rfl, rfl, trivial⟩) ⟨w0, Nat.zero_le _, .nil (.refl _), rfl⟩ ?_
 rintro ⟨k, v, L⟩ h' ⟨hw', hk, ow, hi⟩
 simp only at hk ow hi ⊢
 have hgr : Grow h h' := gr0.trans ow.grow
 have hgn := hgr.nx
 have hgn2 := ow.grow.nx
 have hLl : L.length ≤ n := by have := congrArg List.length hi; simp at this; omega
 by_cases hlt : k < n
 · obtain ⟨ad, h1, h3⟩ := cA_ (s.grow hgr) Tryz.underlying52 ch_ (i := (k : Int)) hlt rfl
   rw [List.drop_eq_getElem_cons (by omega)] at hi
   obtain ⟨t, ht⟩ : ∃ t, ts[k]'(by omega) = t := ⟨_, rfl⟩
   rw [ht] at h3 hi
   obtain ⟨hd, hole, sa, tn, tc, tl⟩ := t
   dsimp only [Trc.cells] at h3
   clear ht
   simp only [holL] at hi
   cases hole with
   | true =>
     have gbox : Grow h' ((h'.push (.cells [.int .i64 0, .int .i64 0, .int .i64 0, .int .i64 0, .int .i64 0, .int .i64 0, .int .i64 0, .int .i64 0, .bool false, .slice none 0 0] 58 10 false)).set h'.nx (.cells (Trc.cells ⟨hd, true, sa, tn, tc, tl⟩) 58 10 false)) := aD_
     have wbox : Wf ((h'.push (.cells [.int .i64 0, .int .i64 0, .int .i64 0, .int .i64 0, .int .i64 0, .int .i64 0, .int .i64 0, .int .i64 0, .bool false, .slice none 0 0] 58 10 false)).set h'.nx (.cells (Trc.cells ⟨hd, true, sa, tn, tc, tl⟩) 58 10 false)) := aZ_
     obtain ⟨r2, h4, hap, ow3, _, hwf, _⟩ := append_ow (M := mz G) (st := 25) (xt := 25) (new := [.int .i64 k]) (m := 1) Tryz.underlying25 Tryz.underlying25 rfl zs3 zb3 zz3 rfl (ow.next (gbox.push (.cells [.int .i64 k] 3 1 false))) (Sl.ofAt (At.new _ _) rfl (Nat.le_refl _)) rfl (by omega)
     repeat' (first | with_reducible refine am_ ?_ | ((with_reducible refine al_ ?_); first | ((with_reducible refine ak_ ?_); refine ac_ (ag_ rfl) ?_) | ((with_reducible refine ae_ ?_); refine ac_ (ad_ rfl) ?_) | ((with_reducible refine aw_ ?_); refine ac_ (as_ rfl rfl h1) ?_) | ((with_reducible refine au_ ?_); first | refine ac_ (bJ_ rfl Tryz.underlying58 rfl ch_ h3.all) ?_ | refine ac_ (aq_ rfl an_ Tryz.underlying4 rfl rfl) ?_) | ((with_reducible refine aC_ ?_); refine ac_ (cJ_ rfl rfl hap) ?_) | ((with_reducible refine av_ ?_); first | refine ac_ (aF_ rfl rfl) ?_ | refine ac_ (aR_ rfl rfl (w64 (by omega) (by omega))) ?_) | ((with_reducible refine ap_ ?_); refine ac_ (aa_ (o := 8) rfl Tryz.underlying58 rfl zs4 rfl) ?_) | ((with_reducible refine aU_ ?_); refine ac_ (aQ_ zz58 ch_ rfl rfl rfl) ?_) | ((with_reducible refine aG_ ?_); refine ci_ (aM_ rfl rfl an_ ch_ rfl rfl rfl rfl) ?_) | ((with_reducible refine ca_ ?_); refine ac_ (cl_ rfl Tryz.underlying25 zs3 zz3 rfl rfl) ?_)) | (with_reducible first | refine ah_ ?_ | refine ao_ ?_ | refine ab_ ?_ | refine az_ ?_ | refine at_ ?_ | refine aP_ ?_) | refine bP_ rfl ?_ | (refine aK_ rfl (fun hb => ?_) (fun hb => aH_ hb); (try simp only [bj_, reduceCtorEq] at hb)))
     all_goals exact aX_ (k + 1, r2, L ++ [(k : Int)]) (by simp only; omega) (ai_ ⟨rfl, rfl, rfl, rfl, trivial⟩) ⟨hwf (wbox.push _), by simp only; omega, by simpa using ow3, by simpa using hi⟩
   | false =>
     repeat' (first | with_reducible refine am_ ?_ | ((with_reducible refine al_ ?_); first | ((with_reducible refine ak_ ?_); refine ac_ (ag_ rfl) ?_) | ((with_reducible refine ae_ ?_); refine ac_ (ad_ rfl) ?_) | ((with_reducible refine aw_ ?_); refine ac_ (as_ rfl rfl h1) ?_) | ((with_reducible refine au_ ?_); first | refine ac_ (bJ_ rfl Tryz.underlying58 rfl ch_ h3.all) ?_ | refine ac_ (aq_ rfl an_ Tryz.underlying4 rfl rfl) ?_) | ((with_reducible refine av_ ?_); first | refine ac_ (aF_ rfl rfl) ?_ | refine ac_ (aR_ rfl rfl (w64 (by omega) (by omega))) ?_) | ((with_reducible refine ap_ ?_); refine ac_ (aa_ (o := 8) rfl Tryz.underlying58 rfl zs4 rfl) ?_) | ((with_reducible refine aU_ ?_); refine ac_ (aQ_ zz58 ch_ rfl rfl rfl) ?_) | ((with_reducible refine aG_ ?_); refine ci_ (aM_ rfl rfl an_ ch_ rfl rfl rfl rfl) ?_)) | (with_reducible first | refine ah_ ?_ | refine ao_ ?_ | refine ab_ ?_ | refine az_ ?_ | refine at_ ?_ | refine aP_ ?_) | refine bs_ rfl ?_ | (refine aK_ rfl (fun hb => ?_) (fun hb => aH_ hb); (try simp only [bj_, reduceCtorEq] at hb)))
     all_goals exact aX_ (k + 1, v, L) (by simp only; omega) (ai_ ⟨rfl, rfl, rfl, rfl, trivial⟩) ⟨aZ_, by simp only; omega, ow.next aD_, by simpa using hi⟩
 · repeat' (first | with_reducible refine am_ ?_ | ((with_reducible refine al_ ?_); first | ((with_reducible refine ak_ ?_); refine ac_ (ag_ rfl) ?_) | ((with_reducible refine ae_ ?_); refine ac_ (ad_ rfl) ?_) | ((with_reducible refine av_ ?_); refine ac_ (aF_ rfl rfl) ?_)) | (with_reducible first | refine ah_ ?_ | refine ao_ ?_ | refine ab_ ?_ | refine aA_ ?_ | refine be_ ?_ | refine bf_ ?_ | refine bi_ ?_) | refine bS_ rfl ?_ | (refine aK_ rfl (fun hb => aH_ hb) (fun hb => ?_); (try simp only [bj_, reduceCtorEq] at hb)))
   rw [List.drop_eq_nil_of_le (by omega)] at hi
   have e : L = holL 0 ts := by rw [← hi]; simp [holL]
   refine rq2 rfl rfl ⟨⟨_, rfl, ?_⟩, hgr⟩
   rw [← e]
   exact ow.sl
end Go.Proofs.YthnnndkfpamacaaGreatDoor
/- Copies of a shot are like her. -/
namespace Go.Proofs.YthnnndkfpamacaaGreatDoor
open Go Go.Ab Go.Fl
variable {G : Base} {h : H}
theorem cD_ {t u : Trc} (q : t.key = u.key) : t.hd = u.hd ∧ t.hole = u.hole ∧ t.n = u.n ∧ t.l = u.l := by
 simp only [Trc.key, Prod.mk.injEq] at q
 exact ⟨q.1, q.2.1, q.2.2.1, q.2.2.2⟩
theorem trE_key {t u : Trc} (q : t.key = u.key) : trE t = trE u := by
 obtain ⟨e1, e2, e3, e4⟩ := cD_ q
 unfold trE
 rw [e1, e2, e3, e4]
theorem keys_cons {t u : Trc} {ts us : List Trc} (q : (t :: ts).map Trc.key = (u :: us).map Trc.key) : t.key = u.key ∧ ts.map Trc.key = us.map Trc.key := by simpa using q
theorem keys_trE : ∀ {ts us : List Trc}, us.map Trc.key = ts.map Trc.key → us.map trE = ts.map trE
 | [], [], _ => rfl
 | t :: ts, u :: us, q => by
   obtain ⟨q1, q2⟩ := keys_cons q
   rw [List.map_cons, List.map_cons, trE_key q1, keys_trE q2]
 | [], _ :: _, q => by simp at q
 | _ :: _, [], q => by simp at q
theorem keys_wid : ∀ {ts us : List Trc}, us.map Trc.key = ts.map Trc.key → wid us = wid ts
 | [], [], _ => rfl
 | t :: ts, u :: us, q => by
   obtain ⟨q1, q2⟩ := keys_cons q
   obtain ⟨_, e2, e3, _⟩ := cD_ q1
   rw [wid, wid, e2, e3, keys_wid q2]
 | [], _ :: _, q => by simp at q
 | _ :: _, [], q => by simp at q
theorem keys_mism {w : Nat} : ∀ {ts us : List Trc}, us.map Trc.key = ts.map Trc.key → mism w us = mism w ts
 | [], [], _ => rfl
 | t :: ts, u :: us, q => by
   obtain ⟨q1, q2⟩ := keys_cons q
   obtain ⟨_, e2, e3, _⟩ := cD_ q1
   have := keys_mism (w := w) q2
   unfold mism at this ⊢
   rw [List.any_cons, List.any_cons, e2, e3, this]
 | [], _ :: _, q => by simp at q
 | _ :: _, [], q => by simp at q
theorem keys_shE {nm : ByteArray} {ts us : List Trc} (q : us.map Trc.key = ts.map Trc.key) : shE nm us = shE nm ts := by
 have hl : us.length = ts.length := by simpa using congrArg List.length q
 unfold shE
 rw [hl, keys_trE q, keys_wid q, keys_mism q]
theorem keys_n {ts us : List Trc} (q : us.map Trc.key = ts.map Trc.key) {N : Nat} (h : ∀ t ∈ ts, t.n < N) : ∀ t ∈ us, t.n < N := by
 intro u hu
 have : u.key ∈ ts.map Trc.key := by rw [← q]; exact List.mem_map_of_mem hu
 obtain ⟨t, ht, e⟩ := List.mem_map.1 this
 rw [← (cD_ e).2.2.1]
 exact h t ht
end Go.Proofs.YthnnndkfpamacaaGreatDoor
