/- Two shots merged, what follows a shot, shots joined by the program. -/
import Derived.Test.YthnnndkfpamacaaGreatDoorM2
set_option linter.all false
/- Two shots merged by the program. -/
namespace Go.Proofs.YthnnndkfpamacaaGreatDoor
open Go Go.Ab Go.Fl
attribute [local irreducible] SeqQ BlkQ LpQ RetQ Wc Wo WD WX Op1 Op1q Op1a Cf Cl From
attribute [local irreducible] Ieee.Format.order Ieee.Format.read Ieee.Format.nearest Ieee.Format.write Ieee.Format.mul Ieee.Format.div Ieee.Datum.order Ieee.Datum.integral smpE smp smpW K J U trE hdrE lchk firstNZ isNameB wid mism shE offs shortB anyLarge spanE
set_option maxRecDepth 10000
variable {G : Base} {h : H}
theorem copy52 {h0 : H} {v : Value} {n : Nat} {ts : List Trc} (s : SlT G h0 v n ts) (hn : n < 1000000) (g : H) (B : Nat) (hat : At g B (.cells [] 58 10 false)) (hg : Grow h0 g) :
   ∃ r h2, aappend (mz G).P (mz G).G g 52 52 (.slice (some ⟨B, 0, some 0⟩) 0 0) v = some (r, h2) ∧ ((∃ b sf, r = .slice (some ⟨b, 0, some 0⟩) n n ∧ B ≤ b ∧ At h2 b (.cells (ts.flatMap Trc.cells) 58 10 sf)) ∧ Grow g h2) := by
 obtain ⟨r, h2, e, q, g2, _⟩ := append_copy2 (M := mz G) (st := 52) (xt := 52) (h := g) Tryz.underlying52 Tryz.underlying52 rfl ch_ zb58 zz58 rfl hat (s.sl.grow hg) (flat_one ts) (by omega)
 exact ⟨r, h2, e, q, g2⟩
theorem sl_has {es n : Nat} {v : Value} {l : List Value} {a : Option Addr} {c : Nat} (s : Sl G h es v n l) (hv : v = .slice a n c) (hn : 0 < n) : ∃ ad, a = some ad := by
 cases s with
 | nil => omega
 | end' => omega
 | mem ad => cases hv; exact ⟨_, rfl⟩
set_option maxHeartbeats 4000000 in
theorem c161 {a : Option Addr} {n c : Nat} {ts : List Trc} (s : SlT G h (.slice a n c) n ts) (hn : n < 1000000) (hn0 : 0 < n) (hw : Wf h) : Cf (mz G) (.func (.func 161) #[] #[]) [.slice a n c] h fun r h' => (∃ b sf, r = .slice (some ⟨b, 0, some 0⟩) n n ∧ h.nx ≤ b ∧ At h' b (.cells (ts.flatMap Trc.cells) 58 10 sf)) ∧ Grow h h' := by
 have qap := copy52 s hn
 obtain ⟨ad, rfl⟩ := sl_has s.sl rfl hn0
 refine ar_ 8 [.tmp 2] Tryz.func161 rfl rfl rfl rfl ?_
 repeat' (first | with_reducible refine am_ ?_ | ((with_reducible refine al_ ?_); first | ((with_reducible refine ak_ ?_); refine ac_ (ag_ rfl) ?_) | ((with_reducible refine ae_ ?_); refine ac_ (ad_ rfl) ?_) | ((with_reducible refine av_ ?_); refine ac_ (op_aeq (r := false) rfl rfl rfl (by show aeq Tryz.prog 52 _ _ = _; simp only [aeq, Tryz.underlying52])) ?_) | ((with_reducible refine ca_ ?_); refine ac_ (cl_ rfl Tryz.underlying52 ch_ zz58 rfl rfl) ?_)) | (with_reducible first | refine ah_ ?_ | refine ao_ ?_ | refine ab_ ?_ | refine az_ ?_ | refine aA_ ?_) | refine bs_ rfl ?_ | ((with_reducible refine al_ ?_); (with_reducible refine aC_ ?_); refine wo_opx rfl (opx_app rfl rfl (qap _ _ an_ aD_)) rfl rfl ?_; rintro _ _ ⟨⟨b1, sf1, rfl, hb1, hatS⟩, hq⟩; have hqn := hq.nx; (try simp only [bG_] at hqn hb1)))
 all_goals exact rq1 rfl ⟨⟨_, _, rfl, by omega, hatS⟩, aD_⟩
def InOk (G : Base) (h : H) (fv : Value) (P : List Int → List Int → Prop) (f : List Int → List Int → List Int) : Prop :=
 ∀ l y, P l y → ((f l y).length < 1000000 ∧ ∀ x ∈ f l y, x.natAbs ≤ 1000000000000) ∧
   ∀ (g0 g : H) (b : Nat), Grow h g0 → Wf g0 → Grow g0 g → At g g0.nx (.cells (l.map (.int .i64)) 3 1 false) → At g b (.cells (y.map (.int .i64)) 3 1 false) → b ≠ g0.nx →
   Cf (mz G) fv [.slice (some ⟨g0.nx, 0, some 0⟩) l.length l.length, .slice (some ⟨b, 0, some 0⟩) y.length y.length] g fun r g' => (∃ a c, r = .slice a (f l y).length c ∧ Sl G g' 1 (.slice a (f l y).length c) (f l y).length ((f l y).map (.int .i64))) ∧ Grow g0 g'
def getL (us : List Trc) (k : Nat) : List Int := match us[k]? with | some u => u.l.map smp | none => []
theorem getL_eq {us : List Trc} {k : Nat} (hk : k < us.length) : getL us k = (us[k]).l.map smp := by unfold getL; rw [List.getElem?_eq_getElem hk]
def mrgF (f : List Int → List Int → List Int) (us : List Trc) (k : Nat) (l : List Int) : List Int := f l (getL us k)
set_option maxHeartbeats 4000000 in
theorem merged_clos {nm : ByteArray} {a : Option Addr} {n c : Nat} {us ms : List Trc} {fI B4 B5 : Nat} {P : List Int → List Int → Prop} {f : List Int → List Int → List Int} (s : SlT G h (.slice a n c) n us) (hn : n < 1000000) (hl : ∀ t ∈ us, t.n < 1000000) (hm : ms.length ≤ n) (hmn : ∀ t ∈ ms, t.l.length = t.n)
   (hv : ∀ k (q : k < ms.length) (q' : k < us.length), (ms[k]).hole = false → (∀ x ∈ (us[k]).l, smpE x = 0) ∧ P ((ms[k]).l.map smp) ((us[k]).l.map smp)) (hI : InOk G h (.func (.func fI) #[] #[]) P f)
   (a5 : At h B5 (.cells [.func (.func fI) #[] #[]] 179 1 false)) (a4 : At h B4 (.cells (shC nm a n c) 54 2 false)) :
   ClosOk G h (.func (.func 162) #[] #[.pointer (some ⟨B5, 0, some 0⟩), .pointer (some ⟨B4, 0, some 0⟩)]) ms (mrgF f us) := by
 intro k q hh
 have hlen := s.len
 have hku : k < us.length := by omega
 obtain ⟨hx, hP⟩ := hv k q hku hh
 obtain ⟨hb, hc⟩ := hI _ _ hP
 unfold mrgF
 rw [getL_eq hku]
 refine ⟨hb, fun g0 g g1 w0 g2 at2 => ?_⟩
 have hm1 := hmn _ (List.getElem_mem q)
 have hu1 := s.ok _ (List.getElem_mem hku)
 have hu2 := hl _ (List.getElem_mem hku)
 obtain ⟨ad, f1, f3⟩ := cA_ (s.grow (g1.trans g2)) Tryz.underlying52 ch_ (i := (k : Int)) (by omega) rfl
 have q134 := fun (h2 : H) (g : Grow h h2) (w : Wf h2) => c135o (hu1.sl.grow g) hu2 hx w
 have hul : (us[k]).l.length = (us[k]).n := by simpa using hu1.sl.length
 have w := g2.wf w0
 have a5 := a5.grow (g1.trans g2)
 have a4 := a4.grow (g1.trans g2)
 have gg := g1.trans g2
 obtain ⟨u, hu⟩ : ∃ u, us[k] = u := ⟨_, rfl⟩
 obtain ⟨t, ht⟩ : ∃ t, ms[k] = t := ⟨_, rfl⟩
 rw [hu] at f3 q134 hul hc ⊢
 rw [ht] at hm1 at2 hc ⊢
 clear hu ht hu1 hx hP hb hv
 obtain ⟨hd, hole, sa, tn, tc, tl⟩ := u
 obtain ⟨L, hL⟩ : ∃ L, t.l.map smp = L := ⟨_, rfl⟩
 have hLn : L.length = t.n := by rw [← hL]; simpa using hm1
 rw [hL] at at2 hc ⊢
 obtain ⟨Y, hY⟩ : ∃ Y, tl.map smp = Y := ⟨_, rfl⟩
 have hYn : Y.length = tn := by rw [← hY]; simpa using hul
 rw [← hLn]
 simp only [hY] at q134 hc ⊢
 rw [← hYn] at q134
 dsimp only [Trc.cells] at f3
 have f9 := f3.get 9 _ rfl
 rw [← hYn] at f9
 refine cf_enter (sz := 17) (rs := [.tmp 6]) (all := [.int .i64 k, .slice (some ⟨g0.nx, 0, some 0⟩) L.length L.length, .pointer (some ⟨B5, 0, some 0⟩), .pointer (some ⟨B4, 0, some 0⟩)]) Tryz.func162 rfl rfl rfl rfl rfl ?_
 repeat' (first | with_reducible refine am_ ?_ | ((with_reducible refine al_ ?_); ((with_reducible refine ae_ ?_); refine ac_ (ad_ rfl) ?_)) | ((with_reducible refine bL_ ?_); ((with_reducible refine bK_ ?_); first | ((with_reducible refine bI_ ?_); refine bn_ (af_ rfl) rfl rfl (aE_ rfl (ag_ rfl)) rfl rfl rfl ?_) | ((with_reducible refine ck_ ?_); refine bn_ (af_ rfl) rfl rfl (aE_ rfl (ad_ rfl)) rfl rfl rfl ?_) | ((with_reducible refine bo_ ?_); refine bn_ (af_ rfl) rfl rfl (aE_ rfl (as_ rfl rfl f1)) rfl rfl rfl ?_) | ((with_reducible refine by_ ?_); first | refine bp_ (af_ rfl) rfl (aE_ rfl (aI_ rfl Tryz.underlying45 rfl f9)) rfl rfl rfl ?_ | refine bp_ (af_ rfl) rfl (aE_ rfl (aq_ rfl an_ Tryz.underlying179 rfl rfl)) rfl rfl rfl ?_ | refine bp_ (af_ rfl) rfl (aE_ rfl (aq_ rfl an_ Tryz.underlying52 rfl rfl)) rfl rfl rfl ?_) | ((with_reducible refine bh_ ?_); first | refine bn_ (af_ rfl) rfl rfl (aE_ rfl (aa_ (o := 1) rfl Tryz.underlying54 rfl zs52 rfl)) rfl rfl rfl ?_ | refine bn_ (af_ rfl) rfl rfl (aE_ rfl (aa_ (o := 9) rfl Tryz.underlying58 rfl zs45 rfl)) rfl rfl rfl ?_) | ((with_reducible refine bH_ ?_); first | (refine aV_ (af_ rfl) rfl rfl rfl rfl (q134 _ aD_ aZ_) rfl rfl ?_; rintro _ _ ⟨⟨rfl, hatI⟩, hq⟩; all_goals ((try (have hqn := hq.nx)); (try simp only [bG_] at hqn))) | (refine aV_ (af_ rfl) rfl rfl rfl rfl (hc _ _ _ g1 w0 aD_ an_ hatI (by have := at2.lt; (try simp only [H.nx_bump]); omega)) rfl rfl ?_; rintro _ _ ⟨⟨fa, fc, rfl, hfs⟩, hq⟩; all_goals ((try (have hqn := hq.nx)); (try simp only [bG_] at hqn)))) | with_reducible refine bN_ ?_ ?_)) | with_reducible exact bA_ | with_reducible refine bk_ ?_ ?_ | ((with_reducible refine bM_ ?_); first | exact bz_ | refine bx_ rfl ?_ | refine aB_ rfl rfl (aE_ rfl (aI_ rfl Tryz.underlying45 rfl f9)) ?_ | refine aB_ rfl rfl (aE_ rfl (aq_ rfl an_ Tryz.underlying179 rfl (by rfl))) ?_ | refine aB_ rfl rfl (aE_ rfl (aq_ rfl an_ Tryz.underlying52 rfl (by rfl))) ?_) | (with_reducible first | refine ah_ ?_ | refine ao_ ?_ | refine ab_ ?_ | refine aA_ ?_) | refine br_ (id := 1) 11 [0, 0, 0, 4, 0, 28, 60, 124, 252, 511, 1023] [0, 1, 2, 3, 4, 5, 6, 7, 8, 9, 10] (by kernel_rfl) (by kernel_rfl) rfl rfl ?_)
 all_goals exact rq1 rfl ⟨⟨_, _, rfl, hfs⟩, hq⟩
def msk (t u : Trc) : Trc := ⟨t.hd, t.hole || u.hole, t.sa, t.n, t.c, t.l⟩
def mskL (ts us : List Trc) : List Trc := List.zipWith msk ts us
theorem mskL_len {ts us : List Trc} (h : ts.length = us.length) : (mskL ts us).length = ts.length := by unfold mskL; simp [h]
theorem mskL_get {ts us : List Trc} {k : Nat} (hk : k < (mskL ts us).length) (h1 : k < ts.length) (h2 : k < us.length) : (mskL ts us)[k] = msk ts[k] us[k] := List.getElem_zipWith ..
theorem mskL_of {ts us vs : List Trc} (h : ts.length = us.length) (hl : vs.length = ts.length) (hv : ∀ i (q : i < vs.length) (q1 : i < ts.length) (q2 : i < us.length), vs[i] = msk ts[i] us[i]) : vs = mskL ts us :=
 List.ext_getElem (by rw [mskL_len h, hl]) fun i q1 q2 => by rw [mskL_get q2 (by omega) (by omega)]; exact hv i q1 (by omega) (by omega)
set_option maxHeartbeats 4000000 in
theorem c114 {nm nm' : ByteArray} {a a' : Option Addr} {n c c' : Nat} {ts us : List Trc} {fI : Nat} {P : List Int → List Int → Prop} {f : List Int → List Int → List Int} (s : SlT G h (.slice a n c) n ts) (s' : SlT G h (.slice a' n c') n us) (hn : n ≤ 65) (hn0 : 0 < n) (hl : ∀ t ∈ ts, t.n < 1000000) (hl' : ∀ t ∈ us, t.n < 1000000)
   (hv : ∀ t ∈ ts, ∀ x ∈ t.l, smpE x = 0) (hv' : ∀ t ∈ us, ∀ x ∈ t.l, smpE x = 0) (hP : ∀ k (q : k < ts.length) (q' : k < us.length), (ts[k]).hole = false → (us[k]).hole = false → P ((ts[k]).l.map smp) ((us[k]).l.map smp)) (hI : ∀ h, InOk G h (.func (.func fI) #[] #[]) P f) (hw : Wf h) :
   Cf (mz G) (.func (.func 114) #[] #[]) [.agg ⟨shC nm a n c⟩, .agg ⟨shC nm' a' n c'⟩, .func (.func fI) #[] #[]] h fun r h' => ((r = .tuple #[.agg ⟨zShot⟩, .int .i64 4] ∧ ChBad (mrgF f us) (mskL ts us)) ∨ (¬ ChBad (mrgF f us) (mskL ts us) ∧ ∃ (B : Nat) (vs : List Trc), r = .tuple #[.agg ⟨shC nm (some ⟨B, 0, some 0⟩) n n⟩, .int .i64 0] ∧ h.nx ≤ B ∧ At h' B (.cells (vs.flatMap Trc.cells) 58 10 false) ∧ (∀ u ∈ vs, TrN h' h.nx u) ∧ KeyAll vs (mskL ts us) (chKey (mrgF f us)))) ∧ Grow h h' := by
 have hlen := s.len
 have hlen' := s'.len
 have q160 := fun (h2 : H) (g : Grow h h2) (w : Wf h2) => c161 (s.grow g) (by omega) hn0 w
 refine ar_ 38 [.cell 6 54, .tmp 7] Tryz.func114 rfl rfl rfl rfl ?_
 refine bU_ (ι := Unit) (fun _ => [(3, .pointer (some ⟨h.nx, 0, some 0⟩)), (4, .pointer (some ⟨h.nx + 1, 0, some 0⟩)), (5, .pointer (some ⟨h.nx + 2, 0, some 0⟩)), (6, .pointer (some ⟨h.nx + 3, 0, some 0⟩)), (7, .int .i64 0)]) (fun _ h1 => (Wf h1 ∧ Grow h h1 ∧ h.nx + 4 ≤ h1.nx ∧ At h1 h.nx (.cells (shC nm a n c) 54 2 false) ∧ At h1 (h.nx + 1) (.cells (shC nm' a' n c') 54 2 false) ∧ At h1 (h.nx + 2) (.cells [.func (.func fI) #[] #[]] 179 1 false) ∧ At h1 (h.nx + 3) (.cells zShot 54 2 false))) ?_ ?_
 · repeat' (first | with_reducible refine am_ ?_ | ((with_reducible refine al_ ?_); first | ((with_reducible refine ae_ ?_); refine ac_ (ad_ rfl) ?_) | ((with_reducible refine bw_ ?_); first | refine ac_ (aL_ rfl cc_ rfl) ?_ | refine ac_ (op_box1 rfl rfl zs179) ?_) | ((with_reducible refine aU_ ?_); refine ac_ (aQ_ zz54 cc_ rfl rfl rfl) ?_)) | with_reducible refine ab_ ?_)
   exact ⟨rfl, (), ai_ ⟨rfl, rfl, rfl, rfl, rfl, trivial⟩, aZ_, aD_, (by simp only [H.nx_push]; omega), an_, an_, an_, an_⟩
 rintro _ h1 ⟨w1, g1, n1, a0, a1, a2, a3⟩
 refine bU_ (ι := Nat × Nat × Bool) (fun i => [(3, .pointer (some ⟨h.nx, 0, some 0⟩)), (4, .pointer (some ⟨h.nx + 1, 0, some 0⟩)), (5, .pointer (some ⟨h.nx + 2, 0, some 0⟩)), (6, .pointer (some ⟨h.nx + 3, 0, some 0⟩)), (7, .int .i64 0), (8, .pointer (some ⟨i.1, 0, some 0⟩))]) (fun i h1 => (Wf h1 ∧ Grow h h1 ∧ h.nx + 4 ≤ i.1 ∧ i.1 < i.2.1 ∧ i.2.1 < h1.nx ∧ At h1 h.nx (.cells (shC nm a n c) 54 2 false) ∧ At h1 (h.nx + 1) (.cells (shC nm' a' n c') 54 2 false) ∧ At h1 (h.nx + 2) (.cells [.func (.func fI) #[] #[]] 179 1 false) ∧ At h1 (h.nx + 3) (.cells zShot 54 2 false) ∧ At h1 i.1 (.cells (shC nm (some ⟨i.2.1, 0, some 0⟩) n n) 54 2 false)) ∧ At h1 i.2.1 (.cells (ts.flatMap Trc.cells) 58 10 i.2.2)) ?_ ?_
 · repeat' (first | ((with_reducible refine bL_ ?_); first | ((with_reducible refine bK_ ?_); first | ((with_reducible refine xk_alloc ?_); refine wx_a0 (af_ rfl) rfl (oa_alloc zz54 cc_ rfl rfl rfl) rfl rfl ?_) | ((with_reducible refine bh_ ?_); first | refine bn_ (af_ rfl) rfl rfl (aE_ rfl (aa_ (o := 0) rfl Tryz.underlying54 rfl zs9 rfl)) rfl rfl rfl ?_ | refine bn_ (af_ rfl) rfl rfl (aE_ rfl (aa_ (o := 1) rfl Tryz.underlying54 rfl zs52 rfl)) rfl rfl rfl ?_) | ((with_reducible refine by_ ?_); first | refine bp_ (af_ rfl) rfl (aE_ rfl (aq_ rfl an_ Tryz.underlying9 rfl rfl)) rfl rfl rfl ?_ | refine bp_ (af_ rfl) rfl (aE_ rfl (aq_ rfl an_ Tryz.underlying52 rfl rfl)) rfl rfl rfl ?_) | ((with_reducible refine xk_build ?_); refine bn_ (af_ rfl) rfl rfl (aE_ rfl (cz_ rfl zz54 zp54 rfl rfl)) rfl rfl rfl ?_) | ((with_reducible refine bH_ ?_); (refine aV_ (af_ rfl) rfl rfl rfl rfl (q160 _ aD_ aZ_) rfl rfl ?_; rintro _ _ ⟨⟨B, sf, rfl, hB, hatB⟩, hq⟩; all_goals ((try (have hqn := hq.nx)); (try simp only [bG_] at hqn))))) | ((with_reducible refine cf_ ?_); ((with_reducible refine xk_as1 ?_); refine wx_e01 (af_ rfl) rfl rfl rfl (aM_ rfl rfl an_ cc_ rfl rfl rfl rfl) rfl ?_)) | refine wx_niln ?_ ?_ rfl rfl ?_) | with_reducible exact bA_ | with_reducible refine bk_ ?_ ?_ | ((with_reducible refine bM_ ?_); first | exact bz_ | refine bx_ rfl ?_ | refine aB_ rfl rfl (aE_ rfl (aq_ rfl an_ Tryz.underlying9 rfl (by rfl))) ?_ | refine aB_ rfl rfl (aE_ rfl (aq_ rfl an_ Tryz.underlying52 rfl (by rfl))) ?_) | with_reducible exact stk_nil | with_reducible refine cK_ ?_ ?_ | ((with_reducible refine ik_stk ?_); first | exact stk_abs rfl rfl | exact cI_ rfl rfl aZ_ gr_B) | refine br_ (id := 1) 8 [0, 1, 0, 4, 12, 31, 0, 127] [0, 1, 2, 3, 4, 5, 6, 7] (by kernel_rfl) (by kernel_rfl) rfl rfl ?_)
   have hBn := hatB.lt
   simp only [H.nx_bump] at hB
   exact ⟨rfl, (_, B, sf), ai_ ⟨rfl, rfl, rfl, rfl, rfl, rfl, trivial⟩, ⟨aZ_, aD_, (by simp only; omega), (by simp only; omega), (by simp only [H.nx_set]; omega), an_, an_, an_, an_, an_⟩, an_⟩
 clear w1 g1 n1 a0 a1 a2 a3 h1 q160
 rintro ⟨b8, B, sf⟩ h1 ⟨⟨w1, g1, n1, n2, n3, a0, a1, a2, a3, a8⟩, aB⟩
 simp only at n1 n2 n3 a8 aB ⊢
 repeat' (first | with_reducible refine am_ ?_ | ((with_reducible refine al_ ?_); first | ((with_reducible refine ak_ ?_); refine ac_ (ag_ rfl) ?_) | ((with_reducible refine ap_ ?_); refine ac_ (aa_ (o := 1) rfl Tryz.underlying54 rfl zs52 rfl) ?_) | ((with_reducible refine au_ ?_); refine ac_ (aq_ rfl an_ Tryz.underlying52 rfl rfl) ?_) | ((with_reducible refine aC_ ?_); refine ac_ (ax_ rfl Tryz.underlying52) ?_)) | (with_reducible first | refine ah_ ?_ | refine ao_ ?_ | refine ab_ ?_ | refine at_ ?_))
 refine bq_ (fun k => n - k) (fun k : Nat => [(3, .pointer (some ⟨h.nx, 0, some 0⟩)), (4, .pointer (some ⟨h.nx + 1, 0, some 0⟩)), (5, .pointer (some ⟨h.nx + 2, 0, some 0⟩)), (6, .pointer (some ⟨h.nx + 3, 0, some 0⟩)), (7, .int .i64 0), (8, .pointer (some ⟨b8, 0, some 0⟩)), (18, .slice a' n c'), (19, .int .i64 n), (20, .int .i64 k)])
   (fun k h1 => (Wf h1 ∧ Grow h h1 ∧ B < h1.nx ∧ At h1 h.nx (.cells (shC nm a n c) 54 2 false) ∧ At h1 (h.nx + 1) (.cells (shC nm' a' n c') 54 2 false) ∧ At h1 (h.nx + 2) (.cells [.func (.func fI) #[] #[]] 179 1 false) ∧ At h1 (h.nx + 3) (.cells zShot 54 2 false) ∧ At h1 b8 (.cells (shC nm (some ⟨B, 0, some 0⟩) n n) 54 2 false)) ∧ k ≤ n ∧ ∃ vs : List Trc, At h1 B (.cells (vs.flatMap Trc.cells) 58 10 sf) ∧ vs.length = n ∧ ∀ i (q : i < vs.length) (q1 : i < ts.length) (q2 : i < us.length), vs[i] = if i < k then msk ts[i] us[i] else ts[i]) 0 (ai_ ⟨rfl, rfl, rfl, rfl, rfl, rfl, rfl, rfl, rfl, trivial⟩) ⟨⟨w1, g1, n3, a0, a1, a2, a3, a8⟩, Nat.zero_le _, ts, aB, hlen, fun i q q1 q2 => by rw [if_neg (by omega)]⟩ ?_
 clear w1 g1 n3 a0 a1 a2 a3 a8 aB h1
 rintro k h1 ⟨⟨w1, g1, n3, a0, a1, a2, a3, a8⟩, hk, vs, aB, hvl, hvs⟩
 by_cases hlt : k < n
 · obtain ⟨ad, f1, f3⟩ := cA_ (s'.grow g1) Tryz.underlying52 ch_ (i := (k : Int)) hlt rfl
   have hkv : k < vs.length := by omega
   have hvk := hvs k hkv (by omega) (by omega)
   rw [if_neg (by omega)] at hvk
   have hcl : (vs.flatMap Trc.cells).length = n * 10 := by rw [bY_, hvl]
   have hs8 := flat_set (v := .bool true) (j := 8) (by omega) vs k hkv ⟨(vs[k]).hd, true, (vs[k]).sa, (vs[k]).n, (vs[k]).c, (vs[k]).l⟩ rfl
   have hnext : (us[k]'(by omega)).hole = true → ∀ i (q : i < (vs.set k ⟨(vs[k]).hd, true, (vs[k]).sa, (vs[k]).n, (vs[k]).c, (vs[k]).l⟩).length) (q1 : i < ts.length) (q2 : i < us.length), (vs.set k ⟨(vs[k]).hd, true, (vs[k]).sa, (vs[k]).n, (vs[k]).c, (vs[k]).l⟩)[i] = if i < k + 1 then msk ts[i] us[i] else ts[i] := fun hh i q q1 q2 => by
     rw [List.getElem_set]
     split
     · rename_i e; subst e
       rw [if_pos (by omega), hvk]; unfold msk; rw [hh, Bool.or_true]
     · rename_i e
       rw [hvs i (by rw [List.length_set] at q; exact q) q1 q2]
       by_cases h1 : i < k
       · rw [if_pos h1, if_pos (by omega)]
       · rw [if_neg h1, if_neg (by omega)]
   have hsame : (us[k]'(by omega)).hole = false → ∀ i (q : i < vs.length) (q1 : i < ts.length) (q2 : i < us.length), vs[i] = if i < k + 1 then msk ts[i] us[i] else ts[i] := fun hh i q q1 q2 => by
     rw [hvs i q q1 q2]
     by_cases h1 : i < k
     · rw [if_pos h1, if_pos (by omega)]
     · rw [if_neg h1]
       by_cases h2 : i = k
       · subst h2
         rw [if_pos (by omega)]; unfold msk; rw [hh, Bool.or_false]
       · rw [if_neg (by omega)]
   clear hvs hvk
   obtain ⟨u, hu⟩ : ∃ u, us[k]'(by omega) = u := ⟨_, rfl⟩
   rw [hu] at f3 hnext hsame
   clear hu
   obtain ⟨hd, hole, sa, tn, tc, tl⟩ := u
   dsimp only [Trc.cells] at f3 hnext hsame
   cases hole with
   | true =>
     repeat' (first | with_reducible refine am_ ?_ | ((with_reducible refine al_ ?_); first | ((with_reducible refine ak_ ?_); refine ac_ (ag_ rfl) ?_) | ((with_reducible refine ae_ ?_); refine ac_ (ad_ rfl) ?_) | ((with_reducible refine aw_ ?_); first | refine ac_ (as_ rfl rfl f1) ?_ | refine ac_ (bF_ (b := B) (o := k * 10) rfl rfl Tryz.underlying52 ch_ (by omega) (by omega) (by omega)) ?_) | ((with_reducible refine au_ ?_); first | refine ac_ (bJ_ rfl Tryz.underlying58 rfl ch_ f3.all) ?_ | refine ac_ (aq_ rfl an_ Tryz.underlying52 rfl rfl) ?_ | refine ac_ (aq_ rfl an_ Tryz.underlying4 rfl rfl) ?_) | ((with_reducible refine aG_ ?_); first | refine ci_ (cC_ (b := B) (o := k * 10 + 8) rfl rfl an_ rfl zs4 (by omega) rfl hs8) ?_ | refine ci_ (aM_ rfl rfl an_ ch_ rfl rfl rfl rfl) ?_) | ((with_reducible refine aU_ ?_); refine ac_ (aQ_ zz58 ch_ rfl rfl rfl) ?_) | ((with_reducible refine ap_ ?_); first | refine ac_ (aa_ (o := 1) rfl Tryz.underlying54 rfl zs52 rfl) ?_ | refine ac_ (aa_ (o := 8) rfl Tryz.underlying58 rfl zs4 rfl) ?_) | ((with_reducible refine av_ ?_); first | refine ac_ (aF_ rfl rfl) ?_ | refine ac_ (aR_ rfl rfl (w64 (by omega) (by omega))) ?_)) | (with_reducible first | refine ah_ ?_ | refine ao_ ?_ | refine ab_ ?_ | refine az_ ?_ | refine at_ ?_ | refine aP_ ?_) | refine bP_ rfl ?_ | (refine aK_ rfl (fun hb => ?_) (fun hb => aH_ hb); (try simp only [bj_, reduceCtorEq] at hb)))
     all_goals exact aX_ (k + 1) (by omega) (ai_ ⟨rfl, rfl, rfl, rfl, rfl, rfl, rfl, rfl, rfl, trivial⟩) ⟨⟨aZ_, aD_, z6_A, an_, an_, an_, an_, an_⟩, by omega, _, an_, by rw [List.length_set, hvl], hnext rfl⟩
   | false =>
     repeat' (first | with_reducible refine am_ ?_ | ((with_reducible refine al_ ?_); first | ((with_reducible refine ak_ ?_); refine ac_ (ag_ rfl) ?_) | ((with_reducible refine ae_ ?_); refine ac_ (ad_ rfl) ?_) | ((with_reducible refine aw_ ?_); refine ac_ (as_ rfl rfl f1) ?_) | ((with_reducible refine au_ ?_); first | refine ac_ (bJ_ rfl Tryz.underlying58 rfl ch_ f3.all) ?_ | refine ac_ (aq_ rfl an_ Tryz.underlying4 rfl rfl) ?_) | ((with_reducible refine aU_ ?_); refine ac_ (aQ_ zz58 ch_ rfl rfl rfl) ?_) | ((with_reducible refine ap_ ?_); refine ac_ (aa_ (o := 8) rfl Tryz.underlying58 rfl zs4 rfl) ?_) | ((with_reducible refine aG_ ?_); refine ci_ (aM_ rfl rfl an_ ch_ rfl rfl rfl rfl) ?_) | ((with_reducible refine av_ ?_); first | refine ac_ (aF_ rfl rfl) ?_ | refine ac_ (aR_ rfl rfl (w64 (by omega) (by omega))) ?_)) | (with_reducible first | refine ah_ ?_ | refine ao_ ?_ | refine ab_ ?_ | refine az_ ?_ | refine at_ ?_ | refine aP_ ?_) | refine bs_ rfl ?_ | (refine aK_ rfl (fun hb => ?_) (fun hb => aH_ hb); (try simp only [bj_, reduceCtorEq] at hb)))
     all_goals exact aX_ (k + 1) (by omega) (ai_ ⟨rfl, rfl, rfl, rfl, rfl, rfl, rfl, rfl, rfl, trivial⟩) ⟨⟨aZ_, aD_, z6_A, an_, an_, an_, an_, an_⟩, by omega, vs, an_, hvl, hsame rfl⟩
 have hkn : k = n := by omega
 subst hkn
 have hms : vs = mskL ts us := mskL_of (by omega) (by omega) fun i q q1 q2 => by rw [hvs i q q1 q2, if_pos (by omega)]
 subst hms
 have hmk : ∀ t ∈ mskL ts us, ∃ i, ∃ q1 : i < ts.length, ∃ q2 : i < us.length, t = msk ts[i] us[i] := fun t ht => by
   obtain ⟨i, q, rfl⟩ := List.getElem_of_mem ht
   exact ⟨i, by omega, by omega, mskL_get q (by omega) (by omega)⟩
 have sm : SlT G h1 (.slice (some ⟨B, 0, some 0⟩) k k) k (mskL ts us) := ⟨Sl.ofAt aB (by rw [bY_, hvl]) (Nat.le_refl _), hvl, fun t ht => by
   obtain ⟨i, q1, q2, rfl⟩ := hmk t ht
   exact ⟨((s.ok _ (List.getElem_mem q1)).sl).grow g1⟩⟩
 have q110 := fun (h2 : H) (g : Grow h1 h2) (w : Wf h2) (b4 : At h2 (h.nx + 1) (.cells (shC nm' a' k c') 54 2 false)) (b5 : At h2 (h.nx + 2) (.cells [.func (.func fI) #[] #[]] 179 1 false)) =>
   c111 (nm := nm) (F := mrgF f us) (sm.grow g) hn hn0 (fun t ht => by obtain ⟨i, q1, q2, rfl⟩ := hmk t ht; exact hl ts[i] (List.getElem_mem q1)) (fun t ht _ => by obtain ⟨i, q1, q2, rfl⟩ := hmk t ht; exact hv ts[i] (List.getElem_mem q1)) w rfl
     (merged_clos (s'.grow (g1.trans g)) (by omega) hl' (by omega) (fun t ht => by obtain ⟨i, q1, q2, rfl⟩ := hmk t ht; simpa [msk] using (s.ok _ (List.getElem_mem q1)).sl.length)
       (fun i q q' hh => by
         rw [mskL_get q (by omega) q'] at hh ⊢
         simp only [msk, Bool.or_eq_false_iff] at hh ⊢
         exact ⟨hv' _ (List.getElem_mem q'), hP i (by omega) q' hh.1 hh.2⟩) (hI h2) b5 b4)
 clear hvs hmk sm
 repeat' (first | with_reducible refine am_ ?_ | ((with_reducible refine al_ ?_); first | ((with_reducible refine ae_ ?_); refine ac_ (ad_ rfl) ?_) | ((with_reducible refine ik_makeFunc ?_); refine ac_ (op_makeFunc (fun _ q => by cases q) rfl rfl) ?_) | ((with_reducible refine au_ ?_); refine ac_ (ay_ rfl an_ Tryz.underlying54 rfl cc_ rfl rfl) ?_) | ((with_reducible refine aG_ ?_); refine ci_ (aM_ rfl rfl an_ cc_ rfl rfl rfl rfl) ?_) | ((with_reducible refine av_ ?_); refine ac_ (aF_ rfl rfl) ?_) | ((with_reducible refine bR_ ?_); refine ac_ (bD_ rfl rfl) ?_) | ((with_reducible refine aN_ ?_); (refine aW_ rfl rfl rfl rfl (q110 _ aD_ aZ_ an_ an_) rfl rfl ?_; rintro _ _ ⟨(⟨rfl, hbad⟩ | ⟨hnb, B2, ws, rfl, hB2, hatB, hus, hka⟩), hq⟩; all_goals ((try (have hqn := hq.nx)); (try simp only [bG_] at hqn))))) | (with_reducible first | refine ah_ ?_ | refine ao_ ?_ | refine ab_ ?_ | refine aA_ ?_ | refine be_ ?_ | refine bf_ ?_ | refine bi_ ?_) | refine bS_ rfl ?_ | (refine aK_ rfl (fun hb => aH_ hb) (fun hb => ?_); (try simp only [bj_, reduceCtorEq] at hb)))
 · exact rqc2 rfl (ldAgg an_ Tryz.underlying54 rfl cc_ rfl rfl) rfl ⟨.inl ⟨rfl, hbad⟩, aD_⟩
 · have hgx := g1.nx
   exact rqc2 rfl (ldAgg an_ Tryz.underlying54 rfl cc_ rfl rfl) rfl ⟨.inr ⟨hnb, B2, ws, rfl, by omega, an_, fun u hu => ((hus u hu).set (by omega) _).le (by omega), hka⟩, aD_⟩
/- What follows a shot, by the program. -/
def hdB (x y : Nat → Int) : Bool := decide (x 0 = y 0) && (decide (x 1 = y 1) && (decide (x 2 = y 2) && (decide (x 3 = y 3) && (decide (x 4 = y 4) && (decide (x 5 = y 5) && (decide (x 6 = y 6) && (decide (x 7 = y 7) && true)))))))
theorem hd_eqv (x y : Nat → Int) : eqV Tryz.prog 3 44 (hdCells x) (hdCells y) = some (hdB x y) := eqv44 _ _ _ _ _ _ _ _ _ _ _ _ _ _ _ _
def ltrW (hd : Nat → Int) (w : Int) : Nat → Int := fun i => if i = 4 then IntKind.wrap .i64 (hd 4 + w) else hd i
def folM (w : Int) : List Trc → List Trc → Bool
 | t :: ts, u :: us => !hdB (ltrW t.hd w) u.hd || folM w ts us
 | _, _ => false
def bigM : List Trc → List Trc → Bool
 | t :: ts, u :: us => (!t.hole && !u.hole && decide (1024 < t.n + u.n)) || bigM ts us
 | _, _ => false
def folE (ts us : List Trc) : Int := if ts.length ≠ us.length then 2 else if folM (wid ts : Nat) ts us = true then 24 else if bigM ts us = true then 5 else 0
/- Lists joined by the program. -/
end Go.Proofs.YthnnndkfpamacaaGreatDoor
/- Shots joined by the program. -/
namespace Go.Proofs.YthnnndkfpamacaaGreatDoor
open Go Go.Ab Go.Fl
attribute [local irreducible] SeqQ BlkQ LpQ RetQ Wc Wo WD WX Op1 Op1q Op1a Cf Cl From
attribute [local irreducible] Ieee.Format.order Ieee.Format.read Ieee.Format.nearest Ieee.Format.write Ieee.Format.mul Ieee.Format.div Ieee.Datum.order Ieee.Datum.integral smpE smp smpW K J U trE hdrE lchk firstNZ isNameB wid mism shE offs shortB anyLarge spanE folE
set_option maxRecDepth 10000
variable {G : Base} {h : H}
theorem first3 (a b c : Int) : firstNZ [a, b, c] = if a ≠ 0 then a else if b ≠ 0 then b else c := by
 unfold firstNZ; unfold firstNZ; unfold firstNZ; unfold firstNZ
 by_cases h : a = 0
 · simp only [h]
   by_cases k : b = 0
   · simp only [k]; by_cases q : c = 0 <;> simp [q]
   · simp [k]
 · simp [h]
theorem first3_zero {a b c : Int} (h : firstNZ [a, b, c] = 0) : a = 0 ∧ b = 0 ∧ c = 0 := by
 rw [first3] at h
 split at h
 · exact absurd h (by assumption)
 · split at h
   · exact absurd h (by assumption)
   · rename_i h1 h2
     exact ⟨by simpa using h1, by simpa using h2, h⟩
theorem valid_facts {nm : ByteArray} {v : Value} {n : Nat} {ts : List Trc} (s : SlT G h v n ts) (hE : shE nm ts = 0) : (0 < n ∧ n ≤ 64) ∧ (∀ t ∈ ts, t.l.length = t.n) ∧ (∀ t ∈ ts, t.n ≤ 1024) ∧ (∀ t ∈ ts, ∀ x ∈ t.l, smpE x = 0) ∧ (∀ t ∈ ts, t.hole = true → t.n = 0) := by
 obtain ⟨k1, k2, k3, k4, k5⟩ := shE_ok hE
 have hlen := s.len
 have hll : ∀ t ∈ ts, t.l.length = t.n := fun t ht => by simpa using (s.ok t ht).sl.length
 exact ⟨by omega, hll, fun t ht => by have := (lchk_ok (tr_ok (k4 t ht)).2.1).1; have := hll t ht; omega, fun t ht => (lchk_ok (tr_ok (k4 t ht)).2.1).2, fun t ht => (tr_ok (k4 t ht)).2.2⟩
/- What is made: two shots held against one another, with their errors. -/
end Go.Proofs.YthnnndkfpamacaaGreatDoor
