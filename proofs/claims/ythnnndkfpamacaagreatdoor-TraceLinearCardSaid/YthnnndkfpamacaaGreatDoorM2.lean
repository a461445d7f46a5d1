/- Shots changed, their ticks and spans, cut by the program and by the reference. -/
import Derived.Test.YthnnndkfpamacaaGreatDoorM1
set_option linter.all false
/- A shot, changed by the program. -/
namespace Go.Proofs.YthnnndkfpamacaaGreatDoor
open Go Go.Ab Go.Fl
attribute [local irreducible] SeqQ BlkQ LpQ RetQ Wc Wo WD WX Op1 Op1q Op1a Cf Cl From
attribute [local irreducible] Ieee.Format.order Ieee.Format.read Ieee.Format.nearest Ieee.Format.write Ieee.Format.mul Ieee.Format.div Ieee.Datum.order Ieee.Datum.integral smpE smp smpW K J U trE hdrE lchk firstNZ isNameB wid mism shE offs shortB anyLarge
set_option maxRecDepth 10000
variable {G : Base} {h : H}
structure ChI (h : H) (nm : ByteArray) (a : Option Addr) (k c : Nat) (fv : Value) (us : List Trc) (g : H) : Prop where
 w : Wf g
 gr : Grow h g
 nx : h.nx + 8 ≤ g.nx
 b0 : At g h.nx (.cells (shC nm a k c) 54 2 false)
 b1 : At g (h.nx + 1) (.cells [fv] 175 1 false)
 b2 : At g (h.nx + 2) (.cells zShot 54 2 false)
 b3 : At g (h.nx + 3) (.cells [.int .i64 0] 26 1 false)
 b5 : At g (h.nx + 5) (.cells [.slice (some ⟨h.nx + 4, 0, some 0⟩) k k] 52 1 false)
 b6 : At g (h.nx + 6) (.cells (shC nm a k c) 54 2 false)
 e1 : At g (h.nx + 4) (.cells (us.flatMap Trc.cells) 58 10 false)
 e2 : ∀ u ∈ us, TrN g (h.nx + 8) u
theorem ChI.grow {h g g' : H} {nm : ByteArray} {a : Option Addr} {k c : Nat} {fv : Value} {us : List Trc} (I : ChI h nm a k c fv us g) (gg : Grow g g') (ww : Wf g') : ChI h nm a k c fv us g' :=
 ⟨ww, I.gr.trans gg, Nat.le_trans I.nx gg.nx, I.b0.grow gg, I.b1.grow gg, I.b2.grow gg, I.b3.grow gg, I.b5.grow gg, I.b6.grow gg, I.e1.grow gg, fun u hu => (I.e2 u hu).grow gg⟩
theorem ChI.set7 {h g : H} {nm : ByteArray} {a : Option Addr} {k c : Nat} {fv : Value} {us : List Trc} (I : ChI h nm a k c fv us g) (o : AObj) : ChI h nm a k c fv us (g.set (h.nx + 7) o) := by
 obtain ⟨w, gr, nx, b0, b1, b2, b3, b5, b6, e1, e2⟩ := I
 exact ⟨aZ_, aD_, nx, an_, an_, an_, an_, an_, an_, an_, fun u hu => (e2 u hu).set (by omega) _⟩
theorem ChI.set4 {h g : H} {nm : ByteArray} {a : Option Addr} {k c : Nat} {fv : Value} {us us' : List Trc} (I : ChI h nm a k c fv us g) (hu' : ∀ u ∈ us', TrN g (h.nx + 8) u) : ChI h nm a k c fv us' (g.set (h.nx + 4) (.cells (us'.flatMap Trc.cells) 58 10 false)) := by
 obtain ⟨w, gr, nx, b0, b1, b2, b3, b5, b6, e1, e2⟩ := I
 exact ⟨aZ_, aD_, nx, an_, an_, an_, an_, an_, an_, an_, fun u hu => (hu' u hu).set (by omega) _⟩
set_option maxHeartbeats 4000000 in
theorem c111 {nm : ByteArray} {a : Option Addr} {n c : Nat} {ts : List Trc} {f : Nat} {cv : Array Value} {F : Nat → List Int → List Int} (s : SlT G h (.slice a n c) n ts) (hn : n ≤ 65) (hn0 : 0 < n) (hl : ∀ t ∈ ts, t.n < 1000000) (hv : ∀ t ∈ ts, t.hole = false → ∀ x ∈ t.l, smpE x = 0) (hw : Wf h) (hcv : vdep 6 (.func (.func f) #[] cv) = true) (hF : ClosOk G h (.func (.func f) #[] cv) ts F) :
   Cf (mz G) (.func (.func 111) #[] #[]) [.agg ⟨shC nm a n c⟩, .func (.func f) #[] cv] h fun r h' => ((r = .tuple #[.agg ⟨zShot⟩, .int .i64 4] ∧ ChBad F ts) ∨ (¬ ChBad F ts ∧ ∃ (B : Nat) (us : List Trc), r = .tuple #[.agg ⟨shC nm (some ⟨B, 0, some 0⟩) n n⟩, .int .i64 0] ∧ h.nx ≤ B ∧ At h' B (.cells (us.flatMap Trc.cells) 58 10 false) ∧ (∀ u ∈ us, TrN h' h.nx u) ∧ KeyAll us ts (chKey F))) ∧ Grow h h' := by
 have hlen := s.len
 refine ar_ 57 [.cell 4 54, .cell 5 26] Tryz.func111 rfl rfl rfl rfl ?_
 repeat' (first | with_reducible refine am_ ?_ | ((with_reducible refine al_ ?_); first | ((with_reducible refine ak_ ?_); refine ac_ (ag_ rfl) ?_) | ((with_reducible refine cE_ ?_); refine ac_ (op_mkAgg rfl rfl Tryz.underlying52 ch_ zb58 zz58 rfl (by omega) (by omega) rfl) ?_) | ((with_reducible refine aC_ ?_); first | refine ac_ (op_copy rfl rfl (copy_all0 (M := mz G) (n := n) hn0 Tryz.underlying52 ch_ an_ (by rw [repeatCells_len]; rfl) (s.sl.grow aD_) (flat_one ts) (by omega))) ?_ | refine ac_ (ax_ rfl Tryz.underlying52) ?_) | ((with_reducible refine bw_ ?_); first | refine ac_ (aL_ rfl cc_ rfl) ?_ | refine ac_ (op_box1 rfl rfl zs175) ?_) | ((with_reducible refine aU_ ?_); first | refine ac_ (aQ_ zz54 cc_ rfl rfl rfl) ?_ | refine ac_ (aQ_ zz26 zs26 rfl rfl rfl) ?_ | refine ac_ (aQ_ zz52 zs52 rfl rfl rfl) ?_) | ((with_reducible refine ap_ ?_); refine ac_ (aa_ (o := 1) rfl Tryz.underlying54 rfl zs52 rfl) ?_) | ((with_reducible refine au_ ?_); refine ac_ (aq_ rfl an_ Tryz.underlying52 rfl rfl) ?_) | ((with_reducible refine aG_ ?_); refine ci_ (cn_ rfl rfl an_ rfl zs52 rfl rfl rfl) ?_)) | (with_reducible first | refine ah_ ?_ | refine ao_ ?_ | refine ab_ ?_ | refine at_ ?_))
 refine bq_ (fun k => n - k) (fun k : Nat => [(2, .pointer (some ⟨h.nx, 0, some 0⟩)), (3, .pointer (some ⟨h.nx + 1, 0, some 0⟩)), (4, .pointer (some ⟨h.nx + 2, 0, some 0⟩)), (5, .pointer (some ⟨h.nx + 3, 0, some 0⟩)), (6, .pointer (some ⟨h.nx + 5, 0, some 0⟩)), (21, .int .i64 n), (22, .int .i64 k)])
   (fun k h' => (h'.nx = h.nx + 6 ∧ Wf h' ∧ Grow h h' ∧ At h' h.nx (.cells (shC nm a n c) 54 2 false) ∧ At h' (h.nx + 1) (.cells [.func (.func f) #[] cv] 175 1 false) ∧ At h' (h.nx + 2) (.cells zShot 54 2 false) ∧ At h' (h.nx + 3) (.cells [.int .i64 0] 26 1 false) ∧ At h' (h.nx + 5) (.cells [.slice (some ⟨h.nx + 4, 0, some 0⟩) n n] 52 1 false)) ∧ At h' (h.nx + 4) (.cells (((ts.take k).map nilT ++ ts.drop k).flatMap Trc.cells) 58 10 false) ∧ k ≤ n) 0 (ai_ ⟨rfl, rfl, rfl, rfl, rfl, rfl, rfl, trivial⟩) ⟨⟨rfl, aZ_, aD_, an_, an_, an_, an_, At.set_ne (At.lay z4_A) z4_A _⟩, by rw [List.take_zero, List.drop_zero, List.map_nil, List.nil_append]; exact At.lay z6_A, Nat.zero_le _⟩ ?_
 rintro k h' ⟨⟨hnx, hw', hgr, x0, x1, x2, x3, x5⟩, x4, hk⟩
 by_cases hlt : k < n
 · have hst := nil_step (ts := ts) (k := k) (by omega)
   have hcl : (((ts.take k).map nilT ++ ts.drop k).flatMap Trc.cells).length = n * 10 := by rw [bY_]; simp; omega
   repeat' (first | with_reducible refine am_ ?_ | ((with_reducible refine al_ ?_); first | ((with_reducible refine ak_ ?_); refine ac_ (ag_ rfl) ?_) | ((with_reducible refine ae_ ?_); refine ac_ (ad_ rfl) ?_) | ((with_reducible refine aw_ ?_); refine ac_ (bF_ (o := k * 10) rfl rfl Tryz.underlying52 ch_ (by omega) (by omega) (by omega)) ?_) | ((with_reducible refine aG_ ?_); refine ci_ (cC_ (o := k * 10 + 9) rfl rfl x4 rfl zs45 (by omega) rfl hst) ?_) | ((with_reducible refine ap_ ?_); refine ac_ (aa_ (o := 9) rfl Tryz.underlying58 rfl zs45 rfl) ?_) | ((with_reducible refine au_ ?_); refine ac_ (aq_ rfl an_ Tryz.underlying52 rfl rfl) ?_) | ((with_reducible refine av_ ?_); first | refine ac_ (aF_ rfl rfl) ?_ | refine ac_ (aR_ rfl rfl (w64 (by omega) (by omega))) ?_)) | (with_reducible first | refine ah_ ?_ | refine ao_ ?_ | refine ab_ ?_ | refine az_ ?_ | refine at_ ?_ | refine aP_ ?_) | (refine aK_ rfl (fun hb => ?_) (fun hb => ?_) <;> (try simp only [bj_, reduceCtorEq] at hb) <;> (try (exfalso; omega))))
   exact aX_ (k + 1) (by omega) (ai_ ⟨rfl, rfl, rfl, rfl, rfl, rfl, rfl, trivial⟩) ⟨⟨hnx, aZ_, aD_, an_, an_, an_, an_, an_⟩, an_, by omega⟩
 have hkn : k = n := by omega
 subst hkn
 clear hlt hk
 rw [List.take_of_length_le (by omega), List.drop_eq_nil_of_le (by omega), List.append_nil] at x4
 repeat' (first | with_reducible refine am_ ?_ | ((with_reducible refine al_ ?_); first | ((with_reducible refine au_ ?_); refine ac_ (ay_ rfl an_ Tryz.underlying54 rfl cc_ rfl rfl) ?_) | ((with_reducible refine av_ ?_); refine ac_ (aF_ rfl rfl) ?_) | ((with_reducible refine ba_ (f := 109) ?_); (refine aW_ rfl rfl rfl rfl (c109) rfl rfl ?_; rintro _ _ ⟨rfl, rfl⟩; all_goals ((try (have hqn := hq.nx)); (try simp only [bG_] at hqn))))) | (with_reducible first | refine ah_ ?_ | refine ao_ ?_ | refine ab_ ?_ | refine be_ ?_ | refine at_ ?_ | refine bf_ ?_ | refine bi_ ?_) | refine bS_ rfl ?_ | (refine aK_ rfl (fun hb => ?_) (fun hb => ?_) <;> (try simp only [bj_, reduceCtorEq] at hb) <;> (try (exfalso; omega))))
 refine wc_cut (ι := Unit) (fun _ => [(2, .pointer (some ⟨h.nx, 0, some 0⟩)), (3, .pointer (some ⟨h.nx + 1, 0, some 0⟩)), (4, .pointer (some ⟨h.nx + 2, 0, some 0⟩)), (5, .pointer (some ⟨h.nx + 3, 0, some 0⟩)), (6, .pointer (some ⟨h.nx + 5, 0, some 0⟩)), (31, whF (h.nx + 6))])
   (fun _ h' => (h'.nx = h.nx + 7 ∧ Wf h' ∧ Grow h h' ∧ At h' h.nx (.cells (shC nm a k c) 54 2 false) ∧ At h' (h.nx + 1) (.cells [.func (.func f) #[] cv] 175 1 false) ∧ At h' (h.nx + 2) (.cells zShot 54 2 false) ∧ At h' (h.nx + 3) (.cells [.int .i64 0] 26 1 false) ∧ At h' (h.nx + 5) (.cells [.slice (some ⟨h.nx + 4, 0, some 0⟩) k k] 52 1 false)) ∧ At h' (h.nx + 4) (.cells ((ts.map nilT).flatMap Trc.cells) 58 10 false) ∧ At h' (h.nx + 6) (.cells (shC nm a k c) 54 2 false)) () (by rw [← hnx]; exact ai_ ⟨rfl, rfl, rfl, rfl, rfl, rfl, trivial⟩) ⟨⟨by rw [H.nx_push, hnx], aZ_, aD_, an_, an_, an_, an_, an_⟩, an_, by rw [← hnx]; exact an_⟩ ?_
 clear hnx hw' hgr x0 x1 x2 x3 x4 x5
 rintro _ h0 ⟨⟨hnx, hw', hgr, x0, x1, x2, x3, x5⟩, x4, x6⟩
 refine cP_ rfl fun ev lp he hlp => ?_
 rw [hnx]
 refine (c160 (nm := nm) (a := a) (c := c) (ts := ts) (fun j g => At g (h.nx + 7) lp ∧ (∀ i (q : i < ts.length), i < j → (ts[i]).hole = false → anyLarge (F i ((ts[i]).l.map smp)) = false) ∧ ∃ us : List Trc, ChI h nm a k c (.func (.func f) #[] cv) us g ∧ KeyAll us ts (chgE F j))
   (fun g => Wf g ∧ Grow h g ∧ At g (h.nx + 2) (.cells zShot 54 2 false) ∧ At g (h.nx + 3) (.cells [.int .i64 4] 26 1 false) ∧ (∃ pe ps asg bd, At g (h.nx + 7) (.loop .done (some .ret) pe ps asg bd)) ∧ ChBad F ts) (by omega) hlen ?_ ?_ ?_ ?_ ?_).mono ?_
 · rintro j g ⟨_, _, us, I, _⟩
   exact ⟨I.b6, s.grow I.gr, I.w⟩
 · rintro j g g' ⟨b7, e, us, I, e3⟩ gg ww
   exact ⟨b7.grow gg, e, us, I.grow gg ww, e3⟩
 · rintro j g hj ⟨b7, e, us, I, e3⟩ hh
   refine ⟨b7, fun i q hi hhole => ?_, us, I, keys_same e3 fun i q => chg_hole fun z => by subst z; exact hh⟩
   by_cases hij : i = j
   · subst hij; rw [hh] at hhole; cases hhole
   · exact e i q (by omega) hhole
 · rintro j g hj ⟨b7, e, us, I, e3⟩ hh
   have hm := List.getElem_mem hj
   have o := s.ok _ hm
   have hln := hl _ hm
   have hvl := hv _ hm hh
   obtain ⟨⟨hFl, hFb⟩, hFc⟩ := hF j hj hh
   have hbad : anyLarge (F j ((ts[j]).l.map smp)) = true → ChBad F ts := fun q => ⟨j, hj, hh, q⟩
   have hul : us.length = k := by rw [e3.1, hlen]
   have hjk : j < us.length := by omega
   have hkey : (us[j]).key = nilK ts[j] := by rw [e3.2 j hjk hj, chgE, if_neg (by omega)]
   have hck : chKey F j ts[j] = ((ts[j]).hd, false, (F j ((ts[j]).l.map smp)).length, (F j ((ts[j]).l.map smp)).map smpW) := by rw [chKey, if_neg (by rw [hh]; simp)]
   have hnext : anyLarge (F j ((ts[j]).l.map smp)) = false → ∀ i (q : i < ts.length), i < j + 1 → (ts[i]).hole = false → anyLarge (F i ((ts[i]).l.map smp)) = false := fun z i q hi hhole => by
     by_cases hij : i = j
     · subst hij; exact z
     · exact e i q (by omega) hhole
   have hset : ∀ (bb N : Nat) (L : List Nat), N = (F j ((ts[j]).l.map smp)).length → L = (F j ((ts[j]).l.map smp)).map smpW → KeyAll (us.set j ⟨(us[j]).hd, (us[j]).hole, some ⟨bb, 0, some 0⟩, N, N, L⟩) ts (chgE F (j + 1)) := fun bb N L hN hL => by
     refine keys_set e3 hj ?_ fun i q hij => ?_
     · simp only [nilK, Trc.key, Prod.mk.injEq] at hkey
       rw [chgE, if_pos (by omega), hck, hN, hL]
       simp only [Trc.key]
       rw [hkey.1, hkey.2.1, hh]
     · unfold chgE
       by_cases h1 : i < j
       · rw [if_pos h1, if_pos (by omega)]
       · rw [if_neg h1, if_neg (by omega)]
   have hfl : ∀ (v : Value) (u' : Trc), u'.cells = (us[j]).cells.set 9 v → (us.flatMap Trc.cells).set (j * 10 + 9) v = (us.set j u').flatMap Trc.cells := fun v u' q => flat_set (by omega) us j hjk u' q
   have hcl : (us.flatMap Trc.cells).length = k * 10 := by rw [bY_, hul]
   clear e hkey hck
   obtain ⟨t, ht⟩ : ∃ t, ts[j] = t := ⟨_, rfl⟩
   rw [ht] at o hln hvl hFl hFb hFc hbad hnext hset hh ⊢
   clear ht hm
   have e1 := I.e1
   obtain ⟨L, hL⟩ : ∃ L, F j (t.l.map smp) = L := ⟨_, rfl⟩
   rw [hL] at hFl hFb hFc hbad hnext hset
   clear hL
   have so := o.sl
   obtain ⟨hd, hole, sa, tn, tc, tl⟩ := t
   dsimp only [Trc.cells] at hln hvl hFc hh so ⊢
   subst hh
   rw [hlp] at b7
   have q134 := fun (h2 : H) (g2 : Grow h h2) (w2 : Wf h2) => c135o (so.grow g2) hln hvl w2
   have q126 := fun (h2 : H) (a : Option Addr) (c : Nat) (s2 : Sl G h2 1 (.slice a L.length c) L.length (L.map (.int .i64))) (w2 : Wf h2) => c127o s2 hFl w2 hFb
   have w := I.w
   have nx := I.nx
   refine cf_round b7.get he rfl rfl ?_
   repeat' (first | with_reducible refine am_ ?_ | ((with_reducible refine al_ ?_); first | ((with_reducible refine ae_ ?_); refine ac_ (ad_ rfl) ?_) | ((with_reducible refine aU_ ?_); refine ac_ (aQ_ zz58 ch_ rfl rfl rfl) ?_) | ((with_reducible refine aG_ ?_); refine ci_ (aM_ rfl rfl an_ ch_ rfl rfl rfl rfl) ?_)) | (with_reducible first | refine ah_ ?_ | refine ao_ ?_ | refine ab_ ?_))
   refine ⟨rfl, _, _, _, _, _, At.get (b := h.nx + 7) (o := .loop .ready none ev _ _ _) an_, ?_⟩
   refine at_ ?_
   refine wc_cut (ι := Unit) (fun _ => [(2, .pointer (some ⟨h.nx, 0, some 0⟩)), (3, .pointer (some ⟨h.nx + 1, 0, some 0⟩)), (4, .pointer (some ⟨h.nx + 2, 0, some 0⟩)), (5, .pointer (some ⟨h.nx + 3, 0, some 0⟩)), (6, .pointer (some ⟨h.nx + 5, 0, some 0⟩)), (8, .int .i64 j), (9, .pointer (some ⟨g.nx, 0, some 0⟩))])
     (fun _ g' => ChI h nm a k c (.func (.func f) #[] cv) us g' ∧ (∃ pe ps asg bd, At g' (h.nx + 7) (.loop .busy none pe ps asg bd) ∧ lp = .loop .ready none pe ps asg bd) ∧ At g' g.nx (.cells (Trc.cells ⟨hd, false, sa, tn, tc, tl⟩) 58 10 false)) () (ai_ ⟨rfl, rfl, rfl, rfl, rfl, rfl, rfl, trivial⟩) ⟨ChI.set7 (I.grow aD_ aZ_) _, ⟨_, _, _, _, an_, hlp⟩, an_⟩ ?_
   clear b7 I w nx
   rintro _ g2 ⟨I, hbz, bt⟩
   obtain ⟨pe, ps, asg, bd, b7, hlp⟩ := hbz
   refine bU_ (ι := Value × Int) (fun i => [(2, .pointer (some ⟨h.nx, 0, some 0⟩)), (3, .pointer (some ⟨h.nx + 1, 0, some 0⟩)), (4, .pointer (some ⟨h.nx + 2, 0, some 0⟩)), (5, .pointer (some ⟨h.nx + 3, 0, some 0⟩)), (6, .pointer (some ⟨h.nx + 5, 0, some 0⟩)), (8, .int .i64 j), (10, i.1), (11, .int .i64 i.2)])
     (fun i g' => (ChI h nm a k c (.func (.func f) #[] cv) us g' ∧ At g' (h.nx + 7) (.loop .busy none pe ps asg bd)) ∧
       ((i.1 = .slice none 0 0 ∧ i.2 = 4 ∧ anyLarge L = true) ∨ (i.2 = 0 ∧ anyLarge L = false ∧ ∃ bW, i.1 = .slice (some ⟨bW, 0, some 0⟩) L.length L.length ∧ h.nx + 8 ≤ bW ∧ At g' bW (.cells ((L.map smpW).map (.float .f32)) 23 1 false)))) ?_ ?_
   · obtain ⟨w, gr, nx, b0, b1, b2, b3, b5, b6, e1, e2⟩ := id I
     repeat' (first | ((with_reducible refine bL_ ?_); ((with_reducible refine bK_ ?_); first | ((with_reducible refine bI_ ?_); refine bn_ (af_ rfl) rfl rfl (aE_ rfl (ag_ rfl)) rfl rfl rfl ?_) | ((with_reducible refine ck_ ?_); refine bn_ (af_ rfl) rfl rfl (aE_ rfl (ad_ rfl)) rfl rfl rfl ?_) | ((with_reducible refine bh_ ?_); refine bn_ (af_ rfl) rfl rfl (aE_ rfl (aa_ (o := 9) rfl Tryz.underlying58 rfl zs45 rfl)) rfl rfl rfl ?_) | ((with_reducible refine by_ ?_); refine bp_ (af_ rfl) rfl (aE_ rfl (aq_ rfl an_ Tryz.underlying45 rfl rfl)) rfl rfl rfl ?_) | ((with_reducible refine xk_extract ?_); refine bn_ (af_ rfl) rfl rfl (aE_ rfl (bD_ rfl rfl)) rfl rfl rfl ?_) | ((with_reducible refine bH_ ?_); first | (refine aV_ (af_ rfl) rfl rfl rfl rfl (q134 _ aD_ aZ_) rfl rfl ?_; rintro _ _ ⟨⟨rfl, hatI⟩, hq⟩; all_goals ((try (have hqn := hq.nx)); (try simp only [bG_] at hqn))) | (refine aV_ (af_ rfl) rfl rfl rfl rfl (hFc _ _ aD_ aZ_ aD_ an_) rfl rfl ?_; rintro _ _ ⟨⟨fa, fc, rfl, hfs⟩, hq⟩; all_goals ((try (have hqn := hq.nx)); (try simp only [bG_] at hqn))) | (refine aV_ (af_ rfl) rfl rfl rfl rfl (q126 _ _ _ (hfs.grow aD_) aZ_) rfl rfl ?_; rintro _ _ ⟨(⟨hlg, rfl⟩ | ⟨hlg, rfl, hatW⟩), hq⟩; all_goals ((try (have hqn := hq.nx)); (try simp only [bG_] at hqn)))) | with_reducible refine bN_ ?_ ?_)) | with_reducible exact bA_ | with_reducible refine bk_ ?_ ?_ | ((with_reducible refine bM_ ?_); first | exact bz_ | refine bx_ rfl ?_ | refine aB_ rfl rfl (aE_ rfl (aq_ rfl an_ Tryz.underlying175 rfl (by rfl))) ?_ | refine aB_ rfl rfl (aE_ rfl (aq_ rfl an_ Tryz.underlying45 rfl (by rfl))) ?_) | refine br_ (id := 11) 12 [0, 0, 0, 4, 12, 31, 63, 127, 255, 255, 511, 2047] [0, 1, 2, 3, 4, 5, 6, 7, 8, 9, 10, 11] (by kernel_rfl) (by kernel_rfl) rfl rfl ?_ | ((with_reducible refine bL_ ?_); (with_reducible refine bK_ ?_); (with_reducible refine by_ ?_); refine bp_ (af_ rfl) rfl (aE_ rfl (aq_ (c := [.func (.func f) #[] cv]) (e := 175) (es := 1) (s := false) rfl an_ Tryz.underlying175 rfl rfl)) hcv rfl rfl ?_))
     · exact ⟨rfl, (_, _), ai_ ⟨rfl, rfl, rfl, rfl, rfl, rfl, rfl, rfl, trivial⟩, ⟨I.grow aD_ aZ_, an_⟩, .inl ⟨rfl, rfl, hlg⟩⟩
     · exact ⟨rfl, (_, _), ai_ ⟨rfl, rfl, rfl, rfl, rfl, rfl, rfl, rfl, trivial⟩, ⟨I.grow aD_ aZ_, an_⟩, .inr ⟨rfl, hlg, _, rfl, (by have e4 := hatW.lt; first | omega | (simp only [bG_] at hqn ⊢; omega)), an_⟩⟩
   · clear I b7
     rintro ⟨i1, i2⟩ g3 ⟨⟨I, b7⟩, hcase⟩
     obtain ⟨w, gr, nx, b0, b1, b2, b3, b5, b6, e1, e2⟩ := id I
     simp only at hcase
     rcases hcase with ⟨rfl, rfl, hlg⟩ | ⟨rfl, hlg, bW, rfl, hbW, hatW⟩
     · repeat' (first | with_reducible refine am_ ?_ | ((with_reducible refine al_ ?_); first | ((with_reducible refine ak_ ?_); refine ac_ (ag_ rfl) ?_) | ((with_reducible refine aG_ ?_); first | refine ci_ (cn_ rfl rfl an_ rfl zs52 rfl rfl rfl) ?_ | refine ci_ (aM_ rfl rfl an_ cc_ rfl rfl rfl rfl) ?_) | ((with_reducible refine av_ ?_); refine ac_ (bm_ rfl rfl) ?_) | ((with_reducible refine ik_build ?_); refine ac_ (cz_ rfl zz54 zp54 rfl rfl) ?_)) | (with_reducible first | refine ah_ ?_ | refine ao_ ?_ | refine ab_ ?_ | refine aA_ ?_ | refine bV_ ?_ | refine bd_ ?_) | refine bP_ rfl ?_)
       all_goals exact ⟨_, _, _, _, _, _, At.get (b := h.nx + 7) (o := .loop .busy none _ _ _ _) an_, .inr ⟨rfl, aZ_, aD_, an_, an_, ⟨_, _, _, _, an_⟩, hbad hlg⟩⟩
     · repeat' (first | with_reducible refine am_ ?_ | ((with_reducible refine al_ ?_); first | ((with_reducible refine ak_ ?_); refine ac_ (ag_ rfl) ?_) | ((with_reducible refine aw_ ?_); refine ac_ (bF_ (b := h.nx + 4) (o := j * 10) rfl rfl Tryz.underlying52 ch_ (by omega) (by omega) (by omega)) ?_) | ((with_reducible refine aG_ ?_); refine ci_ (cC_ (o := j * 10 + 9) rfl rfl an_ rfl zs45 (by omega) rfl (hfl _ ⟨(us[j]).hd, (us[j]).hole, some ⟨bW, 0, some 0⟩, L.length, L.length, L.map smpW⟩ rfl)) ?_) | ((with_reducible refine ap_ ?_); refine ac_ (aa_ (o := 9) rfl Tryz.underlying58 rfl zs45 rfl) ?_) | ((with_reducible refine au_ ?_); refine ac_ (aq_ rfl an_ Tryz.underlying52 rfl rfl) ?_) | ((with_reducible refine av_ ?_); refine ac_ (bm_ rfl rfl) ?_)) | (with_reducible first | refine ah_ ?_ | refine ao_ ?_ | refine ab_ ?_ | refine az_ ?_ | refine aP_ ?_) | refine bs_ rfl ?_)
       all_goals
         refine ⟨_, _, _, _, _, _, At.get (b := h.nx + 7) (o := .loop .busy none pe ps asg bd) an_, .inl ⟨rfl, by rw [hlp]; exact an_, hnext hlg, us.set j _, ChI.set7 (ChI.set4 I (set_mem e2 (.inr ⟨⟨bW, _, rfl, hbW, hatW⟩, by simp, rfl⟩))) _, hset _ _ _ rfl rfl⟩⟩
 · refine ⟨by rw [← hnx]; exact At.new _ _, fun i q hi => by omega, ts.map nilT, ⟨aZ_, aD_, z4_A, an_, an_, an_, an_, an_, an_, an_, fun u hu => ?_⟩, by simp, fun i q q' => ?_⟩
   · obtain ⟨t, _, rfl⟩ := List.mem_map.1 hu
     exact .inl ⟨rfl, rfl, rfl, rfl⟩
   · rw [List.getElem_map, chgE, if_neg (by omega)]; rfl
 · rintro _ g (⟨b7, e, us, I, e3⟩ | ⟨w, gr, b2, b3, ⟨pe, ps, asg, bd, b7⟩, hbd⟩)
   · obtain ⟨w, gr, nx, b0, b1, b2, b3, b5, b6, e1, e2⟩ := I
     have hnb : ¬ ChBad F ts := fun ⟨i, q, q1, q2⟩ => by
       rw [e i q (by omega) q1] at q2; cases q2
     subst hlp
     refine ⟨_, _, _, _, _, _, b7.get, by simp, ?_⟩
     repeat' (first | with_reducible refine am_ ?_ | ((with_reducible refine al_ ?_); first | ((with_reducible refine ap_ ?_); refine ac_ (aa_ (o := 0) rfl Tryz.underlying54 rfl zs9 rfl) ?_) | ((with_reducible refine au_ ?_); first | refine ac_ (aq_ rfl an_ Tryz.underlying52 rfl rfl) ?_ | refine ac_ (aq_ rfl an_ Tryz.underlying9 rfl rfl) ?_) | ((with_reducible refine aG_ ?_); first | refine ci_ (cn_ rfl rfl an_ rfl zs52 rfl rfl rfl) ?_ | refine ci_ (aM_ rfl rfl an_ cc_ rfl rfl rfl rfl) ?_) | ((with_reducible refine ik_build ?_); refine ac_ (cz_ rfl zz54 zp54 rfl rfl) ?_)) | (with_reducible first | refine ah_ ?_ | refine ao_ ?_ | refine ab_ ?_ | refine aA_ ?_ | refine aP_ ?_))
     exact rqcc rfl (ldAgg an_ Tryz.underlying54 rfl cc_ rfl rfl) rfl (ld1 an_ Tryz.underlying26 rfl rfl) ⟨.inr ⟨hnb, h.nx + 4, us, rfl, by omega, an_, fun u hu => ((((e2 u hu).kill (by omega)).set (by omega) _).set (by omega) _).le (by omega), keys_same e3 fun i q => by rw [chgE, if_pos (by omega)]⟩, aD_⟩
   · refine ⟨_, _, _, _, _, _, b7.get, by simp, ?_⟩
     repeat' (first | with_reducible refine bV_ ?_ | with_reducible refine bd_ ?_)
     exact rqcc rfl (ldAgg an_ Tryz.underlying54 rfl cc_ rfl rfl) rfl (ld1 an_ Tryz.underlying26 rfl rfl) ⟨.inl ⟨rfl, hbd⟩, aD_⟩
/- Cuts by the program: spans, parts of lists. -/
def spanE (x y w : Int) : Int := if x < 0 ∨ y < x ∨ w < y then 14 else 0
set_option maxHeartbeats 4000000 in
theorem c44 (x y w : Int) : Cf (mz G) (.func (.func 44) #[] #[]) [.agg ⟨[.int .i64 x, .int .i64 y]⟩, .int .i64 w] h fun r h' => r = .int .i64 (spanE x y w) ∧ Grow h h' := by
 unfold spanE
 by_cases h1 : x < 0
 · rw [if_pos (.inl h1)]
   refine ar_ 22 [.tmp 4] Tryz.func44 rfl rfl rfl rfl ?_
   repeat' (first | with_reducible refine am_ ?_ | ((with_reducible refine al_ ?_); first | ((with_reducible refine ak_ ?_); refine ac_ (ag_ rfl) ?_) | ((with_reducible refine ae_ ?_); refine ac_ (ad_ rfl) ?_) | ((with_reducible refine bw_ ?_); refine ac_ (aL_ rfl zs67 rfl) ?_) | ((with_reducible refine ap_ ?_); refine ac_ (aa_ (o := 0) rfl Tryz.underlying67 rfl zs3 rfl) ?_) | ((with_reducible refine au_ ?_); refine ac_ (aq_ rfl an_ Tryz.underlying3 rfl rfl) ?_) | ((with_reducible refine av_ ?_); refine ac_ (aF_ rfl rfl) ?_) | ((with_reducible refine aS_ ?_); refine ac_ (aT_ rfl rfl) ?_) | ((with_reducible refine ba_ (f := 93) ?_); refine ac_ (aJ_ rfl rfl (c93 _ _)) ?_) | ((with_reducible refine cG_ ?_); first | refine bC_ rfl rfl rfl rfl rfl rfl ?_ | (refine bb_ rfl rfl rfl (fun hb => ?_) (fun hb => aH_ hb); (try simp only [bj_, reduceCtorEq] at hb)))) | (with_reducible first | refine ah_ ?_ | refine ao_ ?_ | refine ab_ ?_ | refine aA_ ?_))
   all_goals exact rq1 rfl ⟨by first | rfl | simp, aD_⟩
 by_cases h2 : y < x
 · rw [if_pos (.inr (.inl h2))]
   refine ar_ 22 [.tmp 4] Tryz.func44 rfl rfl rfl rfl ?_
   repeat' (first | with_reducible refine am_ ?_ | ((with_reducible refine al_ ?_); first | ((with_reducible refine ak_ ?_); refine ac_ (ag_ rfl) ?_) | ((with_reducible refine ae_ ?_); refine ac_ (ad_ rfl) ?_) | ((with_reducible refine bw_ ?_); refine ac_ (aL_ rfl zs67 rfl) ?_) | ((with_reducible refine ap_ ?_); refine ac_ (aa_ (o := 0) rfl Tryz.underlying67 rfl zs3 rfl) ?_) | ((with_reducible refine au_ ?_); refine ac_ (aq_ rfl an_ Tryz.underlying3 rfl rfl) ?_) | ((with_reducible refine av_ ?_); refine ac_ (aF_ rfl rfl) ?_) | ((with_reducible refine aS_ ?_); first | refine ac_ (aT_ rfl rfl) ?_ | refine ac_ (aO_ rfl rfl) ?_) | ((with_reducible refine ba_ (f := 93) ?_); refine ac_ (aJ_ rfl rfl (c93 _ _)) ?_) | ((with_reducible refine cG_ ?_); first | refine bC_ rfl rfl rfl rfl rfl rfl ?_ | ((with_reducible refine bt_ ?_); first | refine aj_ rfl rfl rfl (aa_ (o := 0) rfl Tryz.underlying67 rfl zs3 rfl) rfl rfl ?_ | refine aj_ rfl rfl rfl (aa_ (o := 1) rfl Tryz.underlying67 rfl zs3 rfl) rfl rfl ?_) | ((with_reducible refine bX_ ?_); refine aj_ rfl rfl rfl (aq_ rfl an_ Tryz.underlying3 rfl rfl) rfl rfl ?_) | ((with_reducible refine bE_ ?_); refine aj_ rfl rfl rfl (bZ_ rfl rfl) rfl rfl ?_) | (refine bb_ rfl rfl rfl (fun hb => aH_ hb) (fun hb => ?_); (try simp only [bj_, reduceCtorEq] at hb)) | (refine bb_ rfl rfl rfl (fun hb => ?_) (fun hb => aH_ hb); (try simp only [bj_, reduceCtorEq] at hb)))) | (with_reducible first | refine ah_ ?_ | refine ao_ ?_ | refine ab_ ?_ | refine aA_ ?_))
   all_goals exact rq1 rfl ⟨by first | rfl | simp [h2], aD_⟩
 by_cases h3 : w < y
 · rw [if_pos (.inr (.inr h3))]
   refine ar_ 22 [.tmp 4] Tryz.func44 rfl rfl rfl rfl ?_
   repeat' (first | with_reducible refine am_ ?_ | ((with_reducible refine al_ ?_); first | ((with_reducible refine ak_ ?_); refine ac_ (ag_ rfl) ?_) | ((with_reducible refine ae_ ?_); refine ac_ (ad_ rfl) ?_) | ((with_reducible refine bw_ ?_); refine ac_ (aL_ rfl zs67 rfl) ?_) | ((with_reducible refine ap_ ?_); refine ac_ (aa_ (o := 0) rfl Tryz.underlying67 rfl zs3 rfl) ?_) | ((with_reducible refine au_ ?_); refine ac_ (aq_ rfl an_ Tryz.underlying3 rfl rfl) ?_) | ((with_reducible refine av_ ?_); refine ac_ (aF_ rfl rfl) ?_) | ((with_reducible refine aS_ ?_); refine ac_ (aO_ rfl rfl) ?_) | ((with_reducible refine ba_ (f := 93) ?_); refine ac_ (aJ_ rfl rfl (c93 _ _)) ?_) | ((with_reducible refine cG_ ?_); first | ((with_reducible refine bB_ ?_); refine aj_ rfl rfl rfl (ag_ rfl) rfl rfl ?_) | ((with_reducible refine bt_ ?_); first | refine aj_ rfl rfl rfl (aa_ (o := 0) rfl Tryz.underlying67 rfl zs3 rfl) rfl rfl ?_ | refine aj_ rfl rfl rfl (aa_ (o := 1) rfl Tryz.underlying67 rfl zs3 rfl) rfl rfl ?_) | ((with_reducible refine bX_ ?_); refine aj_ rfl rfl rfl (aq_ rfl an_ Tryz.underlying3 rfl rfl) rfl rfl ?_) | ((with_reducible refine bE_ ?_); refine aj_ rfl rfl rfl (bZ_ rfl rfl) rfl rfl ?_) | (refine bb_ rfl rfl rfl (fun hb => aH_ hb) (fun hb => ?_); (try simp only [bj_, reduceCtorEq] at hb)))) | (with_reducible first | refine ah_ ?_ | refine ao_ ?_ | refine ab_ ?_ | refine aA_ ?_))
   all_goals exact rq1 rfl ⟨by first | rfl | simp [h3], aD_⟩
 rw [if_neg (by omega)]
 refine ar_ 22 [.tmp 4] Tryz.func44 rfl rfl rfl rfl ?_
 repeat' (first | with_reducible refine am_ ?_ | ((with_reducible refine al_ ?_); first | ((with_reducible refine ak_ ?_); refine ac_ (ag_ rfl) ?_) | ((with_reducible refine ae_ ?_); refine ac_ (ad_ rfl) ?_) | ((with_reducible refine bw_ ?_); refine ac_ (aL_ rfl zs67 rfl) ?_) | ((with_reducible refine ap_ ?_); refine ac_ (aa_ (o := 0) rfl Tryz.underlying67 rfl zs3 rfl) ?_) | ((with_reducible refine au_ ?_); refine ac_ (aq_ rfl an_ Tryz.underlying3 rfl rfl) ?_) | ((with_reducible refine av_ ?_); refine ac_ (aF_ rfl rfl) ?_) | ((with_reducible refine aS_ ?_); refine ac_ (aO_ rfl rfl) ?_) | ((with_reducible refine ba_ (f := 93) ?_); refine ac_ (aJ_ rfl rfl (c93 _ _)) ?_) | ((with_reducible refine cG_ ?_); first | ((with_reducible refine bB_ ?_); refine aj_ rfl rfl rfl (ag_ rfl) rfl rfl ?_) | ((with_reducible refine bt_ ?_); first | refine aj_ rfl rfl rfl (aa_ (o := 0) rfl Tryz.underlying67 rfl zs3 rfl) rfl rfl ?_ | refine aj_ rfl rfl rfl (aa_ (o := 1) rfl Tryz.underlying67 rfl zs3 rfl) rfl rfl ?_) | ((with_reducible refine bX_ ?_); refine aj_ rfl rfl rfl (aq_ rfl an_ Tryz.underlying3 rfl rfl) rfl rfl ?_) | ((with_reducible refine bE_ ?_); refine aj_ rfl rfl rfl (bZ_ rfl rfl) rfl rfl ?_) | (refine bb_ rfl rfl rfl (fun hb => aH_ hb) (fun hb => ?_); (try simp only [bj_, reduceCtorEq] at hb)))) | (with_reducible first | refine ah_ ?_ | refine ao_ ?_ | refine ab_ ?_ | refine aA_ ?_))
 all_goals exact rq1 rfl ⟨by first | rfl | simp [h3], aD_⟩
def ltr (hd : Nat → Int) (x : Int) : Nat → Int := fun i => if i = 4 then hd 4 + x else hd i
set_option maxHeartbeats 4000000 in
theorem c117 (hd : Nat → Int) (x : Int) (hb1 : (hd 4).natAbs ≤ 1000000000) (hb2 : x.natAbs ≤ 1000000000) : Cf (mz G) (.func (.func 117) #[] #[]) [.agg ⟨hdCells hd⟩, .int .i64 x] h fun r h' => r = .agg ⟨hdCells (ltr hd x)⟩ ∧ Grow h h' := by
 refine ar_ 11 [.cell 4 44] Tryz.func117 rfl rfl rfl rfl ?_
 repeat' (first | with_reducible refine am_ ?_ | ((with_reducible refine al_ ?_); first | ((with_reducible refine ak_ ?_); refine ac_ (ag_ rfl) ?_) | ((with_reducible refine bw_ ?_); refine ac_ (aL_ rfl zs44 rfl) ?_) | ((with_reducible refine aU_ ?_); refine ac_ (aQ_ zz44 zs44 rfl rfl rfl) ?_) | ((with_reducible refine aw_ ?_); refine ac_ (op_idxArr' rfl rfl Tryz.underlying44 zs3 (by omega) (by omega)) ?_) | ((with_reducible refine au_ ?_); first | refine ac_ (aq_ rfl an_ Tryz.underlying3 rfl rfl) ?_ | refine ac_ (ay_ rfl an_ Tryz.underlying44 rfl zs44 rfl rfl) ?_) | ((with_reducible refine av_ ?_); refine ac_ (aR_ rfl rfl (w64 (by omega) (by omega))) ?_) | ((with_reducible refine aG_ ?_); first | refine ci_ (cn_ rfl rfl an_ rfl zs3 rfl rfl rfl) ?_ | refine ci_ (aM_ rfl rfl an_ zs44 rfl rfl rfl rfl) ?_)) | (with_reducible first | refine ah_ ?_ | refine ao_ ?_ | refine ab_ ?_ | refine aA_ ?_))
 exact rqc1 rfl (ldAgg an_ Tryz.underlying44 rfl zs44 rfl rfl) ⟨rfl, aD_⟩
theorem shE_ok {nm : ByteArray} {ts : List Trc} (h : shE nm ts = 0) : isNameB nm = true ∧ 0 < ts.length ∧ ts.length ≤ 64 ∧ (∀ t ∈ ts, trE t = 0) ∧ ∀ t ∈ ts, t.hole = false → t.n = wid ts := by
 unfold shE at h
 by_cases z1 : isNameB nm = false
 · rw [if_pos z1] at h; exact absurd h (by decide)
 rw [if_neg z1] at h
 by_cases z2 : ts.length = 0
 · rw [if_pos z2] at h; exact absurd h (by decide)
 rw [if_neg z2] at h
 by_cases z3 : 64 < ts.length
 · rw [if_pos z3] at h; exact absurd h (by decide)
 rw [if_neg z3] at h
 by_cases z4 : firstNZ (ts.map trE) ≠ 0
 · rw [if_pos z4] at h; exact absurd h z4
 rw [if_neg z4] at h
 have z4 : firstNZ (ts.map trE) = 0 := by simpa using z4
 by_cases z5 : mism (wid ts) ts = true
 · rw [if_pos z5] at h; exact absurd h (by decide)
 refine ⟨by simpa using z1, by omega, by omega, fun t ht => firstNZ_zero z4 _ (List.mem_map_of_mem ht), fun t ht hh => ?_⟩
 by_cases hne : t.n = wid ts
 · exact hne
 · exfalso
   apply z5
   unfold mism
   rw [List.any_eq_true]
   exact ⟨t, ht, by simp [hh, hne]⟩
theorem smp_le {x : Nat} (h : smpE x = 0) : (smp x).natAbs ≤ 16384 := by
 obtain ⟨_, _, _, _, _, h1, h2⟩ := smp_read h
 omega
theorem notLarge {l : List Int} (h : ∀ x ∈ l, x.natAbs ≤ 16384) : anyLarge l = false := by
 unfold anyLarge
 rw [List.any_eq_false]
 intro x hx
 have := h x hx
 unfold isLargeB
 simp
 omega
def cutF (lo hi : Nat) (_ : Nat) (l : List Int) : List Int := (l.drop lo).take (hi - lo)
end Go.Proofs.YthnnndkfpamacaaGreatDoor
/- Cuts by the program. -/
namespace Go.Proofs.YthnnndkfpamacaaGreatDoor
open Go Go.Ab Go.Fl
attribute [local irreducible] SeqQ BlkQ LpQ RetQ Wc Wo WD WX Op1 Op1q Op1a Cf Cl From
attribute [local irreducible] Ieee.Format.order Ieee.Format.read Ieee.Format.nearest Ieee.Format.write Ieee.Format.mul Ieee.Format.div Ieee.Datum.order Ieee.Datum.integral smpE smp smpW K J U trE hdrE lchk firstNZ isNameB wid mism shE offs shortB anyLarge spanE
set_option maxRecDepth 10000
variable {G : Base} {h : H}
theorem flat_get {j : Nat} (hj : j < 10) : ∀ (us : List Trc) (k : Nat) (hk : k < us.length), (us.flatMap Trc.cells)[k * 10 + j]? = (us[k]).cells[j]?
 | u :: us, 0, _ => by
   rw [List.flatMap_cons, Nat.zero_mul, Nat.zero_add, List.getElem?_append_left (by simpa using hj)]; rfl
 | u :: us, k + 1, hk => by
   rw [List.flatMap_cons, List.getElem?_append_right (by simp; omega)]
   have : (k + 1) * 10 + j - u.cells.length = k * 10 + j := by simp; omega
   rw [this, flat_get hj us k (by simpa using hk)]
   rfl
theorem TrN.hd {h : H} {lo : Nat} {t : Trc} (o : TrN h lo t) (hd : Nat → Int) (hole : Bool) : TrN h lo ⟨hd, hole, t.sa, t.n, t.c, t.l⟩ :=
 o.imp id fun o => ⟨o.at', o.len, o.cap⟩
def lateB (x : Int) (ts : List Trc) : Bool := ts.any fun t => decide (100000 < t.hd 4 + x)
def cutKey (lo hi : Nat) (i : Nat) (t : Trc) : Key := (ltr t.hd lo, (chKey (cutF lo hi) i t).2)
theorem first2 (a b : Int) : firstNZ [a, b] = if a ≠ 0 then a else b := by
 unfold firstNZ; unfold firstNZ; unfold firstNZ
 by_cases h : a = 0
 · simp only [h]; by_cases k : b = 0 <;> simp [k]
 · simp [h]
/- Cuts by the reference. -/
theorem forceL_all : ∀ l : List Value, forceL l = some l
 | [] => rfl
 | a :: l => by simp only [forceL, forceL_all l]
theorem op_stSub {M : Mc} {l : KL} {h : H} {x y : Operand} {t e : TypeId} {b off es n : Nat} {c cs vs : List Value} {s : Bool} (hx : val l x = some (.pointer (some ⟨b, off, some 0⟩))) (hy : val l y = some (.agg ⟨vs⟩)) (hat : At h b (.cells c e es s)) (hn : tsz M.P t = some n) (hln : Nat.beq vs.length n = true) (hle : off + vs.length ≤ c.length) (hone : vs.all one = true)
   (hc : c.take off ++ (vs ++ c.drop (off + vs.length)) = cs) : Op1 M (.store t x y) l h undef (h.set b (.cells cs e es s)) :=
 aM_ hx hy hat hn hln (by rw [ble_dec, decide_eq_true hle]) hone (by rw [hc]; exact forceL_all cs)
theorem flat_hd : ∀ (us : List Trc) (k : Nat) (hk : k < us.length) (hd : Nat → Int), (us.flatMap Trc.cells).take (k * 10) ++ (hdCells hd ++ (us.flatMap Trc.cells).drop (k * 10 + 8)) = (us.set k ⟨hd, (us[k]).hole, (us[k]).sa, (us[k]).n, (us[k]).c, (us[k]).l⟩).flatMap Trc.cells
 | u :: us, 0, _, hd => by
   rw [List.flatMap_cons, Nat.zero_mul, List.take_zero, List.nil_append, Nat.zero_add, List.drop_append]
   simp [List.flatMap_cons]
 | u :: us, k + 1, hk, hd => by
   rw [List.flatMap_cons, List.set_cons_succ, List.flatMap_cons, List.getElem_cons_succ, ← flat_hd us k (by simpa using hk) hd]
   have e1 : (k + 1) * 10 = u.cells.length + k * 10 := by simp; omega
   have e2 : (k + 1) * 10 + 8 = u.cells.length + (k * 10 + 8) := by simp; omega
   rw [e2, e1, List.take_length_add_append, List.drop_length_add_append, List.append_assoc]
theorem hd_cells {g : H} {B : Nat} {us : List Trc} {e : TypeId} {sf : Bool} (hat : At g B (.cells (us.flatMap Trc.cells) e 10 sf)) {k : Nat} (hk : k < us.length) : acells G g 8 ⟨B, k * 10 + 0, some 0⟩ = some (hdCells (us[k]).hd) := by
 have h1 := (hat.cells (G := G)).drop (k * 10)
 rw [flat_drop us k hk] at h1
 have h2 := (cells_left h1).take 8
 have h3 := h2.all
 simp only [aadd, Nat.zero_add] at h3
 exact h3
theorem _root_.Go.Ab.Sl.bumpB {h : H} {k es n : Nat} {v : Value} {l : List Value} (s : Sl G h es v n l) : Sl G (h.bump k) es v n l := s.grow ((Grow.refl _).bumpB _)
theorem _root_.Go.Ab.Sl.pushB {h : H} {es n : Nat} {v : Value} {l : List Value} (s : Sl G h es v n l) (o : AObj) : Sl G (h.push o) es v n l := s.grow ((Grow.refl _).push _)
theorem _root_.Go.Ab.Sl.set10 {h : H} {B n : Nat} {v : Value} {l : List Value} {c : List Value} {e : TypeId} {s : Bool} (sl : Sl G h 1 v n l) (hat : At h B (.cells c e 10 s)) (o : AObj) : Sl G (h.set B o) 1 v n l := sl.set_ne hat (by decide) o
theorem sl_A {h : H} {n es : Nat} {v : Value} {l : List Value} (q : Sl G h es v n l := by repeat (first | with_reducible assumption | with_reducible refine Sl.bumpB ?_ | (with_reducible refine Sl.set10 ?_ an_ _) | with_reducible refine Sl.pushB ?_ _ | with_reducible refine Sl.grow ?_ (by with_reducible assumption))) : Sl G h es v n l := q
theorem TrOk.at10 {h : H} {B : Nat} {t : Trc} {c : List Value} {e : TypeId} {s : Bool} (o : TrOk G h t) (hB : At h B (.cells c e 10 s)) (ob : AObj) : TrOk G (h.set B ob) t := ⟨o.sl.set_ne hB (by decide) ob⟩
theorem keys_of {us ts : List Trc} (h : us.map Trc.key = ts.map Trc.key) : KeyAll us ts fun _ t => t.key := by
 have hl : us.length = ts.length := by simpa using congrArg List.length h
 refine ⟨hl, fun i q q' => ?_⟩
 have := congrArg (fun l => l[i]?) h
 simp [List.getElem?_map, List.getElem?_eq_getElem q, List.getElem?_eq_getElem q'] at this
 exact this
def cutKeyR (lo hi : Nat) (_ : Nat) (t : Trc) : Key := (ltr t.hd lo, t.hole, if t.hole = true then 0 else hi - lo, if t.hole = true then [] else (t.l.drop lo).take (hi - lo))
set_option maxHeartbeats 4000000 in
theorem c45 {nm : ByteArray} {a : Option Addr} {n c : Nat} {ts : List Trc} {lo hi : Nat} (s : SlT G h (.slice a n c) n ts) (hE : shE nm ts = 0) (hlh : lo ≤ hi) (hhi : hi ≤ wid ts) (hW1 : wid ts ≤ 1024) (hw : Wf h) :
   Cf (mz G) (.func (.func 45) #[] #[]) [.agg ⟨shC nm a n c⟩, .agg ⟨[.int .i64 (lo : Nat), .int .i64 (hi : Nat)]⟩] h fun r h' => ((lateB lo ts = true ∧ r = .tuple #[.agg ⟨zShot⟩, .int .i64 4]) ∨ (lateB lo ts = false ∧ ∃ (B : Nat) (us : List Trc), r = .tuple #[.agg ⟨shC nm (some ⟨B, 0, some 0⟩) n n⟩, .int .i64 0] ∧ h.nx ≤ B ∧ At h' B (.cells (us.flatMap Trc.cells) 47 10 true) ∧ (∀ u ∈ us, TrOk G h' u) ∧ KeyAll us ts (cutKeyR lo hi))) ∧ Grow h h' := by
 have hlen := s.len
 obtain ⟨k1, k2, k3, k4, k5⟩ := shE_ok hE
 obtain ⟨W, hW⟩ : ∃ W, wid ts = W := ⟨_, rfl⟩
 rw [hW] at k5 hhi hW1
 have hb4 : ∀ t ∈ ts, 0 ≤ t.hd 4 ∧ t.hd 4 ≤ 100000 := fun t ht => hdr_ok (tr_ok (k4 t ht)).1 (i := 4) (by omega)
 have hll : ∀ t ∈ ts, t.l.length = t.n := fun t ht => by simpa using (s.ok t ht).sl.length
 have hl : ∀ t ∈ ts, t.n < 1000000 := fun t ht => by
   have := (lchk_ok (tr_ok (k4 t ht)).2.1).1
   have := hll t ht
   omega
 have hho : ∀ t ∈ ts, t.hole = true → t.n = 0 := fun t ht => (tr_ok (k4 t ht)).2.2
 have q83 := fun (h2 : H) (g : Grow h h2) (w : Wf h2) => c83 (nm := nm) (s.grow g) (by omega) (by omega) hl w
 refine ar_ 67 [.cell 4 43, .tmp 5] Tryz.func45 rfl rfl rfl rfl ?_
 repeat' (first | with_reducible refine am_ ?_ | ((with_reducible refine al_ ?_); first | ((with_reducible refine ae_ ?_); refine ac_ (ad_ rfl) ?_) | ((with_reducible refine bw_ ?_); refine ac_ (aL_ rfl ce_ rfl) ?_) | ((with_reducible refine aU_ ?_); refine ac_ (aQ_ zz43 ce_ rfl rfl rfl) ?_) | ((with_reducible refine au_ ?_); refine ac_ (ay_ rfl an_ Tryz.underlying43 rfl ce_ rfl rfl) ?_) | ((with_reducible refine aG_ ?_); refine ci_ (aM_ rfl rfl an_ ce_ rfl rfl rfl rfl) ?_) | ((with_reducible refine aN_ ?_); (refine aW_ rfl rfl rfl rfl (q83 _ aD_ aZ_) rfl rfl ?_; rintro _ _ ⟨⟨B, us, rfl, hB, hatB, hus, hk⟩, hq⟩; all_goals ((try (have hqn := hq.nx)); (try simp only [bG_] at hqn))))) | (with_reducible first | refine ah_ ?_ | refine ao_ ?_ | refine ab_ ?_ | refine at_ ?_))
 have hBn := hatB.lt
 refine wc_cut (ι := Nat) (fun b6 => [(3, .pointer (some ⟨h.nx + 1, 0, some 0⟩)), (4, .pointer (some ⟨h.nx + 2, 0, some 0⟩)), (5, .int .i64 0), (6, .pointer (some ⟨b6, 0, some 0⟩)), (7, .int .i64 0)])
   (fun b6 h1 => (Wf h1 ∧ Grow h h1 ∧ h.nx + 3 ≤ B ∧ B < b6 ∧ b6 < h1.nx ∧ At h1 (h.nx + 1) (.cells [.int .i64 (lo : Nat), .int .i64 (hi : Nat)] 67 2 false) ∧ At h1 (h.nx + 2) (.cells zShot 43 2 false) ∧ At h1 b6 (.cells (shC nm (some ⟨B, 0, some 0⟩) n n) 43 2 false)) ∧ At h1 B (.cells (us.flatMap Trc.cells) 47 10 true) ∧ (∀ u ∈ us, TrOk G h1 u)) _ (ai_ ⟨rfl, rfl, rfl, rfl, rfl, trivial⟩) ⟨⟨aZ_, aD_, (by simp only [H.nx_push] at hB; omega), hBn, z6_A, an_, an_, an_⟩, an_, fun u hu => (hus u hu).ok.grow aD_⟩ ?_
 clear hatB hus hq hqn hBn hB q83
 rintro b6 h2 ⟨⟨w1, g1, n1, n2, n3, a1, a2, a6⟩, aB, hus⟩
 have hka := keys_of hk
 clear hk
 refine bq_ (fun j => n - j) (fun j : Nat => [(3, .pointer (some ⟨h.nx + 1, 0, some 0⟩)), (4, .pointer (some ⟨h.nx + 2, 0, some 0⟩)), (5, .int .i64 0), (6, .pointer (some ⟨b6, 0, some 0⟩)), (7, .int .i64 j)])
   (fun j h1 => (Wf h1 ∧ Grow h h1 ∧ b6 < h1.nx ∧ At h1 (h.nx + 1) (.cells [.int .i64 (lo : Nat), .int .i64 (hi : Nat)] 67 2 false) ∧ At h1 (h.nx + 2) (.cells zShot 43 2 false) ∧ At h1 b6 (.cells (shC nm (some ⟨B, 0, some 0⟩) n n) 43 2 false)) ∧ j ≤ n ∧ lateB lo (ts.drop j) = lateB lo ts ∧ ∃ us : List Trc, At h1 B (.cells (us.flatMap Trc.cells) 47 10 true) ∧ (∀ u ∈ us, TrOk G h1 u) ∧ KeyAll us ts (fun i t => if i < j then cutKeyR lo hi i t else t.key)) 0 (ai_ ⟨rfl, rfl, rfl, rfl, rfl, trivial⟩) ⟨⟨w1, g1, n3, a1, a2, a6⟩, Nat.zero_le _, rfl, us, aB, hus, keys_same hka fun i q => by rw [if_neg (by omega)]⟩ ?_
 clear w1 g1 n3 a1 a2 a6 aB hus hka us h2
 rintro j h2 ⟨⟨w1, g1, n3, a1, a2, a6⟩, hj, hi1, us, aB, hus, hka⟩
 have hul : us.length = n := by rw [hka.1, hlen]
 by_cases hlt : j < n
 · have hju : j < us.length := by omega
   have hjt : j < ts.length := by omega
   have hkey := hka.2 j hju hjt
   simp only at hkey
   rw [if_neg (by omega)] at hkey
   obtain ⟨e1, e2, e3, e4⟩ := cD_ hkey
   have b4 := hb4 _ (List.getElem_mem hjt)
   have hm := List.getElem_mem hjt
   have k5j := k5 _ hm
   have hhoj := hho _ hm
   have hllj := hll _ hm
   rw [← e2, ← e3] at k5j hhoj
   rw [← e3, ← e4] at hllj
   rw [← e1] at b4
   have el : lateB lo (ts.drop j) = (decide (100000 < (us[j]).hd 4 + lo) || lateB lo (ts.drop (j + 1))) := by
     unfold lateB
     rw [List.drop_eq_getElem_cons (by omega), List.any_cons, e1]
   rw [el] at hi1
   clear el
   have hcl : (us.flatMap Trc.cells).length = n * 10 := by rw [bY_, hul]
   have hg4 : (us.flatMap Trc.cells)[j * 10 + 4]? = some (.int .i64 ((us[j]).hd 4)) := by rw [flat_get (by omega) us j hju]; rfl
   have hc8 := fun (g : H) (hat : At g B (.cells (us.flatMap Trc.cells) 47 10 true)) => hd_cells (G := G) hat hju
   have hst := flat_hd us j hju (ltr (us[j]).hd lo)
   have huj := hus _ (List.getElem_mem hju)
   have hck : cutKeyR lo hi j ts[j] = (ltr (us[j]).hd lo, (us[j]).hole, if (us[j]).hole = true then 0 else hi - lo, if (us[j]).hole = true then [] else ((us[j]).l.drop lo).take (hi - lo)) := by unfold cutKeyR; rw [e1, e2, e4]
   have hnext : ∀ (N : Nat) (L : List Nat) (sa : Option Addr) (cc : Nat), N = (if (us[j]).hole = true then 0 else hi - lo) → L = (if (us[j]).hole = true then [] else ((us[j]).l.drop lo).take (hi - lo)) → KeyAll (us.set j ⟨ltr (us[j]).hd lo, (us[j]).hole, sa, N, cc, L⟩) ts (fun i t => if i < j + 1 then cutKeyR lo hi i t else t.key) := fun N L sa cc hN hL => by
     refine keys_set hka hjt ?_ fun i q hij => ?_
     · rw [if_pos (by omega), hck, hN, hL]; rfl
     · by_cases h1 : i < j
       · simp only [if_pos h1, if_pos (show i < j + 1 by omega)]
       · simp only [if_neg h1, if_neg (show ¬ i < j + 1 by omega)]
   have hg8 : ∀ u' : Trc, ((us.set j u').flatMap Trc.cells)[j * 10 + 8]? = some (.bool u'.hole) := fun u' => by rw [flat_get (by omega) _ j (by simpa using hju)]; simp
   have hg9 : ∀ u' : Trc, ((us.set j u').flatMap Trc.cells)[j * 10 + 9]? = some (.slice u'.sa u'.n u'.c) := fun u' => by rw [flat_get (by omega) _ j (by simpa using hju)]; simp
   have hs9 : ∀ (u' : Trc) (sa : Option Addr) (N cc : Nat) (L : List Nat), ((us.set j u').flatMap Trc.cells).set (j * 10 + 9) (.slice sa N cc) = (us.set j ⟨u'.hd, u'.hole, sa, N, cc, L⟩).flatMap Trc.cells := fun u' sa N cc L => by
     rw [flat_set (by omega) _ j (by simpa using hju) ⟨u'.hd, u'.hole, sa, N, cc, L⟩ (by simp), List.set_set]
   clear hkey e1 e2 e3 e4 hck
   obtain ⟨u, hu⟩ : ∃ u, us[j] = u := ⟨_, rfl⟩
   rw [hu] at hi1 hg4 hc8 hst huj hnext b4 k5j hhoj hllj
   clear hu hm hka
   obtain ⟨hd, hole, sa, tn, tc, tl⟩ := u
   simp only at hi1 hg4 hc8 hst huj hnext b4 k5j hhoj hllj
   obtain ⟨A, hA⟩ : ∃ A, hd 4 = A := ⟨_, rfl⟩
   have q116 := fun (h3 : H) (q : A + lo ≤ 100000) => c117 (G := G) (h := h3) hd lo (by omega) (by omega)
   simp only [hA] at hi1 hg4 b4
   by_cases hlate : 100000 < A + lo
   · rw [decide_eq_true hlate, Bool.true_or] at hi1
     repeat' (first | with_reducible refine am_ ?_ | ((with_reducible refine al_ ?_); first | ((with_reducible refine ak_ ?_); refine ac_ (ag_ rfl) ?_) | ((with_reducible refine ae_ ?_); refine ac_ (ad_ rfl) ?_) | ((with_reducible refine au_ ?_); refine ac_ (aq_ rfl an_ Tryz.underlying41 rfl rfl) ?_) | ((with_reducible refine aG_ ?_); refine ci_ (aM_ rfl rfl an_ ce_ rfl rfl rfl rfl) ?_) | ((with_reducible refine ap_ ?_); refine ac_ (aa_ (o := 1) rfl Tryz.underlying43 rfl cL_ rfl) ?_) | ((with_reducible refine aC_ ?_); refine ac_ (ax_ rfl Tryz.underlying41) ?_) | ((with_reducible refine av_ ?_); refine ac_ (aF_ rfl rfl) ?_) | ((with_reducible refine ik_build ?_); refine ac_ (cz_ rfl zz43 zp43 rfl rfl) ?_)) | ((with_reducible refine bL_ ?_); ((with_reducible refine bK_ ?_); first | ((with_reducible refine bI_ ?_); refine bn_ (af_ rfl) rfl rfl (aE_ rfl (ag_ rfl)) rfl rfl rfl ?_) | ((with_reducible refine bo_ ?_); first | refine bn_ (af_ rfl) rfl rfl (aE_ rfl (op_idxArrO (b := B) (off := j * 10 + 0) (o := j * 10 + 4) rfl rfl Tryz.underlying44 zs3 (by omega) (by omega) (by omega))) rfl rfl rfl ?_ | refine bn_ (af_ rfl) rfl rfl (aE_ rfl (bF_ (b := B) (o := j * 10) rfl rfl Tryz.underlying41 cw_ (by omega) (by omega) (by omega))) rfl rfl rfl ?_) | ((with_reducible refine by_ ?_); first | refine bp_ (af_ rfl) rfl (aE_ rfl (bc_ (b := B) (o := j * 10 + 4) rfl an_ Tryz.underlying3 rfl hg4)) rfl rfl rfl ?_ | refine bp_ (af_ rfl) rfl (aE_ rfl (aq_ rfl an_ Tryz.underlying41 rfl rfl)) rfl rfl rfl ?_ | refine bp_ (af_ rfl) rfl (aE_ rfl (aq_ rfl an_ Tryz.underlying3 rfl rfl)) rfl rfl rfl ?_) | ((with_reducible refine bh_ ?_); first | refine bn_ (af_ rfl) rfl rfl (aE_ rfl (aa_ (o := 1) rfl Tryz.underlying43 rfl cL_ rfl)) rfl rfl rfl ?_ | refine bn_ (af_ rfl) rfl rfl (aE_ rfl (aa_ (o := 0) rfl Tryz.underlying47 rfl zs44 rfl)) rfl rfl rfl ?_ | refine bn_ (af_ rfl) rfl rfl (aE_ rfl (aa_ (o := 0) rfl Tryz.underlying67 rfl zs3 rfl)) rfl rfl rfl ?_) | ((with_reducible refine xk_bin ?_); first | refine bn_ (af_ rfl) rfl rfl (aE_ rfl (aR_ rfl rfl (w64 (by omega) (by omega)))) rfl rfl rfl ?_ | refine bn_ (af_ rfl) rfl rfl (aE_ rfl (bZ_ rfl rfl)) rfl rfl rfl ?_) | with_reducible refine bN_ ?_ ?_)) | with_reducible exact bA_ | with_reducible refine bk_ ?_ ?_ | ((with_reducible refine bM_ ?_); first | exact bz_ | refine aB_ rfl rfl (aE_ rfl (bc_ (b := B) (o := j * 10 + 4) rfl an_ Tryz.underlying3 rfl hg4)) ?_ | refine aB_ rfl rfl (aE_ rfl (aq_ rfl an_ Tryz.underlying41 rfl (by rfl))) ?_ | refine aB_ rfl rfl (aE_ rfl (aq_ rfl an_ Tryz.underlying3 rfl (by rfl))) ?_) | (with_reducible first | refine ah_ ?_ | refine ao_ ?_ | refine ab_ ?_ | refine az_ ?_ | refine aA_ ?_ | refine at_ ?_ | refine bV_ ?_ | refine bd_ ?_ | refine cx_ ?_) | (refine aK_ rfl (fun hb => ?_) (fun hb => aH_ hb); (try simp only [bj_, reduceCtorEq] at hb)) | refine br_ (id := 5) 11 [0, 1, 0, 7, 15, 31, 63, 0, 128, 511, 1023] [0, 1, 2, 3, 4, 5, 6, 7, 8, 9, 10] (by kernel_rfl) (by kernel_rfl) rfl rfl ?_)
     all_goals exact rqc2 rfl (ldAgg an_ Tryz.underlying43 rfl ce_ rfl rfl) rfl ⟨.inl ⟨hi1.symm, rfl⟩, aD_⟩
   rw [decide_eq_false hlate, Bool.false_or] at hi1
   cases hole with
   | true =>
     have htn := hhoj rfl
     subst htn
     have htl : tl = [] := List.length_eq_zero_iff.1 hllj
     subst htl
     have huj2 : TrOk G h2 ⟨ltr hd lo, true, sa, 0, tc, []⟩ := ⟨huj.sl⟩
     repeat' (first | with_reducible refine am_ ?_ | ((with_reducible refine al_ ?_); first | ((with_reducible refine ak_ ?_); refine ac_ (ag_ rfl) ?_) | ((with_reducible refine ae_ ?_); refine ac_ (ad_ rfl) ?_) | ((with_reducible refine aw_ ?_); refine ac_ (bF_ (b := B) (o := j * 10) rfl rfl Tryz.underlying41 cw_ (by omega) (by omega) (by omega)) ?_) | ((with_reducible refine au_ ?_); first | refine ac_ (bc_ (b := B) (o := j * 10 + 8) rfl an_ Tryz.underlying4 rfl (hg8 _)) ?_ | refine ac_ (aq_ rfl an_ Tryz.underlying41 rfl rfl) ?_) | ((with_reducible refine ap_ ?_); first | refine ac_ (aa_ (o := 1) rfl Tryz.underlying43 rfl cL_ rfl) ?_ | refine ac_ (aa_ (o := 8) rfl Tryz.underlying47 rfl zs4 rfl) ?_) | ((with_reducible refine aC_ ?_); refine ac_ (ax_ rfl Tryz.underlying41) ?_) | ((with_reducible refine av_ ?_); first | refine ac_ (aF_ rfl rfl) ?_ | refine ac_ (aR_ rfl rfl (w64 (by omega) (by omega))) ?_) | ((with_reducible refine cj_ ?_); refine ac_ (bv_ rfl) ?_)) | ((with_reducible refine bL_ ?_); ((with_reducible refine bK_ ?_); first | ((with_reducible refine bI_ ?_); refine bn_ (af_ rfl) rfl rfl (aE_ rfl (ag_ rfl)) rfl rfl rfl ?_) | ((with_reducible refine bo_ ?_); first | refine bn_ (af_ rfl) rfl rfl (aE_ rfl (op_idxArrO (b := B) (off := j * 10 + 0) (o := j * 10 + 4) rfl rfl Tryz.underlying44 zs3 (by omega) (by omega) (by omega))) rfl rfl rfl ?_ | refine bn_ (af_ rfl) rfl rfl (aE_ rfl (bF_ (b := B) (o := j * 10) rfl rfl Tryz.underlying41 cw_ (by omega) (by omega) (by omega))) rfl rfl rfl ?_) | ((with_reducible refine by_ ?_); first | refine bp_ (af_ rfl) rfl (aE_ rfl (bc_ (b := B) (o := j * 10 + 4) rfl an_ Tryz.underlying3 rfl hg4)) rfl rfl rfl ?_ | refine bp_ (af_ rfl) rfl (aE_ rfl (cN_ rfl Tryz.underlying44 rfl zs44 (hc8 _ an_))) rfl rfl rfl ?_ | refine bp_ (af_ rfl) rfl (aE_ rfl (aq_ rfl an_ Tryz.underlying41 rfl rfl)) rfl rfl rfl ?_ | refine bp_ (af_ rfl) rfl (aE_ rfl (aq_ rfl an_ Tryz.underlying3 rfl rfl)) rfl rfl rfl ?_) | ((with_reducible refine cf_ ?_); refine wx_ee0 (af_ rfl) rfl rfl (op_stSub (b := B) (off := j * 10 + 0) rfl rfl an_ zs44 rfl (by simp only [List.length_cons, List.length_nil]; omega) rfl hst) rfl ?_) | ((with_reducible refine bh_ ?_); first | refine bn_ (af_ rfl) rfl rfl (aE_ rfl (aa_ (o := 1) rfl Tryz.underlying43 rfl cL_ rfl)) rfl rfl rfl ?_ | refine bn_ (af_ rfl) rfl rfl (aE_ rfl (aa_ (o := 0) rfl Tryz.underlying47 rfl zs44 rfl)) rfl rfl rfl ?_ | refine bn_ (af_ rfl) rfl rfl (aE_ rfl (aa_ (o := 0) rfl Tryz.underlying67 rfl zs3 rfl)) rfl rfl rfl ?_) | ((with_reducible refine xk_bin ?_); first | refine bn_ (af_ rfl) rfl rfl (aE_ rfl (aR_ rfl rfl (w64 (by omega) (by omega)))) rfl rfl rfl ?_ | refine bn_ (af_ rfl) rfl rfl (aE_ rfl (bZ_ rfl rfl)) rfl rfl rfl ?_) | ((with_reducible refine bH_ ?_); (refine aV_ (af_ rfl) rfl rfl rfl rfl (q116 _ (by omega)) rfl rfl ?_; rintro _ _ ⟨rfl, hq⟩; all_goals ((try (have hqn := hq.nx)); (try simp only [bG_] at hqn)))) | with_reducible refine bN_ ?_ ?_)) | with_reducible exact bA_ | with_reducible refine bk_ ?_ ?_ | ((with_reducible refine bM_ ?_); first | exact bz_ | refine bx_ rfl ?_ | refine aB_ rfl rfl (aE_ rfl (bc_ (b := B) (o := j * 10 + 4) rfl an_ Tryz.underlying3 rfl hg4)) ?_ | refine aB_ rfl rfl (aE_ rfl (cN_ rfl Tryz.underlying44 rfl zs44 (hc8 _ an_))) ?_ | refine aB_ rfl rfl (aE_ rfl (aq_ rfl an_ Tryz.underlying41 rfl (by rfl))) ?_ | refine aB_ rfl rfl (aE_ rfl (aq_ rfl an_ Tryz.underlying3 rfl (by rfl))) ?_) | (with_reducible first | refine ah_ ?_ | refine ao_ ?_ | refine ab_ ?_ | refine az_ ?_ | refine at_ ?_ | refine aP_ ?_) | refine bs_ rfl ?_ | (refine aK_ rfl (fun hb => aH_ hb) (fun hb => ?_); (try simp only [bj_, reduceCtorEq] at hb)) | (refine aK_ rfl (fun hb => ?_) (fun hb => aH_ hb); (try simp only [bj_, reduceCtorEq] at hb)) | refine br_ (id := 5) 11 [0, 1, 0, 7, 15, 31, 63, 0, 128, 511, 1023] [0, 1, 2, 3, 4, 5, 6, 7, 8, 9, 10] (by kernel_rfl) (by kernel_rfl) rfl rfl ?_ | refine br_ (id := 7) 15 [0, 1, 0, 0, 8, 0, 56, 120, 248, 0, 512, 2040, 4095, 8191, 16383] [0, 1, 2, 3, 4, 5, 6, 7, 8, 9, 10, 11, 12, 13, 14] (by kernel_rfl) (by kernel_rfl) rfl rfl ?_)
     all_goals exact aX_ (j + 1) (by omega) (ai_ ⟨rfl, rfl, rfl, rfl, rfl, trivial⟩) ⟨⟨aZ_, aD_, (by simp only [H.nx_set]; omega), an_, an_, an_⟩, by omega, hi1, us.set j ⟨ltr hd lo, true, sa, 0, tc, []⟩, an_, set_mem (fun u hu => TrOk.at10 (c := us.flatMap Trc.cells) (e := 47) (s := true) ((hus u hu).grow aD_) an_ _) (TrOk.at10 (c := us.flatMap Trc.cells) (e := 47) (s := true) (huj2.grow aD_) an_ _), hnext 0 [] sa tc (by simp) (by simp)⟩
   | false =>
     have htn := k5j rfl
     have hcl2 : ∀ u' : Trc, ((us.set j u').flatMap Trc.cells).length = n * 10 := fun u' => by rw [bY_, List.length_set, hul]
     have hsl : Sl G h2 1 (.slice sa tn tc) tn (tl.map (.float .f32)) := huj.sl
     have hslM : Sl (mz G).G h2 1 (.slice sa tn tc) tn (tl.map (.float .f32)) := hsl
     have hg8b : ((us.set j ⟨ltr hd lo, false, sa, tn, tc, tl⟩).flatMap Trc.cells)[j * 10 + 8]? = some (.bool false) := hg8 _
     have hg9b : ((us.set j ⟨ltr hd lo, false, sa, tn, tc, tl⟩).flatMap Trc.cells)[j * 10 + 9]? = some (.slice sa tn tc) := hg9 _
     have hs9b := hs9 ⟨ltr hd lo, false, sa, tn, tc, tl⟩ (cutA 1 sa tc lo) (hi - lo) (tc - lo) ((tl.drop lo).take (hi - lo))
     simp only at hs9b
     have hsp := hsl.part (lo := lo) (hi := hi) hlh (by omega)
     simp only [Nat.mul_one] at hsp
     rw [← List.map_drop, ← List.map_take] at hsp
     repeat' (first | with_reducible refine am_ ?_ | ((with_reducible refine al_ ?_); first | ((with_reducible refine ak_ ?_); refine ac_ (ag_ rfl) ?_) | ((with_reducible refine ae_ ?_); refine ac_ (ad_ rfl) ?_) | ((with_reducible refine aw_ ?_); refine ac_ (bF_ (b := B) (o := j * 10) rfl rfl Tryz.underlying41 cw_ (by omega) (by omega) (by omega)) ?_) | ((with_reducible refine au_ ?_); first | refine ac_ (bc_ (b := B) (o := j * 10 + 8) rfl an_ Tryz.underlying4 rfl hg8b) ?_ | refine ac_ (aq_ rfl an_ Tryz.underlying41 rfl rfl) ?_) | ((with_reducible refine ap_ ?_); first | refine ac_ (aa_ (o := 1) rfl Tryz.underlying43 rfl cL_ rfl) ?_ | refine ac_ (aa_ (o := 8) rfl Tryz.underlying47 rfl zs4 rfl) ?_) | ((with_reducible refine aC_ ?_); refine ac_ (ax_ rfl Tryz.underlying41) ?_) | ((with_reducible refine av_ ?_); first | refine ac_ (aF_ rfl rfl) ?_ | refine ac_ (aR_ rfl rfl (w64 (by omega) (by omega))) ?_) | ((with_reducible refine cj_ ?_); refine ac_ (bv_ rfl) ?_)) | ((with_reducible refine bL_ ?_); ((with_reducible refine bK_ ?_); first | ((with_reducible refine bI_ ?_); refine bn_ (af_ rfl) rfl rfl (aE_ rfl (ag_ rfl)) rfl rfl rfl ?_) | ((with_reducible refine bo_ ?_); first | refine bn_ (af_ rfl) rfl rfl (aE_ rfl (op_idxArrO (b := B) (off := j * 10 + 0) (o := j * 10 + 4) rfl rfl Tryz.underlying44 zs3 (by omega) (by omega) (by omega))) rfl rfl rfl ?_ | refine bn_ (af_ rfl) rfl rfl (aE_ rfl (bF_ (b := B) (o := j * 10) rfl rfl Tryz.underlying41 cw_ (by omega) (by omega) (by omega))) rfl rfl rfl ?_) | ((with_reducible refine by_ ?_); first | refine bp_ (af_ rfl) rfl (aE_ rfl (bc_ (b := B) (o := j * 10 + 4) rfl an_ Tryz.underlying3 rfl hg4)) rfl rfl rfl ?_ | refine bp_ (af_ rfl) rfl (aE_ rfl (cN_ rfl Tryz.underlying44 rfl zs44 (hc8 _ an_))) rfl rfl rfl ?_ | refine bp_ (af_ rfl) rfl (aE_ rfl (bc_ (b := B) (o := j * 10 + 9) rfl an_ Tryz.underlying45 rfl hg9b)) rfl rfl rfl ?_ | refine bp_ (af_ rfl) rfl (aE_ rfl (aq_ rfl an_ Tryz.underlying41 rfl rfl)) rfl rfl rfl ?_ | refine bp_ (af_ rfl) rfl (aE_ rfl (aq_ rfl an_ Tryz.underlying3 rfl rfl)) rfl rfl rfl ?_) | ((with_reducible refine cf_ ?_); first | refine wx_ee0 (af_ rfl) rfl rfl (op_stSub (b := B) (off := j * 10 + 0) rfl rfl an_ zs44 rfl (by simp only [List.length_cons, List.length_nil]; omega) rfl hst) rfl ?_ | refine wx_ee0 (af_ rfl) rfl rfl (cC_ (b := B) (o := j * 10 + 9) rfl rfl an_ rfl zs45 (by rw [hcl2 _]; omega) rfl hs9b) rfl ?_) | ((with_reducible refine xk_slice ?_); refine bp_ (af_ rfl) rfl (aE_ rfl (op_slcL (L := tl.map (.float .f32)) rfl rfl rfl sl_A Tryz.underlying45 zs23 hlh (by omega) rfl rfl)) rfl rfl rfl ?_) | ((with_reducible refine bh_ ?_); first | refine bn_ (af_ rfl) rfl rfl (aE_ rfl (aa_ (o := 1) rfl Tryz.underlying43 rfl cL_ rfl)) rfl rfl rfl ?_ | refine bn_ (af_ rfl) rfl rfl (aE_ rfl (aa_ (o := 0) rfl Tryz.underlying47 rfl zs44 rfl)) rfl rfl rfl ?_ | refine bn_ (af_ rfl) rfl rfl (aE_ rfl (aa_ (o := 0) rfl Tryz.underlying67 rfl zs3 rfl)) rfl rfl rfl ?_ | refine bn_ (af_ rfl) rfl rfl (aE_ rfl (aa_ (o := 9) rfl Tryz.underlying47 rfl zs45 rfl)) rfl rfl rfl ?_ | refine bn_ (af_ rfl) rfl rfl (aE_ rfl (aa_ (o := 1) rfl Tryz.underlying67 rfl zs3 rfl)) rfl rfl rfl ?_) | ((with_reducible refine xk_bin ?_); first | refine bn_ (af_ rfl) rfl rfl (aE_ rfl (aR_ rfl rfl (w64 (by omega) (by omega)))) rfl rfl rfl ?_ | refine bn_ (af_ rfl) rfl rfl (aE_ rfl (bZ_ rfl rfl)) rfl rfl rfl ?_) | ((with_reducible refine bH_ ?_); (refine aV_ (af_ rfl) rfl rfl rfl rfl (q116 _ (by omega)) rfl rfl ?_; rintro _ _ ⟨rfl, hq⟩; all_goals ((try (have hqn := hq.nx)); (try simp only [bG_] at hqn)))) | with_reducible refine bN_ ?_ ?_)) | with_reducible exact bA_ | with_reducible refine bk_ ?_ ?_ | ((with_reducible refine bM_ ?_); first | exact bz_ | refine bx_ rfl ?_ | refine aB_ rfl rfl (aE_ rfl (bc_ (b := B) (o := j * 10 + 4) rfl an_ Tryz.underlying3 rfl hg4)) ?_ | refine aB_ rfl rfl (aE_ rfl (cN_ rfl Tryz.underlying44 rfl zs44 (hc8 _ an_))) ?_ | refine aB_ rfl rfl (aE_ rfl (bc_ (b := B) (o := j * 10 + 9) rfl an_ Tryz.underlying45 rfl hg9b)) ?_ | refine aB_ rfl rfl (aE_ rfl (aq_ rfl an_ Tryz.underlying41 rfl (by rfl))) ?_ | refine aB_ rfl rfl (aE_ rfl (aq_ rfl an_ Tryz.underlying3 rfl (by rfl))) ?_ | refine aB_ rfl rfl (aE_ rfl (op_slcL (L := tl.map (.float .f32)) rfl rfl rfl sl_A Tryz.underlying45 zs23 hlh (by omega) rfl rfl)) ?_) | (with_reducible first | refine ah_ ?_ | refine ao_ ?_ | refine ab_ ?_ | refine az_ ?_ | refine at_ ?_ | refine aP_ ?_) | refine bP_ rfl ?_ | (refine aK_ rfl (fun hb => aH_ hb) (fun hb => ?_); (try simp only [bj_, reduceCtorEq] at hb)) | (refine aK_ rfl (fun hb => ?_) (fun hb => aH_ hb); (try simp only [bj_, reduceCtorEq] at hb)) | refine br_ (id := 5) 11 [0, 1, 0, 7, 15, 31, 63, 0, 128, 511, 1023] [0, 1, 2, 3, 4, 5, 6, 7, 8, 9, 10] (by kernel_rfl) (by kernel_rfl) rfl rfl ?_ | refine br_ (id := 7) 15 [0, 1, 0, 0, 8, 0, 56, 120, 248, 0, 512, 2040, 4095, 8191, 16383] [0, 1, 2, 3, 4, 5, 6, 7, 8, 9, 10, 11, 12, 13, 14] (by kernel_rfl) (by kernel_rfl) rfl rfl ?_ | refine br_ (id := 9) 17 [0, 1, 0, 0, 8, 0, 56, 120, 248, 0, 512, 0, 2048, 8184, 16383, 32767, 65535] [0, 1, 2, 3, 4, 5, 6, 7, 8, 9, 10, 11, 12, 13, 14, 15, 16] (by kernel_rfl) (by kernel_rfl) rfl rfl ?_)
     all_goals
       have huj2 : TrOk G h2 ⟨ltr hd lo, false, cutA 1 sa tc lo, hi - lo, tc - lo, (tl.drop lo).take (hi - lo)⟩ := ⟨hsp⟩
       refine aX_ (j + 1) (by omega) (ai_ ⟨rfl, rfl, rfl, rfl, rfl, trivial⟩) ⟨⟨aZ_, aD_, (by simp only [H.nx_set, H.nx_bump]; omega), an_, an_, an_⟩, by omega, hi1, us.set j ⟨ltr hd lo, false, cutA 1 sa tc lo, hi - lo, tc - lo, (tl.drop lo).take (hi - lo)⟩, an_, ?_, hnext (hi - lo) _ _ _ (by simp) (by simp)⟩
       refine set_mem (fun u hu => ?_) ?_
       · have hu2 := hus u hu
         exact ⟨(by have z := hu2.sl; exact sl_A)⟩
       · exact ⟨(by have z := huj2.sl; exact sl_A)⟩
 · have hjk : j = n := by omega
   subst hjk
   rw [List.drop_eq_nil_of_le (by omega)] at hi1
   repeat' (first | with_reducible refine am_ ?_ | ((with_reducible refine al_ ?_); first | ((with_reducible refine ak_ ?_); refine ac_ (ag_ rfl) ?_) | ((with_reducible refine ae_ ?_); refine ac_ (ad_ rfl) ?_) | ((with_reducible refine au_ ?_); first | refine ac_ (ay_ rfl an_ Tryz.underlying43 rfl ce_ rfl rfl) ?_ | refine ac_ (aq_ rfl an_ Tryz.underlying41 rfl rfl) ?_) | ((with_reducible refine aG_ ?_); refine ci_ (aM_ rfl rfl an_ ce_ rfl rfl rfl rfl) ?_) | ((with_reducible refine ap_ ?_); refine ac_ (aa_ (o := 1) rfl Tryz.underlying43 rfl cL_ rfl) ?_) | ((with_reducible refine aC_ ?_); refine ac_ (ax_ rfl Tryz.underlying41) ?_) | ((with_reducible refine av_ ?_); refine ac_ (aF_ rfl rfl) ?_)) | (with_reducible first | refine ah_ ?_ | refine ao_ ?_ | refine ab_ ?_ | refine aA_ ?_ | refine be_ ?_ | refine bf_ ?_ | refine bi_ ?_) | refine bS_ rfl ?_ | (refine aK_ rfl (fun hb => aH_ hb) (fun hb => ?_); (try simp only [bj_, reduceCtorEq] at hb)))
   all_goals exact rqc2 rfl (ldAgg an_ Tryz.underlying43 rfl ce_ rfl rfl) rfl ⟨.inr ⟨by rw [← hi1]; rfl, B, us, rfl, by omega, an_, fun u hu => ⟨((hus u hu).sl.set_ne a2 (by decide) _)⟩, keys_same hka fun i q => by rw [if_pos (by omega)]⟩, aD_⟩
end Go.Proofs.YthnnndkfpamacaaGreatDoor
