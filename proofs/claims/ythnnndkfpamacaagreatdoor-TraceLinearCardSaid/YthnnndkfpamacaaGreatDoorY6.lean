/- TraceLinear, its middle: delays there and back. -/
import Derived.Test.YthnnndkfpamacaaGreatDoorY5
set_option linter.all false
/- TraceLinear, its middle: delays there and back. -/
namespace Go.Proofs.YthnnndkfpamacaaGreatDoor
open Go Go.Ab Go.Fl
attribute [local irreducible] SeqQ BlkQ LpQ RetQ Wc Wo WD WX Op1 Op1q Op1a Cf Cl From
attribute [local irreducible] Ieee.Format.order Ieee.Format.read Ieee.Format.nearest Ieee.Format.write Ieee.Format.mul Ieee.Format.div Ieee.Datum.order Ieee.Datum.integral smpE smp smpW K J U trE hdrE lchk firstNZ isNameB wid mism shE offs shortB anyLarge smallB SlK chTs repTs repK stkL stkC alkE lsAt HeardR
set_option maxRecDepth 10000
variable {G : Base} {h : H}
theorem tmod_bound (z : Int) : -30 ≤ z.tmod 31 ∧ z.tmod 31 ≤ 30 := by
 have l1 := Int.tmod_lt_of_pos z (show (0 : Int) < 31 by omega)
 have l2 := Int.tmod_lt_of_pos (-z) (show (0 : Int) < 31 by omega)
 rw [Int.neg_tmod] at l2
 omega
set_option maxHeartbeats 4000000 in
theorem c11c {nm : ByteArray} {a oa : Option Addr} {c on oc : Nat} {ts : List Trc} {ls : List Lst} {z : Int} (s : SlT G h (.slice a on c) on ts) (so : LsOk G h (.slice oa on oc) on ls) (v : Val nm ts) (hG : ∀ a v, laidBase a = some v → G a = some v) (hz : -128 ≤ z ∧ z ≤ 127) (hin : InL ts ls ts.length) {h1 : H} (w : Wf h1) (g : Grow h h1) (x0 : At h1 h.nx (.cells (shC nm a on c) 43 2 false)) : Wc (mz G) none (sfx 16 (Tryz.f11.body.getD .skip)) 489 [(1, .slice oa on oc), (2, .int .i8 z), (3, .pointer (some ⟨h.nx, 0, some 0⟩))] h1 (RetQ (mz G) [.tmp 6] fun r h' => r = .bool true ∧ Grow h h') := by
 have hlen := s.len
 have hmost := v.most
 have hn : on ≤ 65 := by omega
 have sk := s.k
 have wz : IntKind.wrap .i64 z = z := w64 (by omega) (by omega)
 obtain ⟨K, hK⟩ : ∃ K, z.tmod 31 = K := ⟨_, rfl⟩
 have hKb := tmod_bound z
 rw [hK] at hKb
 have vD := v.ch (fits_dly (x := K) v)
 have q31 := fun (h' : H) (st : SlK G h' (.slice a on c) on ts) (w : Wf h') => k31 (nm := nm) st hn v.n w
 have q50 := fun (h' : H) (a1 : Option Addr) (c1 : Nat) (st : SlK G h' (.slice a1 on c1) on ts) (w : Wf h') => k50 (nm := nm) (x := K) st v (rng_ok (by omega) (by omega)) (fits_dly v) w hG
 have q50b := fun (h' : H) (a1 : Option Addr) (c1 : Nat) (st : SlK G h' (.slice a1 on c1) on (chTs (dlyF K) ts)) (w : Wf h') => k50 (nm := nm) (x := -K) st vD (rng_ok (by omega) (by omega)) (fits_dly vD) w hG
 have q81 := fun (h' : H) (a' : Option Addr) (c' : Nat) (st : SlK G h' (.slice a' on c') on (chTs (dlyF K) ts)) (w : Wf h') => k81 (nm := nm) st hn w
 have q35 := fun (h' : H) (a' : Option Addr) (c' : Nat) (st : SlK G h' (.slice a' on c') on (chTs (dlyF K) ts)) (w : Wf h') => k35 st vD w
 have q31D := fun (h' : H) (a' : Option Addr) (c' : Nat) (st : SlK G h' (.slice a' on c') on (chTs (dlyF K) ts)) (w : Wf h') => k31 (nm := nm) st hn vD.n w
 have hbk := back_like v K
 have hbl : (chTs (dlyF (-K)) (chTs (dlyF K) ts)).length = ts.length := by rw [chTs_len, chTs_len]
 obtain ⟨LD, hLD⟩ : ∃ X, chTs (dlyF K) ts = X := ⟨_, rfl⟩
 simp only [hLD] at q50 q50b q81 q35 q31D hbk hbl
 obtain ⟨LB, hLB⟩ : ∃ X, chTs (dlyF (-K)) LD = X := ⟨_, rfl⟩
 simp only [hLB] at q50b hbk hbl
 clear vD
 have lx := x0.lt
 have gn := g.nx
 refine bU_ (ι := Unit) (fun i => [(1, .slice oa on oc), (2, .int .i8 z), (3, .pointer (some ⟨h.nx, 0, some 0⟩)), (29, .int .i64 K)]) (fun i h' => Wf h' ∧ Grow h h' ∧ At h' h.nx (.cells (shC nm a on c) 43 2 false)) ?_ ?_
 · repeat' (first | with_reducible refine am_ ?_ | ((with_reducible refine al_ ?_); first | ((with_reducible refine ak_ ?_); refine ac_ (ag_ rfl) ?_) | ((with_reducible refine ae_ ?_); refine ac_ (ad_ rfl) ?_) | ((with_reducible refine cm_ ?_); refine ac_ (op_cvii rfl Tryz.underlying125 Tryz.underlying3 wz) ?_) | ((with_reducible refine av_ ?_); refine ac_ (op_remV rfl rfl (by omega) hK) ?_)) | with_reducible refine ab_ ?_)
   exact ⟨rfl, (), ai_ ⟨rfl, rfl, rfl, rfl, trivial⟩, aZ_, aD_, an_⟩
 clear w g x0 lx gn h1 wz hK
 rintro _ ha ⟨wa, ga, xa⟩
 refine bU_ (ι := Option Addr × Nat × Nat) (fun i => [(1, .slice oa on oc), (2, .int .i8 z), (3, .pointer (some ⟨h.nx, 0, some 0⟩)), (29, .int .i64 K), (30, .pointer (some ⟨i.2.2, 0, some 0⟩)), (31, .int .i64 0)]) (fun i h' => (Wf h' ∧ Grow h h' ∧ At h' h.nx (.cells (shC nm a on c) 43 2 false)) ∧ At h' i.2.2 (.cells (shC nm i.1 on i.2.1) 54 2 false) ∧ SlK G h' (.slice i.1 on i.2.1) on LD) ?_ ?_
 · have lx := xa.lt
   have gan := ga.nx
   repeat' (first | with_reducible refine am_ ?_ | ((with_reducible refine al_ ?_); first | ((with_reducible refine ak_ ?_); refine ac_ (ag_ rfl) ?_) | ((with_reducible refine ae_ ?_); refine ac_ (ad_ rfl) ?_) | ((with_reducible refine au_ ?_); refine ac_ (ay_ rfl an_ Tryz.underlying43 rfl ce_ rfl rfl) ?_) | ((with_reducible refine aU_ ?_); refine ac_ (aQ_ zz43 ce_ rfl rfl rfl) ?_) | ((with_reducible refine aG_ ?_); refine ci_ (aM_ rfl rfl an_ ce_ rfl rfl rfl rfl) ?_) | ((with_reducible refine bR_ ?_); refine ac_ (bD_ rfl rfl) ?_) | ((with_reducible refine aN_ ?_); first | (refine aW_ rfl rfl rfl rfl (q31 _ (sk.grow aD_) aZ_) rfl rfl ?_; rintro _ _ ⟨⟨y1, y2, rfl, su⟩, hq⟩; all_goals ((try (have hqn := hq.nx)); (try simp only [bG_] at hqn))) | (refine aW_ rfl rfl rfl rfl (q50 _ _ _ (su.grow aD_) aZ_) rfl rfl ?_; rintro _ _ ⟨⟨aR, cR, rfl, sR⟩, hq⟩; all_goals ((try (have hqn := hq.nx)); (try simp only [bG_] at hqn))))) | with_reducible refine ab_ ?_)
   exact ⟨rfl, (_, _, _), ai_ ⟨rfl, rfl, rfl, rfl, rfl, rfl, trivial⟩, ⟨aZ_, aD_, an_⟩, an_, sR.grow aD_⟩
 clear wa ga xa ha q50 q31
 rintro ⟨a30, c30, b30⟩ hb ⟨⟨wb, gb, xb⟩, t30, s30⟩
 simp only at t30 s30
 refine bU_ (ι := Unit) (fun i => [(1, .slice oa on oc), (2, .int .i8 z), (3, .pointer (some ⟨h.nx, 0, some 0⟩)), (29, .int .i64 K), (30, .pointer (some ⟨b30, 0, some 0⟩))]) (fun i h' => (Wf h' ∧ Grow h h' ∧ At h' h.nx (.cells (shC nm a on c) 43 2 false)) ∧ At h' b30 (.cells (shC nm a30 on c30) 54 2 false) ∧ SlK G h' (.slice a30 on c30) on LD) ?_ ?_
 · repeat' (first | with_reducible refine am_ ?_ | ((with_reducible refine al_ ?_); first | ((with_reducible refine ak_ ?_); refine ac_ (ag_ rfl) ?_) | ((with_reducible refine av_ ?_); refine ac_ (bm_ rfl rfl) ?_) | ((with_reducible refine aS_ ?_); refine ac_ (aO_ rfl rfl) ?_) | ((with_reducible refine cG_ ?_); first | ((with_reducible refine bX_ ?_); refine aj_ rfl rfl rfl (ay_ rfl an_ Tryz.underlying54 rfl cc_ rfl rfl) rfl rfl ?_) | ((with_reducible refine bE_ ?_); refine aj_ rfl rfl rfl (bm_ rfl rfl) rfl rfl ?_) | ((with_reducible refine ig_callv ?_); first | (refine cq_ rfl rfl rfl rfl rfl rfl (q81 _ _ _ (s30.grow aD_) aZ_) rfl rfl ?_; rintro _ _ ⟨⟨y1, y2, rfl, su⟩, hq⟩; all_goals ((try (have hqn := hq.nx)); (try simp only [bG_] at hqn))) | (refine cq_ rfl rfl rfl rfl rfl rfl (q35 _ _ _ (su.grow aD_) aZ_) rfl rfl ?_; rintro _ _ ⟨rfl, hq⟩; all_goals ((try (have hqn := hq.nx)); (try simp only [bG_] at hqn)))))) | (with_reducible first | refine ah_ ?_ | refine ao_ ?_ | refine ab_ ?_ | refine az_ ?_) | refine bs_ rfl ?_)
   exact ⟨rfl, (), ai_ ⟨rfl, rfl, rfl, rfl, rfl, trivial⟩, ⟨aZ_, aD_, an_⟩, an_, s30.grow aD_⟩
 clear wb gb xb t30 s30 hb q35
 rintro _ ha ⟨⟨wa, ga, xa⟩, t30, s30⟩
 refine bU_ (ι := Option Addr × Nat × Nat) (fun i => [(1, .slice oa on oc), (2, .int .i8 z), (3, .pointer (some ⟨h.nx, 0, some 0⟩)), (29, .int .i64 K), (32, .pointer (some ⟨i.2.2, 0, some 0⟩)), (33, .int .i64 0)]) (fun i h' => (Wf h' ∧ Grow h h' ∧ At h' h.nx (.cells (shC nm a on c) 43 2 false)) ∧ At h' i.2.2 (.cells (shC nm i.1 on i.2.1) 54 2 false) ∧ SlK G h' (.slice i.1 on i.2.1) on LB) ?_ ?_
 · have lx := xa.lt
   have l30 := t30.lt
   have gan := ga.nx
   repeat' (first | with_reducible refine am_ ?_ | ((with_reducible refine al_ ?_); first | ((with_reducible refine ak_ ?_); refine ac_ (ag_ rfl) ?_) | ((with_reducible refine ae_ ?_); refine ac_ (ad_ rfl) ?_) | ((with_reducible refine cj_ ?_); refine ac_ (op_negV rfl (w64 (by omega) (by omega)) (show 0 - K = -K by omega)) ?_) | ((with_reducible refine au_ ?_); refine ac_ (ay_ rfl an_ Tryz.underlying54 rfl cc_ rfl rfl) ?_) | ((with_reducible refine aU_ ?_); refine ac_ (aQ_ zz43 ce_ rfl rfl rfl) ?_) | ((with_reducible refine aG_ ?_); refine ci_ (aM_ rfl rfl an_ ce_ rfl rfl rfl rfl) ?_) | ((with_reducible refine bR_ ?_); refine ac_ (bD_ rfl rfl) ?_) | ((with_reducible refine aN_ ?_); first | (refine aW_ rfl rfl rfl rfl (q81 _ _ _ (s30.grow aD_) aZ_) rfl rfl ?_; rintro _ _ ⟨⟨y1, y2, rfl, su⟩, hq⟩; all_goals ((try (have hqn := hq.nx)); (try simp only [bG_] at hqn))) | (refine aW_ rfl rfl rfl rfl (q31D _ _ _ (su.grow aD_) aZ_) rfl rfl ?_; rintro _ _ ⟨⟨u1, u2, rfl, sv⟩, hq⟩; all_goals ((try (have hqn := hq.nx)); (try simp only [bG_] at hqn))) | (refine aW_ rfl rfl rfl rfl (q50b _ _ _ (sv.grow aD_) aZ_) rfl rfl ?_; rintro _ _ ⟨⟨aR, cR, rfl, sR⟩, hq⟩; all_goals ((try (have hqn := hq.nx)); (try simp only [bG_] at hqn))))) | with_reducible refine ab_ ?_)
   exact ⟨rfl, (_, _, _), ai_ ⟨rfl, rfl, rfl, rfl, rfl, rfl, trivial⟩, ⟨aZ_, aD_, an_⟩, an_, sR.grow aD_⟩
 clear wa ga xa t30 s30 ha q81 q31D q50b a30 c30 b30
 rintro ⟨a32, c32, b32⟩ hb ⟨⟨wb, gb, xb⟩, t32, s32⟩
 simp only at t32 s32
 refine bU_ (ι := Unit) (fun i => [(1, .slice oa on oc), (2, .int .i8 z), (3, .pointer (some ⟨h.nx, 0, some 0⟩)), (29, .int .i64 K), (32, .pointer (some ⟨b32, 0, some 0⟩))]) (fun i h' => (Wf h' ∧ Grow h h' ∧ At h' h.nx (.cells (shC nm a on c) 43 2 false)) ∧ At h' b32 (.cells (shC nm a32 on c32) 54 2 false) ∧ SlK G h' (.slice a32 on c32) on LB) ?_ ?_
 · repeat' (first | with_reducible refine am_ ?_ | ((with_reducible refine al_ ?_); first | ((with_reducible refine ak_ ?_); refine ac_ (ag_ rfl) ?_) | ((with_reducible refine av_ ?_); refine ac_ (bm_ rfl rfl) ?_) | ((with_reducible refine aS_ ?_); refine ac_ (aO_ rfl rfl) ?_) | ((with_reducible refine cG_ ?_); first | ((with_reducible refine bX_ ?_); first | refine aj_ rfl rfl rfl (aq_ rfl an_ Tryz.underlying41 rfl rfl) rfl rfl ?_ | refine aj_ rfl rfl rfl (aq_ rfl an_ Tryz.underlying52 rfl rfl) rfl rfl ?_) | ((with_reducible refine bW_ ?_); first | refine aj_ rfl rfl rfl (ax_ rfl Tryz.underlying41) rfl rfl ?_ | refine aj_ rfl rfl rfl (ax_ rfl Tryz.underlying52) rfl rfl ?_) | ((with_reducible refine bt_ ?_); first | refine aj_ rfl rfl rfl (aa_ (o := 1) rfl Tryz.underlying43 rfl cL_ rfl) rfl rfl ?_ | refine aj_ rfl rfl rfl (aa_ (o := 1) rfl Tryz.underlying54 rfl zs52 rfl) rfl rfl ?_) | ((with_reducible refine bE_ ?_); refine aj_ rfl rfl rfl (bm_ rfl rfl) rfl rfl ?_))) | (with_reducible first | refine ah_ ?_ | refine ao_ ?_ | refine ab_ ?_ | refine az_ ?_) | (refine aK_ rfl (fun hb => (of_decide_eq_true hb rfl).elim) (fun hb => ?_); (try simp only [bj_, reduceCtorEq] at hb)))
   exact ⟨rfl, (), ai_ ⟨rfl, rfl, rfl, rfl, rfl, trivial⟩, ⟨aZ_, aD_, an_⟩, an_, s32.grow aD_⟩
 clear wb gb xb t32 s32 hb
 rintro _ ha ⟨⟨wa, ga, xa⟩, t32, s32⟩
 refine bU_ (ι := Unit) (fun i => [(1, .slice oa on oc), (2, .int .i8 z), (3, .pointer (some ⟨h.nx, 0, some 0⟩))]) (fun i h' => Wf h' ∧ Grow h h' ∧ At h' h.nx (.cells (shC nm a on c) 43 2 false)) ?_ ?_
 · obtain ⟨us, st, hky⟩ := slk_un s32
   have hul := st.len
   have hall : ∀ i (q : i < us.length) (p : i < ts.length), (us[i]).hd = (ts[i]).hd ∧ (us[i]).n = (ts[i]).n ∧ ((ts[i]).hole = true → (ts[i]).n = 0) ∧ ((ts[i]).hole = false → (us[i]).l = (List.range (ts[i]).n).map fun j : Nat => smpW (if 0 ≤ (j : Int) + K ∧ (j : Int) + K < (ts[i]).n then ((ts[i]).l.map smp).getD j 0 else 0)) := fun i q p => by
     have p2 : i < LB.length := by omega
     obtain ⟨e1, e2, e3, e4⟩ := cD_ (keys_at hky q p2)
     have e := hbk i p p2
     have hm := v.tr _ (List.getElem_mem p)
     cases h0 : (ts[i]).hole with
     | true =>
       rw [h0, if_pos rfl] at e
       rw [e] at e1 e3
       exact ⟨e1, by rw [e3]; exact (hm.2.1 h0).symm, (fun _ => hm.2.1 h0), (fun q => by cases q)⟩
     | false =>
       rw [h0, if_neg (by simp)] at e
       rw [e] at e1 e3 e4
       exact ⟨e1, e3, (fun q => by cases q), fun _ => e4⟩
   clear hbk hbl hky s32
   have l32 := t32.lt
   have lx := xa.lt
   have gan := ga.nx
   repeat' (first | with_reducible refine am_ ?_ | ((with_reducible refine al_ ?_); first | ((with_reducible refine ak_ ?_); refine ac_ (ag_ rfl) ?_) | ((with_reducible refine au_ ?_); refine ac_ (aq_ rfl an_ Tryz.underlying52 rfl rfl) ?_) | ((with_reducible refine aC_ ?_); refine ac_ (ax_ rfl Tryz.underlying52) ?_) | ((with_reducible refine ap_ ?_); refine ac_ (aa_ (o := 1) rfl Tryz.underlying54 rfl zs52 rfl) ?_)) | (with_reducible first | refine ah_ ?_ | refine ao_ ?_ | refine ab_ ?_ | refine at_ ?_))
   refine bq_ (fun k : Nat => on - k) (fun k => [(1, .slice oa on oc), (2, .int .i8 z), (3, .pointer (some ⟨h.nx, 0, some 0⟩)), (29, .int .i64 K), (337, .slice a32 on c32), (338, .int .i64 on), (339, .int .i64 k)]) (fun k h' => (Wf h' ∧ Grow h h' ∧ At h' h.nx (.cells (shC nm a on c) 43 2 false)) ∧ Grow ha h' ∧ k ≤ on) 0 (ai_ ⟨rfl, rfl, rfl, rfl, rfl, rfl, rfl, trivial⟩) ⟨⟨aZ_, aD_, an_⟩, aD_, Nat.zero_le _⟩ ?_
   clear wa ga xa t32 l32 lx gan b32
   rintro k hc ⟨⟨wc, gc, xc⟩, gx, hk⟩
   have lx := xc.lt
   have gcn := gc.nx
   have gxn := gx.nx
   by_cases hkn : k < on
   · have p : k < ts.length := by omega
     obtain ⟨ad, k1, k3⟩ := cA_ (st.grow gx) Tryz.underlying52 ch_ (i := (k : Int)) hkn rfl
     obtain ⟨ae, m1, m3⟩ := cA_ (s.grow gc) Tryz.underlying41 cw_ (i := (k : Int)) hkn rfl
     obtain ⟨e1, e2, e3, e4⟩ := hall k (by omega) p
     have ou := (st.ok _ (List.getElem_mem (show k < us.length by omega)))
     have os := (s.ok _ (List.getElem_mem p))
     have hm := v.tr _ (List.getElem_mem p)
     obtain ⟨t, ht⟩ : ∃ t, us[k]'(by omega) = t := ⟨_, rfl⟩
     obtain ⟨t0, ht0⟩ : ∃ t, ts[k]'(by omega) = t := ⟨_, rfl⟩
     rw [ht] at k3 e1 e2 e4 ou
     rw [ht0] at m3 e1 e2 e3 e4 os hm
     clear ht ht0
     obtain ⟨hd, hole, sa', tn, tc, tl⟩ := t
     obtain ⟨hd0, hole0, sa0, tn0, tc0, tl0⟩ := t0
     have qf := k3.all
     simp only at e1 e2 e3 e4
     subst e1 e2
     have sou := ou.sl
     have sos := os.sl
     clear ou os
     simp only at sou sos hm
     dsimp only [Trc.cells] at qf
     have m8 : Cells G hc ae (hdCells hd) := m3.take 8
     have hne : eqV Tryz.prog 3 44 (hdCells hd) (hdCells hd) = some true := by rw [hd_eqv, hdB_refl]
     repeat' (first | with_reducible refine am_ ?_ | ((with_reducible refine al_ ?_); first | ((with_reducible refine ak_ ?_); refine ac_ (ag_ rfl) ?_) | ((with_reducible refine ae_ ?_); refine ac_ (ad_ rfl) ?_) | ((with_reducible refine aw_ ?_); refine ac_ (as_ rfl rfl k1) ?_) | ((with_reducible refine au_ ?_); first | refine ac_ (bJ_ rfl Tryz.underlying58 rfl ch_ qf) ?_ | refine ac_ (bc_ (o := 9) rfl an_ Tryz.underlying45 rfl (by rfl)) ?_) | ((with_reducible refine av_ ?_); refine ac_ (aF_ rfl rfl) ?_) | ((with_reducible refine aC_ ?_); refine ac_ (ax_ rfl Tryz.underlying45) ?_) | ((with_reducible refine ap_ ?_); refine ac_ (aa_ (o := 9) rfl Tryz.underlying47 rfl zs45 rfl) ?_) | ((with_reducible refine aU_ ?_); refine ac_ (aQ_ zz58 ch_ rfl rfl rfl) ?_) | ((with_reducible refine aG_ ?_); refine ci_ (aM_ rfl rfl an_ ch_ rfl rfl rfl rfl) ?_)) | ((with_reducible refine bL_ ?_); ((with_reducible refine bK_ ?_); first | ((with_reducible refine bI_ ?_); refine bn_ (af_ rfl) rfl rfl (aE_ rfl (ag_ rfl)) rfl rfl rfl ?_) | ((with_reducible refine bo_ ?_); refine bn_ (af_ rfl) rfl rfl (aE_ rfl (as_ rfl rfl m1)) rfl rfl rfl ?_) | ((with_reducible refine by_ ?_); first | refine bp_ (af_ rfl) rfl (aE_ rfl (bc_ (o := 9) rfl an_ Tryz.underlying45 rfl (by rfl))) rfl rfl rfl ?_ | refine bp_ (af_ rfl) rfl (aE_ rfl (aI_ rfl Tryz.underlying45 rfl ((m3.grow aD_).get 9 _ rfl))) rfl rfl rfl ?_ | refine bp_ (af_ rfl) rfl (aE_ rfl (aq_ rfl an_ Tryz.underlying41 rfl rfl)) rfl rfl rfl ?_) | ((with_reducible refine xk_bin ?_); refine bn_ (af_ rfl) rfl rfl (aE_ rfl (bm_ rfl rfl)) rfl rfl rfl ?_) | ((with_reducible refine xk_callb ?_); refine bn_ (af_ rfl) rfl rfl (aE_ rfl (ax_ rfl Tryz.underlying45)) rfl rfl rfl ?_) | ((with_reducible refine bh_ ?_); first | refine bn_ (af_ rfl) rfl rfl (aE_ rfl (aa_ (o := 1) rfl Tryz.underlying43 rfl cL_ rfl)) rfl rfl rfl ?_ | refine bn_ (af_ rfl) rfl rfl (aE_ rfl (aa_ (o := 9) rfl Tryz.underlying47 rfl zs45 rfl)) rfl rfl rfl ?_) | ((with_reducible refine xk_pick ?_); refine bn_ (af_ rfl) rfl rfl (aE_ rfl (aO_ rfl rfl)) rfl rfl rfl ?_) | ((with_reducible refine xk_g ?_); first | ((with_reducible refine xg_move ?_); refine bn_ (bl_ rfl rfl rfl) rfl rfl (aE_ rfl (ag_ rfl)) rfl rfl rfl ?_) | ((with_reducible refine xg_indexAddr ?_); refine bn_ (bl_ rfl rfl rfl) rfl rfl (aE_ rfl (as_ rfl rfl m1)) rfl rfl rfl ?_) | ((with_reducible refine xg_load ?_); first | refine bp_ (bl_ rfl rfl rfl) rfl (aE_ rfl (bJ_ rfl Tryz.underlying44 rfl zs44 ((m8.grow aD_).all))) rfl rfl rfl ?_ | refine bp_ (bl_ rfl rfl rfl) rfl (aE_ rfl (aq_ rfl an_ Tryz.underlying41 rfl rfl)) rfl rfl rfl ?_ | refine bp_ (bl_ rfl rfl rfl) rfl (aE_ rfl (ay_ rfl an_ Tryz.underlying44 rfl zs44 rfl rfl)) rfl rfl rfl ?_) | ((with_reducible refine xg_bin ?_); refine bn_ (bl_ rfl rfl rfl) rfl rfl (aE_ rfl (op_neT 3 rfl rfl rfl Tryz.underlying44 rfl eg44 hne)) rfl rfl rfl ?_) | ((with_reducible refine xg_fieldAddr ?_); first | refine bn_ (bl_ rfl rfl rfl) rfl rfl (aE_ rfl (aa_ (o := 1) rfl Tryz.underlying43 rfl cL_ rfl)) rfl rfl rfl ?_ | refine bn_ (bl_ rfl rfl rfl) rfl rfl (aE_ rfl (aa_ (o := 0) rfl Tryz.underlying58 rfl zs44 rfl)) rfl rfl rfl ?_) | (refine wx_split rfl rfl rfl (fun hb => (of_decide_eq_true hb rfl).elim) (fun hb => ?_); (try simp only [bj_, reduceCtorEq] at hb))) | with_reducible refine bN_ ?_ ?_)) | with_reducible exact bA_ | with_reducible refine bk_ ?_ ?_ | ((with_reducible refine bM_ ?_); first | exact bz_ | refine aB_ rfl rfl (aE_ rfl (bc_ (o := 9) rfl an_ Tryz.underlying45 rfl (by rfl))) ?_ | refine aB_ rfl rfl (aE_ rfl (aI_ rfl Tryz.underlying45 rfl ((m3.grow aD_).get 9 _ rfl))) ?_ | refine aB_ rfl rfl (aE_ rfl (bJ_ rfl Tryz.underlying44 rfl zs44 ((m8.grow aD_).all))) ?_ | refine aB_ rfl rfl (aE_ rfl (aq_ rfl an_ Tryz.underlying41 rfl (by rfl))) ?_ | refine aB_ rfl rfl (aE_ rfl (ay_ rfl an_ Tryz.underlying44 rfl zs44 (by rfl) rfl)) ?_) | (with_reducible first | refine ah_ ?_ | refine ao_ ?_ | refine ab_ ?_ | refine az_ ?_ | refine at_ ?_) | refine bs_ rfl ?_ | (refine aK_ rfl (fun hb => ?_) (fun hb => aH_ hb); (try simp only [bj_, reduceCtorEq] at hb)) | refine br_ (id := 53) 22 [0, 1, 3, 0, 8, 0, 56, 120, 248, 504, 1023, 2047, 4095, 8191, 4095, 20479, 4095, 118783, 249855, 511999, 1048575, 2097151] [0, 1, 2, 3, 4, 5, 6, 7, 8, 9, 10, 11, 12, 13, 14, 15, 16, 17, 18, 19, 20, 21] (by kernel_rfl) (by kernel_rfl) rfl rfl ?_)
     all_goals
       refine bq_ (fun j : Nat => tn - j) (fun j => [(1, .slice oa on oc), (2, .int .i8 z), (3, .pointer (some ⟨h.nx, 0, some 0⟩)), (29, .int .i64 K), (337, .slice a32 on c32), (338, .int .i64 on), (339, .int .i64 k), (34, .int .i64 k), (35, .pointer (some ⟨hc.nx, 0, some 0⟩)), (367, .slice sa' tn tc), (368, .int .i64 tn), (369, .int .i64 j)]) (fun j h' => ((Wf h' ∧ Grow h h' ∧ At h' h.nx (.cells (shC nm a on c) 43 2 false)) ∧ At h' hc.nx (.cells (Trc.cells ⟨hd, hole, sa', tn, tc, tl⟩) 58 10 false)) ∧ Grow ha h' ∧ Grow hc h' ∧ j ≤ tn) 0 (ai_ ⟨rfl, rfl, rfl, rfl, rfl, rfl, rfl, rfl, rfl, rfl, rfl, rfl, trivial⟩) ⟨⟨⟨aZ_, aD_, an_⟩, an_⟩, aD_, aD_, Nat.zero_le _⟩ ?_
       clear wc gc xc lx gcn k1 k3 qf hne m8
       rintro j hd2 ⟨⟨⟨wd, gd, xd⟩, t35⟩, gx2, gx3, hj⟩
       have gxn3 := gx3.nx
       have l35 := t35.lt
       by_cases hjn : j < tn
       · have hh0 : hole0 = false := by
           cases hole0 with
           | false => rfl
           | true => have := e3 rfl; omega
         subst hh0
         have e5 := e4 rfl
         obtain ⟨bd, n1, n3⟩ := sl_at (sou.grow gx2) (i := (j : Int)) hjn rfl
         have ou2 := sou.length
         simp only [List.length_map] at ou2
         obtain ⟨cd, r1, r3⟩ := sl_at (sos.grow gd) (i := (j : Int)) hjn rfl
         have os2 := sos.length
         simp only [List.length_map] at os2
         have hy : tl[j]'(by omega) = smpW (if 0 ≤ (j : Int) + K ∧ (j : Int) + K < tn then (tl0.map smp).getD j 0 else 0) := by simp [e5]
         have hx0 := hm.2.2.2.2 _ (List.getElem_mem (show j < tl0.length by omega))
         rw [map_getD (show j < tl0.length by omega)] at hy
         have o1 := smpW_feq hx0
         have o2 := smpW_feq smpE0
         rw [smp0] at o2
         obtain ⟨x0', hx0'⟩ : ∃ x, tl0[j]'(by omega) = x := ⟨_, rfl⟩
         rw [hx0'] at hy o1 r3
         rw [hy] at n3
         clear hy hx0 hx0'
         by_cases hA : 0 ≤ (j : Int) + K
         · by_cases hB : (j : Int) + K < tn
           · rw [if_pos ⟨hA, hB⟩] at n3
             repeat' (first | with_reducible refine am_ ?_ | ((with_reducible refine al_ ?_); first | ((with_reducible refine ak_ ?_); refine ac_ (ag_ rfl) ?_) | ((with_reducible refine ae_ ?_); refine ac_ (ad_ rfl) ?_) | ((with_reducible refine aw_ ?_); refine ac_ (as_ rfl rfl n1) ?_) | ((with_reducible refine au_ ?_); refine ac_ (aI_ rfl Tryz.underlying23 rfl n3) ?_) | ((with_reducible refine av_ ?_); first | refine ac_ (aF_ rfl rfl) ?_ | refine ac_ (aR_ rfl rfl (w64 (by omega) (by omega))) ?_ | refine ac_ (op_geq rfl rfl) ?_) | ((with_reducible refine aS_ ?_); first | refine ac_ (aT_ rfl rfl) ?_ | refine ac_ (aO_ rfl rfl) ?_) | ((with_reducible refine cG_ ?_); first | refine bC_ rfl rfl rfl rfl rfl rfl ?_ | ((with_reducible refine bB_ ?_); refine aj_ rfl rfl rfl (ag_ rfl) rfl rfl ?_) | ((with_reducible refine ig_indexAddr ?_); first | refine aj_ rfl rfl rfl (as_ rfl rfl m1) rfl rfl ?_ | refine aj_ rfl rfl rfl (as_ rfl rfl r1) rfl rfl ?_) | ((with_reducible refine bX_ ?_); first | refine aj_ rfl rfl rfl (bc_ (o := 9) rfl an_ Tryz.underlying45 rfl (by rfl)) rfl rfl ?_ | refine aj_ rfl rfl rfl (aI_ rfl Tryz.underlying45 rfl ((m3.grow aD_).get 9 _ rfl)) rfl rfl ?_ | refine aj_ rfl rfl rfl (aI_ rfl Tryz.underlying23 rfl r3) rfl rfl ?_ | refine aj_ rfl rfl rfl (aq_ rfl an_ Tryz.underlying41 rfl rfl) rfl rfl ?_) | ((with_reducible refine bE_ ?_); first | refine aj_ rfl rfl rfl (op_fneq rfl rfl o1) rfl rfl ?_ | refine aj_ rfl rfl rfl (aF_ rfl rfl) rfl rfl ?_ | refine aj_ rfl rfl rfl (aR_ rfl rfl (w64 (by omega) (by omega))) rfl rfl ?_) | ((with_reducible refine ig_un ?_); refine aj_ rfl rfl rfl (bv_ rfl) rfl rfl ?_) | ((with_reducible refine bW_ ?_); refine aj_ rfl rfl rfl (ax_ rfl Tryz.underlying45) rfl rfl ?_) | ((with_reducible refine bt_ ?_); first | refine aj_ rfl rfl rfl (aa_ (o := 1) rfl Tryz.underlying43 rfl cL_ rfl) rfl rfl ?_ | refine aj_ rfl rfl rfl (aa_ (o := 9) rfl Tryz.underlying47 rfl zs45 rfl) rfl rfl ?_) | ((with_reducible refine ig_pick ?_); refine aj_ rfl rfl rfl (aO_ rfl rfl) rfl rfl ?_) | (refine bb_ rfl rfl rfl (fun hb => aH_ hb) (fun hb => ?_); (try simp only [bj_, reduceCtorEq] at hb)) | (refine bb_ rfl rfl rfl (fun hb => ?_) (fun hb => aH_ hb); (try simp only [bj_, reduceCtorEq] at hb)))) | (with_reducible first | refine ah_ ?_ | refine ao_ ?_ | refine ab_ ?_ | refine az_ ?_ | refine at_ ?_ | refine aP_ ?_) | refine bs_ rfl ?_ | (refine aK_ rfl (fun hb => ?_) (fun hb => aH_ hb); (try simp only [bj_, reduceCtorEq] at hb)))
             all_goals exact aX_ (j + 1) (by omega) (ai_ ⟨rfl, rfl, rfl, rfl, rfl, rfl, rfl, rfl, rfl, rfl, rfl, rfl, trivial⟩) ⟨⟨⟨aZ_, aD_, an_⟩, an_⟩, aD_, aD_, by omega⟩
           · rw [if_neg (fun q => hB q.2)] at n3
             repeat' (first | with_reducible refine am_ ?_ | ((with_reducible refine al_ ?_); first | ((with_reducible refine ak_ ?_); refine ac_ (ag_ rfl) ?_) | ((with_reducible refine ae_ ?_); refine ac_ (ad_ rfl) ?_) | ((with_reducible refine aw_ ?_); refine ac_ (as_ rfl rfl n1) ?_) | ((with_reducible refine au_ ?_); refine ac_ (aI_ rfl Tryz.underlying23 rfl n3) ?_) | ((with_reducible refine av_ ?_); first | refine ac_ (aF_ rfl rfl) ?_ | refine ac_ (aR_ rfl rfl (w64 (by omega) (by omega))) ?_ | refine ac_ (op_geq rfl rfl) ?_) | ((with_reducible refine aS_ ?_); first | refine ac_ (aT_ rfl rfl) ?_ | refine ac_ (aO_ rfl rfl) ?_) | ((with_reducible refine cG_ ?_); first | refine bC_ rfl rfl rfl rfl rfl rfl ?_ | ((with_reducible refine bB_ ?_); refine aj_ rfl rfl rfl (ag_ rfl) rfl rfl ?_) | ((with_reducible refine bX_ ?_); refine aj_ rfl rfl rfl (bc_ (o := 9) rfl an_ Tryz.underlying45 rfl (by rfl)) rfl rfl ?_) | ((with_reducible refine bE_ ?_); first | refine aj_ rfl rfl rfl (op_fneq rfl rfl o2) rfl rfl ?_ | refine aj_ rfl rfl rfl (aF_ rfl rfl) rfl rfl ?_ | refine aj_ rfl rfl rfl (aR_ rfl rfl (w64 (by omega) (by omega))) rfl rfl ?_) | ((with_reducible refine ig_un ?_); refine aj_ rfl rfl rfl (bv_ rfl) rfl rfl ?_) | ((with_reducible refine bW_ ?_); refine aj_ rfl rfl rfl (ax_ rfl Tryz.underlying45) rfl rfl ?_) | ((with_reducible refine bt_ ?_); refine aj_ rfl rfl rfl (aa_ (o := 9) rfl Tryz.underlying47 rfl zs45 rfl) rfl rfl ?_) | ((with_reducible refine ig_pick ?_); refine aj_ rfl rfl rfl (aT_ rfl rfl) rfl rfl ?_) | (refine bb_ rfl rfl rfl (fun hb => aH_ hb) (fun hb => ?_); (try simp only [bj_, reduceCtorEq] at hb)) | (refine bb_ rfl rfl rfl (fun hb => ?_) (fun hb => aH_ hb); (try simp only [bj_, reduceCtorEq] at hb)))) | (with_reducible first | refine ah_ ?_ | refine ao_ ?_ | refine ab_ ?_ | refine az_ ?_ | refine at_ ?_ | refine aP_ ?_) | refine bs_ rfl ?_ | (refine aK_ rfl (fun hb => ?_) (fun hb => aH_ hb); (try simp only [bj_, reduceCtorEq] at hb)))
             all_goals exact aX_ (j + 1) (by omega) (ai_ ⟨rfl, rfl, rfl, rfl, rfl, rfl, rfl, rfl, rfl, rfl, rfl, rfl, trivial⟩) ⟨⟨⟨aZ_, aD_, an_⟩, an_⟩, aD_, aD_, by omega⟩
         · rw [if_neg (fun q => hA q.1)] at n3
           repeat' (first | with_reducible refine am_ ?_ | ((with_reducible refine al_ ?_); first | ((with_reducible refine ak_ ?_); refine ac_ (ag_ rfl) ?_) | ((with_reducible refine ae_ ?_); refine ac_ (ad_ rfl) ?_) | ((with_reducible refine aw_ ?_); refine ac_ (as_ rfl rfl n1) ?_) | ((with_reducible refine au_ ?_); refine ac_ (aI_ rfl Tryz.underlying23 rfl n3) ?_) | ((with_reducible refine av_ ?_); first | refine ac_ (aF_ rfl rfl) ?_ | refine ac_ (aR_ rfl rfl (w64 (by omega) (by omega))) ?_ | refine ac_ (op_geq rfl rfl) ?_) | ((with_reducible refine aS_ ?_); refine ac_ (aO_ rfl rfl) ?_) | ((with_reducible refine cG_ ?_); first | refine bC_ rfl rfl rfl rfl rfl rfl ?_ | ((with_reducible refine bB_ ?_); refine aj_ rfl rfl rfl (ag_ rfl) rfl rfl ?_) | ((with_reducible refine bE_ ?_); refine aj_ rfl rfl rfl (op_fneq rfl rfl o2) rfl rfl ?_) | ((with_reducible refine ig_un ?_); refine aj_ rfl rfl rfl (bv_ rfl) rfl rfl ?_) | ((with_reducible refine ig_pick ?_); refine aj_ rfl rfl rfl (aT_ rfl rfl) rfl rfl ?_) | (refine bb_ rfl rfl rfl (fun hb => aH_ hb) (fun hb => ?_); (try simp only [bj_, reduceCtorEq] at hb)))) | (with_reducible first | refine ah_ ?_ | refine ao_ ?_ | refine ab_ ?_ | refine az_ ?_ | refine at_ ?_ | refine aP_ ?_) | refine bs_ rfl ?_ | (refine aK_ rfl (fun hb => ?_) (fun hb => aH_ hb); (try simp only [bj_, reduceCtorEq] at hb)))
           all_goals exact aX_ (j + 1) (by omega) (ai_ ⟨rfl, rfl, rfl, rfl, rfl, rfl, rfl, rfl, rfl, rfl, rfl, rfl, trivial⟩) ⟨⟨⟨aZ_, aD_, an_⟩, an_⟩, aD_, aD_, by omega⟩
       · repeat' (first | with_reducible refine am_ ?_ | ((with_reducible refine al_ ?_); first | ((with_reducible refine ak_ ?_); refine ac_ (ag_ rfl) ?_) | ((with_reducible refine av_ ?_); first | refine ac_ (aF_ rfl rfl) ?_ | refine ac_ (aR_ rfl rfl (w64 (by omega) (by omega))) ?_)) | (with_reducible first | refine ah_ ?_ | refine ao_ ?_ | refine ab_ ?_ | refine be_ ?_ | refine aP_ ?_ | refine bf_ ?_ | refine bi_ ?_) | refine bS_ rfl ?_ | (refine aK_ rfl (fun hb => aH_ hb) (fun hb => ?_); (try simp only [bj_, reduceCtorEq] at hb)))
         all_goals exact aX_ (k + 1) (by omega) (ai_ ⟨rfl, rfl, rfl, rfl, rfl, rfl, rfl, trivial⟩) ⟨⟨aZ_, aD_, an_⟩, aD_, by omega⟩
   · repeat' (first | with_reducible refine am_ ?_ | ((with_reducible refine al_ ?_); ((with_reducible refine av_ ?_); refine ac_ (aF_ rfl rfl) ?_)) | (with_reducible first | refine ah_ ?_ | refine ao_ ?_ | refine ab_ ?_ | refine be_ ?_ | refine bf_ ?_ | refine bi_ ?_) | refine bS_ rfl ?_ | (refine aK_ rfl (fun hb => aH_ hb) (fun hb => ?_); (try simp only [bj_, reduceCtorEq] at hb)))
     exact ⟨rfl, (), ai_ ⟨rfl, rfl, rfl, trivial⟩, aZ_, aD_, an_⟩
 clear wa ga xa t32 s32 ha
 rintro _ hb ⟨wb, gb, xb⟩
 exact c11d s so v hG hin wb gb xb
end Go.Proofs.YthnnndkfpamacaaGreatDoor
