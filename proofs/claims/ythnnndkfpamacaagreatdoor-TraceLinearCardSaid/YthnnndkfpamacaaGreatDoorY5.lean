/- TraceLinear, its end: a stack of traces that are alike. -/
import Derived.Test.YthnnndkfpamacaaGreatDoorY1
set_option linter.all false
/- TraceLinear, its end: a stack of traces that are alike. -/
namespace Go.Proofs.YthnnndkfpamacaaGreatDoor
open Go Go.Ab Go.Fl
attribute [local irreducible] SeqQ BlkQ LpQ RetQ Wc Wo WD WX Op1 Op1q Op1a Cf Cl From
attribute [local irreducible] Ieee.Format.order Ieee.Format.read Ieee.Format.nearest Ieee.Format.write Ieee.Format.mul Ieee.Format.div Ieee.Datum.order Ieee.Datum.integral smpE smp smpW K J U trE hdrE lchk firstNZ isNameB wid mism shE offs shortB anyLarge smallB SlK chTs repTs repK stkL stkC alkE lsAt HeardR
set_option maxRecDepth 10000
variable {G : Base} {h : H}
set_option maxHeartbeats 4000000 in
theorem c11d {nm : ByteArray} {a oa : Option Addr} {c on oc : Nat} {ts : List Trc} {ls : List Lst} {z : Int} (s : SlT G h (.slice a on c) on ts) (so : LsOk G h (.slice oa on oc) on ls) (v : Val nm ts) (hG : ∀ a v, laidBase a = some v → G a = some v) (hin : InL ts ls ts.length) {h1 : H} (w : Wf h1) (g : Grow h h1) (x0 : At h1 h.nx (.cells (shC nm a on c) 43 2 false)) : Wc (mz G) none (sfx 22 (Tryz.f11.body.getD .skip)) 489 [(1, .slice oa on oc), (2, .int .i8 z), (3, .pointer (some ⟨h.nx, 0, some 0⟩))] h1 (RetQ (mz G) [.tmp 6] fun r h' => r = .bool true ∧ Grow h h') := by
 have hlen := s.len
 have hmost := v.most
 have hn : on ≤ 65 := by omega
 have hls := so.len
 have q83 := fun (h' : H) (g : Grow h h') (w : Wf h') => c83 (nm := nm) (s.grow g) hn (by have := v.pos; omega) v.n w
 obtain ⟨f, hf, hpre, hlive⟩ := first_live ts v.pos
 have lx := x0.lt
 have gn := g.nx
 refine bU_ (ι := Nat × Nat × List Trc) (fun i => [(1, .slice oa on oc), (2, .int .i8 z), (3, .pointer (some ⟨h.nx, 0, some 0⟩)), (39, .pointer (some ⟨i.1, 0, some 0⟩))]) (fun i h' => (Wf h' ∧ Grow h h' ∧ At h' h.nx (.cells (shC nm a on c) 43 2 false)) ∧ At h' i.1 (.cells (shC nm (some ⟨i.2.1, 0, some 0⟩) on on) 43 2 false) ∧ At h' i.2.1 (.cells (i.2.2.flatMap Trc.cells) 47 10 true) ∧ (∀ t ∈ i.2.2, TrAt h' (h.nx + 1) t) ∧ i.2.2.map Trc.key = ts.map Trc.key ∧ h.nx < i.1 ∧ h.nx < i.2.1) ?_ ?_
 · repeat' (first | with_reducible refine am_ ?_ | ((with_reducible refine al_ ?_); first | ((with_reducible refine au_ ?_); refine ac_ (ay_ rfl an_ Tryz.underlying43 rfl ce_ rfl rfl) ?_) | ((with_reducible refine aU_ ?_); refine ac_ (aQ_ zz43 ce_ rfl rfl rfl) ?_) | ((with_reducible refine aG_ ?_); refine ci_ (aM_ rfl rfl an_ ce_ rfl rfl rfl rfl) ?_) | ((with_reducible refine aN_ ?_); (refine aW_ rfl rfl rfl rfl (q83 _ aD_ aZ_) rfl rfl ?_; rintro _ _ ⟨⟨B, us, rfl, hB, hat, hus, hky⟩, hq⟩; all_goals ((try (have hqn := hq.nx)); (try simp only [bG_] at hqn))))) | with_reducible refine ab_ ?_)
   have lh := hat.lt
   refine ⟨rfl, (_, B, us), ai_ ⟨rfl, rfl, rfl, rfl, trivial⟩, ?_⟩
   dsimp only
   exact ⟨⟨aZ_, aD_, an_⟩, an_, an_, fun t ht => ((hus t ht).le (by omega)).grow aD_, hky, by show h.nx < H.nx _; omega, by omega⟩
 clear w g x0 lx gn q83 h1
 rintro ⟨b39, B, us0⟩ ha ⟨⟨wa, ga, xa⟩, t7, tB, hus, hky, hb7, hB⟩
 simp only at t7 tB hus hky hb7 hB ⊢
 have hne : b39 ≠ B := fun q => by
   subst q
   have := t7.get.symm.trans tB.get
   simp at this
 refine bU_ (ι := List Trc) (fun i => [(1, .slice oa on oc), (2, .int .i8 z), (3, .pointer (some ⟨h.nx, 0, some 0⟩)), (39, .pointer (some ⟨b39, 0, some 0⟩))]) (fun us h' => (Wf h' ∧ Grow h h' ∧ At h' h.nx (.cells (shC nm a on c) 43 2 false)) ∧ At h' b39 (.cells (shC nm (some ⟨B, 0, some 0⟩) on on) 43 2 false) ∧ At h' B (.cells ((us).flatMap Trc.cells) 47 10 true) ∧ (∀ t ∈ us, TrAt h' (h.nx + 1) t) ∧ us.map Trc.key = (repTs (oneL ls f ts.length) ts).map Trc.key) ?_ ?_
 · repeat' (first | with_reducible refine am_ ?_ | ((with_reducible refine al_ ?_); first | ((with_reducible refine ak_ ?_); refine ac_ (ag_ rfl) ?_) | ((with_reducible refine au_ ?_); refine ac_ (aq_ rfl an_ Tryz.underlying41 rfl rfl) ?_) | ((with_reducible refine aC_ ?_); refine ac_ (ax_ rfl Tryz.underlying41) ?_) | ((with_reducible refine ap_ ?_); refine ac_ (aa_ (o := 1) rfl Tryz.underlying43 rfl cL_ rfl) ?_)) | (with_reducible first | refine ah_ ?_ | refine ao_ ?_ | refine ab_ ?_ | refine at_ ?_))
   refine bq_ (fun p : Nat × List Trc => on - p.1) (fun p => [(1, .slice oa on oc), (2, .int .i8 z), (3, .pointer (some ⟨h.nx, 0, some 0⟩)), (39, .pointer (some ⟨b39, 0, some 0⟩)), (415, .int .i64 on), (416, .int .i64 (p.1 : Nat))]) (fun p h' => ((Wf h' ∧ Grow h h' ∧ At h' h.nx (.cells (shC nm a on c) 43 2 false)) ∧ At h' b39 (.cells (shC nm (some ⟨B, 0, some 0⟩) on on) 43 2 false) ∧ At h' B (.cells ((p.2).flatMap Trc.cells) 47 10 true)) ∧ (∀ t ∈ p.2, TrAt h' (h.nx + 1) t) ∧ p.1 ≤ on ∧ KeyAll p.2 ts (repK (oneL ls f ts.length) p.1)) (0, us0) (ai_ ⟨rfl, rfl, rfl, rfl, rfl, rfl, trivial⟩) ⟨⟨⟨aZ_, aD_, an_⟩, an_, an_⟩, hus, Nat.zero_le _, ?_⟩ ?_
   · refine keys_same (keys_of hky) fun i q => ?_
     unfold repK
     rw [if_neg (by omega)]
   clear wa ga xa t7 tB hus hky us0
   rintro ⟨j, us⟩ hc ⟨⟨⟨wc, gc, xc⟩, t7, tB⟩, hus, hj, hka⟩
   simp only at tB hus hj hka ⊢
   have hul := hka.1
   by_cases hlt : j < on
   · have hkj := hka.2 j (by omega) (by omega)
     have ek : repK (oneL ls f ts.length) j j ts[j] = (ts[j]).key := by unfold repK; rw [if_neg (by omega)]
     rw [ek] at hkj
     clear ek
     obtain ⟨ehd, eho, _, _⟩ := cD_ hkj
     have hc8 : (us.flatMap Trc.cells)[j * 10 + 8]? = some (.bool (ts[j]).hole) := by rw [flat_get (by omega) us j (by omega), ← eho]; rfl
     have hclen := bY_ us
     have lx := xc.lt
     have l7 := t7.lt
     have lB := tB.lt
     have gcn := gc.nx
     by_cases hho : (ts[j]).hole = true
     · rw [hho] at hc8
       repeat' (first | with_reducible refine am_ ?_ | ((with_reducible refine al_ ?_); first | ((with_reducible refine ak_ ?_); refine ac_ (ag_ rfl) ?_) | ((with_reducible refine ae_ ?_); refine ac_ (ad_ rfl) ?_) | ((with_reducible refine aw_ ?_); refine ac_ (bF_ (b := B) (o := j * 10) rfl rfl Tryz.underlying41 cw_ (by omega) (by omega) (by omega)) ?_) | ((with_reducible refine au_ ?_); first | refine ac_ (bc_ (o := j * 10 + 8) rfl an_ Tryz.underlying4 rfl hc8) ?_ | refine ac_ (aq_ rfl an_ Tryz.underlying41 rfl rfl) ?_) | ((with_reducible refine cj_ ?_); refine ac_ (bv_ rfl) ?_) | ((with_reducible refine ap_ ?_); first | refine ac_ (aa_ (o := 1) rfl Tryz.underlying43 rfl cL_ rfl) ?_ | refine ac_ (aa_ (o := 8) rfl Tryz.underlying47 rfl zs4 rfl) ?_) | ((with_reducible refine av_ ?_); first | refine ac_ (aF_ rfl rfl) ?_ | refine ac_ (aR_ rfl rfl (w64 (by omega) (by omega))) ?_)) | (with_reducible first | refine ah_ ?_ | refine ao_ ?_ | refine ab_ ?_ | refine az_ ?_ | refine at_ ?_ | refine aP_ ?_) | refine bs_ rfl ?_ | (refine aK_ rfl (fun hb => ?_) (fun hb => aH_ hb); (try simp only [bj_, reduceCtorEq] at hb)))
       all_goals exact aX_ (j + 1, us) (by simp only; omega) (ai_ ⟨rfl, rfl, rfl, rfl, rfl, rfl, trivial⟩) ⟨⟨⟨aZ_, aD_, an_⟩, an_, an_⟩, hus, by simp only; omega, keys_same hka fun i q => by
         unfold repK
         by_cases hij : i = j
         · subst hij; rw [hho, if_neg (by omega), if_neg (by simp)]
         · have : (i < j ∧ (ts[i]).hole = false) ↔ (i < j + 1 ∧ (ts[i]).hole = false) := ⟨fun ⟨a, b⟩ => ⟨by omega, b⟩, fun ⟨a, b⟩ => ⟨by omega, b⟩⟩
           simp only [this]⟩
     · have hho : (ts[j]).hole = false := by simpa using hho
       rw [hho] at hc8
       have hflv := hlive ⟨j, by omega, hho⟩
       have hfj : f ≤ j := by
         by_cases q : f ≤ j
         · exact q
         · have := hpre j (by omega) (by omega)
           rw [hho] at this; cases this
       obtain ⟨ad, i1, i3⟩ := ls_at so hlt
       have sx := so.ok _ (List.getElem_mem (show j < ls.length by omega))
       have hlx := lsAt_get (show j < ls.length by omega)
       have hll2 := (hin j (by omega) (by omega)).2.1
       have hl10 := (lchk_ok (hin j (by omega) (by omega)).1).1
       rw [hlx] at hll2 hl10
       obtain ⟨x, hx⟩ : ∃ x, ls[j]'(by omega) = x := ⟨_, rfl⟩
       rw [hx] at i3 sx hlx hll2 hl10
       clear hx
       obtain ⟨la, ln, lc, ll⟩ := x
       simp only [Lst.val] at i3 sx hll2 hl10
       have hfl := fun (v : Value) (u' : Trc) (q : u'.cells = (us[j]).cells.set 9 v) => flat_set (by omega) us j (by omega) u' q
       repeat' (first | with_reducible refine am_ ?_ | ((with_reducible refine al_ ?_); first | ((with_reducible refine ak_ ?_); refine ac_ (ag_ rfl) ?_) | ((with_reducible refine ae_ ?_); refine ac_ (ad_ rfl) ?_) | ((with_reducible refine aw_ ?_); refine ac_ (bF_ (b := B) (o := j * 10) rfl rfl Tryz.underlying41 cw_ (by omega) (by omega) (by omega)) ?_) | ((with_reducible refine au_ ?_); first | refine ac_ (bc_ (o := j * 10 + 8) rfl an_ Tryz.underlying4 rfl hc8) ?_ | refine ac_ (aq_ rfl an_ Tryz.underlying41 rfl rfl) ?_) | ((with_reducible refine cj_ ?_); refine ac_ (bv_ rfl) ?_) | ((with_reducible refine aC_ ?_); refine ac_ (ax_ rfl Tryz.underlying41) ?_) | ((with_reducible refine ap_ ?_); first | refine ac_ (aa_ (o := 1) rfl Tryz.underlying43 rfl cL_ rfl) ?_ | refine ac_ (aa_ (o := 8) rfl Tryz.underlying47 rfl zs4 rfl) ?_) | ((with_reducible refine av_ ?_); refine ac_ (aF_ rfl rfl) ?_)) | ((with_reducible refine bL_ ?_); ((with_reducible refine bK_ ?_); first | ((with_reducible refine bI_ ?_); refine bn_ (af_ rfl) rfl rfl (aE_ rfl (ag_ rfl)) rfl rfl rfl ?_) | ((with_reducible refine bo_ ?_); first | refine bn_ (af_ rfl) rfl rfl (aE_ rfl (bF_ (b := B) (o := j * 10) rfl rfl Tryz.underlying41 cw_ (by omega) (by omega) (by omega))) rfl rfl rfl ?_ | refine bn_ (af_ rfl) rfl rfl (aE_ rfl (as_ rfl rfl i1)) rfl rfl rfl ?_) | ((with_reducible refine by_ ?_); first | refine bp_ (af_ rfl) rfl (aE_ rfl (aI_ rfl Tryz.underlying45 rfl ((i3.grow aD_).get 0 _ rfl))) rfl rfl rfl ?_ | refine bp_ (af_ rfl) rfl (aE_ rfl (aq_ rfl an_ Tryz.underlying41 rfl rfl)) rfl rfl rfl ?_) | ((with_reducible refine cf_ ?_); refine wx_ee0 (af_ rfl) rfl rfl (cC_ (o := j * 10 + 9) rfl rfl an_ rfl zs45 (by omega) rfl (hfl _ ⟨(us[j]).hd, (us[j]).hole, some ⟨b1, 0, some 0⟩, ln, ln, ll⟩ rfl)) rfl ?_) | ((with_reducible refine bh_ ?_); first | refine bn_ (af_ rfl) rfl rfl (aE_ rfl (aa_ (o := 1) rfl Tryz.underlying43 rfl cL_ rfl)) rfl rfl rfl ?_ | refine bn_ (af_ rfl) rfl rfl (aE_ rfl (aa_ (o := 9) rfl Tryz.underlying47 rfl zs45 rfl)) rfl rfl rfl ?_) | ((with_reducible refine xk_callF (f := 59) ?_); (refine aV_ (af_ rfl) rfl rfl rfl rfl (c59o (sx.grow aD_) (by omega)) rfl rfl ?_; rintro _ _ ⟨⟨b1, sf1, rfl, hb1, hatS⟩, hq⟩; all_goals ((try (have hqn := hq.nx)); (try simp only [bG_] at hqn)))) | with_reducible refine bN_ ?_ ?_)) | with_reducible exact bA_ | with_reducible refine bk_ ?_ ?_ | ((with_reducible refine bM_ ?_); first | exact bz_ | refine bx_ rfl ?_ | refine aB_ rfl rfl (aE_ rfl (aI_ rfl Tryz.underlying45 rfl ((i3.grow aD_).get 0 _ rfl))) ?_ | refine aB_ rfl rfl (aE_ rfl (aq_ rfl an_ Tryz.underlying41 rfl (by rfl))) ?_) | (with_reducible first | refine ah_ ?_ | refine ao_ ?_ | refine ab_ ?_ | refine az_ ?_ | refine at_ ?_) | refine bP_ rfl ?_ | (refine aK_ rfl (fun hb => ?_) (fun hb => aH_ hb); (try simp only [bj_, reduceCtorEq] at hb)) | refine br_ (id := 68) 11 [0, 1, 0, 0, 0, 24, 56, 120, 255, 511, 1023] [0, 1, 2, 3, 4, 5, 6, 7, 8, 9, 10] (by kernel_rfl) (by kernel_rfl) rfl rfl ?_)
       try simp only [bG_] at hb1
       obtain ⟨us1, hu1⟩ : ∃ u, us.set j ⟨(us[j]).hd, (us[j]).hole, some ⟨b1, 0, some 0⟩, ln, ln, ll⟩ = u := ⟨_, rfl⟩
       have hl1 : us1.length = us.length := by rw [← hu1]; simp
       have hk1 : KeyAll us1 ts (fun i t => if i = j then (t.hd, false, ln, ll) else repK (oneL ls f ts.length) j i t) := by
         rw [← hu1]
         refine keys_set hka (by omega) ?_ fun i q hij => by rw [if_neg hij]
         rw [if_pos rfl]
         show ((us[j]).hd, (us[j]).hole, ln, ll) = _
         rw [← ehd, eho, hho]
       have ho1 : ∀ i (q : i < us1.length), (us1[i]).hole = (ts[i]'(by omega)).hole := fun i q => by
         have := hk1.2 i q (by omega)
         dsimp only at this
         by_cases hij : i = j
         · subst hij
           rw [if_pos rfl] at this
           have e : (us1[i]).hole = false := congrArg (fun k : Key => k.2.1) this
           rw [e, hho]
         · rw [if_neg hij] at this
           have e : (us1[i]).hole = (repK (oneL ls f ts.length) j i (ts[i]'(by omega))).2.1 := congrArg (fun k : Key => k.2.1) this
           rw [e]
           unfold repK
           split
           · rename_i q; exact q.2.symm
           · rfl
       have hf1 : (us1[f]'(by omega)).n = (lsAt ls f).n ∧ (us1[f]'(by omega)).l = (lsAt ls f).l := by
         have := hk1.2 f (by omega) hf
         dsimp only at this
         by_cases hij : f = j
         · rw [if_pos hij] at this
           subst hij
           rw [hlx]
           exact ⟨congrArg (fun k : Key => k.2.2.1) this, congrArg (fun k : Key => k.2.2.2) this⟩
         · rw [if_neg hij] at this
           have e : repK (oneL ls f ts.length) j f ts[f] = ((ts[f]).hd, false, (lsAt ls f).n, (lsAt ls f).l) := by
             unfold repK
             rw [if_pos ⟨by omega, hflv⟩, oneL_at hf]
           rw [e] at this
           exact ⟨congrArg (fun k : Key => k.2.2.1) this, congrArg (fun k : Key => k.2.2.2) this⟩
       rw [hu1]
       refine bq_ (fun k : Nat => on - k) (fun k => [(1, .slice oa on oc), (2, .int .i8 z), (3, .pointer (some ⟨h.nx, 0, some 0⟩)), (39, .pointer (some ⟨b39, 0, some 0⟩)), (415, .int .i64 on), (416, .int .i64 j), (40, .int .i64 j), (437, .slice (some ⟨B, 0, some 0⟩) on on), (438, .int .i64 on), (439, .int .i64 k)]) (fun k h' => ((Wf h' ∧ Grow h h' ∧ At h' h.nx (.cells (shC nm a on c) 43 2 false)) ∧ At h' b39 (.cells (shC nm (some ⟨B, 0, some 0⟩) on on) 43 2 false) ∧ At h' B (.cells ((us1).flatMap Trc.cells) 47 10 true)) ∧ (∀ t ∈ us1, TrAt h' (h.nx + 1) t) ∧ k ≤ f) 0 (ai_ ⟨rfl, rfl, rfl, rfl, rfl, rfl, rfl, rfl, rfl, rfl, trivial⟩) ⟨⟨⟨aZ_, aD_, an_⟩, an_, an_⟩, ?_, Nat.zero_le _⟩ ?_
       · rw [← hu1]
         exact set_mem (fun t ht => TrAt.setA ((hus t ht).grow aD_) (tB.grow aD_) (by decide) _) ⟨⟨b1, sf1, rfl, by omega, an_⟩, hll2, rfl⟩
       have hjj : j < us1.length := by omega
       have huj : us1.set j (us1[j]) = us1 := by simp
       have hcl1 := bY_ us1
       clear hc8 hfl hclen sx hatS hq hqn hb1 wc gc xc t7 tB lx l7 lB gcn i1 i3 hus
       rintro k hd ⟨⟨⟨wd, gd, xd⟩, t7, tB⟩, hus, hkf⟩
       have hkl : k < us1.length := by omega
       have st1 : SlT G hd (.slice (some ⟨B, 0, some 0⟩) on on) on us1 := ⟨Sl.ofAt tB (by rw [bY_]; omega) (Nat.le_refl _), by omega, fun t ht => (hus t ht).ok⟩
       obtain ⟨ad, k1, k3⟩ := cA_ st1 Tryz.underlying41 cw_ (i := (k : Int)) (by omega) rfl
       have hok := ho1 k hkl
       have hmk := hus _ (List.getElem_mem hkl)
       have htf : k = f → (us1[k]).n = (lsAt ls f).n ∧ (us1[k]).l = (lsAt ls f).l := fun e => by subst e; exact hf1
       obtain ⟨t, ht⟩ : ∃ t, us1[k] = t := ⟨_, rfl⟩
       rw [ht] at k3 hok hmk htf
       clear ht st1
       have hsk := hmk.ok (G := G) |>.sl
       have hskl := hmk.len
       obtain ⟨hd', hole, sa, tn, tc, tl⟩ := t
       have qf := k3.all
       dsimp only [Trc.cells] at qf
       simp only at hok hsk hskl htf
       have lx := xd.lt
       have l7 := t7.lt
       have lB := tB.lt
       have gdn := gd.nx
       by_cases hkf2 : k < f
       · have hz := hpre k (by omega) hkf2
         rw [hz] at hok
         subst hok
         repeat' (first | with_reducible refine am_ ?_ | ((with_reducible refine al_ ?_); first | ((with_reducible refine ak_ ?_); refine ac_ (ag_ rfl) ?_) | ((with_reducible refine aw_ ?_); refine ac_ (as_ rfl rfl k1) ?_) | ((with_reducible refine au_ ?_); first | refine ac_ (bJ_ rfl Tryz.underlying47 rfl cw_ qf) ?_ | refine ac_ (bc_ (o := 8) rfl an_ Tryz.underlying4 rfl (by rfl)) ?_) | ((with_reducible refine cj_ ?_); refine ac_ (bv_ rfl) ?_) | ((with_reducible refine ap_ ?_); refine ac_ (aa_ (o := 8) rfl Tryz.underlying47 rfl zs4 rfl) ?_) | ((with_reducible refine av_ ?_); first | refine ac_ (aF_ rfl rfl) ?_ | refine ac_ (aR_ rfl rfl (w64 (by omega) (by omega))) ?_) | ((with_reducible refine aU_ ?_); refine ac_ (aQ_ zz58 ch_ rfl rfl rfl) ?_) | ((with_reducible refine aG_ ?_); refine ci_ (aM_ rfl rfl an_ ch_ rfl rfl rfl rfl) ?_)) | (with_reducible first | refine ah_ ?_ | refine ao_ ?_ | refine ab_ ?_ | refine az_ ?_ | refine at_ ?_ | refine aP_ ?_) | refine bs_ rfl ?_ | (refine aK_ rfl (fun hb => ?_) (fun hb => aH_ hb); (try simp only [bj_, reduceCtorEq] at hb)))
         all_goals exact aX_ (k + 1) (by omega) (ai_ ⟨rfl, rfl, rfl, rfl, rfl, rfl, rfl, rfl, rfl, rfl, trivial⟩) ⟨⟨⟨aZ_, aD_, an_⟩, an_, an_⟩, fun t ht => (hus t ht).grow aD_, by omega⟩
       · have hkf3 : k = f := by omega
         subst hkf3
         rw [hflv] at hok
         subst hok
         obtain ⟨en, el⟩ := htf rfl
         subst en el
         have hlen10 := (lchk_ok (hin k (by omega) hf).1).1
         have hfl := fun (v : Value) (u' : Trc) (q : u'.cells = (us1[j]).cells.set 9 v) => flat_set (by omega) us1 j hjj u' q
         repeat' (first | with_reducible refine am_ ?_ | ((with_reducible refine al_ ?_); first | ((with_reducible refine ak_ ?_); refine ac_ (ag_ rfl) ?_) | ((with_reducible refine aw_ ?_); refine ac_ (as_ rfl rfl k1) ?_) | ((with_reducible refine au_ ?_); first | refine ac_ (bJ_ rfl Tryz.underlying47 rfl cw_ qf) ?_ | refine ac_ (bc_ (o := 8) rfl an_ Tryz.underlying4 rfl (by rfl)) ?_) | ((with_reducible refine aG_ ?_); refine ci_ (aM_ rfl rfl an_ ch_ rfl rfl rfl rfl) ?_) | ((with_reducible refine cj_ ?_); refine ac_ (bv_ rfl) ?_) | ((with_reducible refine ap_ ?_); refine ac_ (aa_ (o := 8) rfl Tryz.underlying47 rfl zs4 rfl) ?_) | ((with_reducible refine av_ ?_); first | refine ac_ (aF_ rfl rfl) ?_ | refine ac_ (aR_ rfl rfl (w64 (by omega) (by omega))) ?_) | ((with_reducible refine aU_ ?_); refine ac_ (aQ_ zz58 ch_ rfl rfl rfl) ?_)) | ((with_reducible refine bL_ ?_); ((with_reducible refine bK_ ?_); first | ((with_reducible refine bI_ ?_); refine bn_ (af_ rfl) rfl rfl (aE_ rfl (ag_ rfl)) rfl rfl rfl ?_) | ((with_reducible refine bo_ ?_); refine bn_ (af_ rfl) rfl rfl (aE_ rfl (bF_ (b := B) (o := j * 10) rfl rfl Tryz.underlying41 cw_ (by omega) (by omega) (by omega))) rfl rfl rfl ?_) | ((with_reducible refine by_ ?_); first | refine bp_ (af_ rfl) rfl (aE_ rfl (bc_ (o := 9) rfl an_ Tryz.underlying45 rfl (by rfl))) rfl rfl rfl ?_ | refine bp_ (af_ rfl) rfl (aE_ rfl (aq_ rfl an_ Tryz.underlying41 rfl rfl)) rfl rfl rfl ?_) | ((with_reducible refine cf_ ?_); refine wx_ee0 (af_ rfl) rfl rfl (cC_ (o := j * 10 + 9) rfl rfl an_ rfl zs45 (by omega) rfl (hfl _ ⟨(us1[j]).hd, (us1[j]).hole, some ⟨b2, 0, some 0⟩, (lsAt ls k).n, (lsAt ls k).n, (lsAt ls k).l⟩ rfl)) rfl ?_) | ((with_reducible refine bh_ ?_); first | refine bn_ (af_ rfl) rfl rfl (aE_ rfl (aa_ (o := 1) rfl Tryz.underlying43 rfl cL_ rfl)) rfl rfl rfl ?_ | refine bn_ (af_ rfl) rfl rfl (aE_ rfl (aa_ (o := 9) rfl Tryz.underlying47 rfl zs45 rfl)) rfl rfl rfl ?_) | ((with_reducible refine xk_callF (f := 59) ?_); (refine aV_ (af_ rfl) rfl rfl rfl rfl (c59o (hsk.grow aD_) (by omega)) rfl rfl ?_; rintro _ _ ⟨⟨b2, sf2, rfl, hb2, hatS⟩, hq⟩; all_goals ((try (have hqn := hq.nx)); (try simp only [bG_] at hqn)))) | with_reducible refine bN_ ?_ ?_)) | with_reducible exact bA_ | with_reducible refine bk_ ?_ ?_ | ((with_reducible refine bM_ ?_); first | exact bz_ | refine bx_ rfl ?_ | refine aB_ rfl rfl (aE_ rfl (bc_ (o := 9) rfl an_ Tryz.underlying45 rfl (by rfl))) ?_ | refine aB_ rfl rfl (aE_ rfl (aq_ rfl an_ Tryz.underlying41 rfl (by rfl))) ?_) | (with_reducible first | refine ah_ ?_ | refine ao_ ?_ | refine ab_ ?_ | refine az_ ?_ | refine be_ ?_ | refine at_ ?_ | refine aP_ ?_ | refine bf_ ?_ | refine bi_ ?_) | refine bS_ rfl ?_ | refine bq_ne rfl ?_ | refine bP_ rfl ?_ | (refine aK_ rfl (fun hb => ?_) (fun hb => aH_ hb); (try simp only [bj_, reduceCtorEq] at hb)) | refine br_ (id := 73) 9 [0, 1, 0, 0, 8, 24, 63, 127, 255] [0, 1, 2, 3, 4, 5, 6, 7, 8] (by kernel_rfl) (by kernel_rfl) rfl rfl ?_)
         all_goals
           try simp only [bG_] at hb2
           refine aX_ (j + 1, us1.set j ⟨(us1[j]).hd, (us1[j]).hole, some ⟨b2, 0, some 0⟩, (lsAt ls k).n, (lsAt ls k).n, (lsAt ls k).l⟩) (by simp only; omega) (ai_ ⟨rfl, rfl, rfl, rfl, rfl, rfl, trivial⟩) ⟨⟨⟨aZ_, aD_, an_⟩, an_, an_⟩, set_mem (fun t ht => TrAt.setA ((hus t ht).grow aD_) (tB.grow aD_) (by decide) _) ⟨⟨b2, sf2, rfl, by omega, an_⟩, hskl, rfl⟩, by simp only; omega, ?_⟩
           refine keys_set hk1 (by omega) ?_ fun i q hij => ?_
           · unfold repK
             rw [if_pos ⟨by omega, hho⟩, oneL_at (by omega)]
             have e1 := hk1.2 j hjj (by omega)
             dsimp only at e1
             rw [if_pos rfl] at e1
             show ((us1[j]).hd, (us1[j]).hole, (lsAt ls k).n, (lsAt ls k).l) = _
             rw [show (us1[j]).hd = (ts[j]).hd from congrArg (fun k : Key => k.1) e1, show (us1[j]).hole = false from congrArg (fun k : Key => k.2.1) e1]
           · rw [if_neg hij]
             unfold repK
             have : (i < j ∧ (ts[i]).hole = false) ↔ (i < j + 1 ∧ (ts[i]).hole = false) := ⟨fun ⟨a, b⟩ => ⟨by omega, b⟩, fun ⟨a, b⟩ => ⟨by omega, b⟩⟩
             simp only [this]
   · have hjn : j = ts.length := by omega
     subst hjn
     repeat' (first | with_reducible refine am_ ?_ | ((with_reducible refine al_ ?_); ((with_reducible refine av_ ?_); refine ac_ (aF_ rfl rfl) ?_)) | (with_reducible first | refine ah_ ?_ | refine ao_ ?_ | refine ab_ ?_ | refine be_ ?_ | refine bf_ ?_ | refine bi_ ?_) | refine bS_ rfl ?_ | (refine aK_ rfl (fun hb => aH_ hb) (fun hb => ?_); (try simp only [bj_, reduceCtorEq] at hb)))
     refine ⟨rfl, us, ai_ ⟨rfl, rfl, rfl, rfl, trivial⟩, ⟨aZ_, aD_, an_⟩, an_, an_, hus, keys_rep (ls := oneL ls f ts.length) hka⟩
 clear wa ga xa t7 tB hus hky us0
 rintro us ha ⟨⟨wa, ga, xa⟩, t7, tB, hus, hky⟩
 have hul : us.length = on := by have := congrArg List.length hky; simp [repTs_len] at this; omega
 have hin2 := oneL_in hf hin hlive
 have v2 := rep_val (nm' := nm) v hin2 v.name
 have s7 : SlK G ha (.slice (some ⟨B, 0, some 0⟩) on on) on (repTs (oneL ls f ts.length) ts) := slk_of tB hus hky hul
 have q31 := fun (h' : H) (st : SlK G h' (.slice (some ⟨B, 0, some 0⟩) on on) on (repTs (oneL ls f ts.length) ts)) (w : Wf h') => k31 (nm := nm) st hn v2.n w
 have q51 := fun (h' : H) (a1 : Option Addr) (c1 : Nat) (st : SlK G h' (.slice a1 on c1) on (repTs (oneL ls f ts.length) ts)) (w : Wf h') => k51 (nm := nm) st v2 w hG
 have hone := fun q => one_stack (nm := nm) v hf hin q
 have hnone := one_none (nm := nm) (ls := oneL ls f ts.length) v hin2
 have hat2 := fun (i : Nat) (q : i < us.length) (p : i < (repTs (oneL ls f ts.length) ts).length) => keys_at hky q p
 obtain ⟨C, hC⟩ : ∃ C, stkC nm (repTs (oneL ls f ts.length) ts) = C := ⟨_, rfl⟩
 obtain ⟨LL, hLL⟩ : ∃ C, (stkL (repTs (oneL ls f ts.length) ts) (wid (repTs (oneL ls f ts.length) ts))).map smpW = C := ⟨_, rfl⟩
 rw [hC] at hone hnone
 simp only [hC, hLL] at q51
 rw [hLL] at hone
 have l7 := t7.lt
 have lB := tB.lt
 have lx := xa.lt
 have gan := ga.nx
 refine bU_ (ι := Option Addr × Nat × Nat) (fun i => [(1, .slice oa on oc), (2, .int .i8 z), (3, .pointer (some ⟨h.nx, 0, some 0⟩)), (39, .pointer (some ⟨b39, 0, some 0⟩)), (43, .slice i.1 i.2.1 i.2.2), (44, .int .i64 C)]) (fun i h' => (Wf h' ∧ Grow h h' ∧ At h' h.nx (.cells (shC nm a on c) 43 2 false)) ∧ At h' b39 (.cells (shC nm (some ⟨B, 0, some 0⟩) on on) 43 2 false) ∧ At h' B (.cells ((us).flatMap Trc.cells) 47 10 true) ∧ (∀ t ∈ us, TrAt h' (h.nx + 1) t) ∧ HeardR G h' C LL (.slice i.1 i.2.1 i.2.2)) ?_ ?_
 · repeat' (first | with_reducible refine am_ ?_ | ((with_reducible refine al_ ?_); first | ((with_reducible refine ak_ ?_); refine ac_ (ag_ rfl) ?_) | ((with_reducible refine ae_ ?_); refine ac_ (ad_ rfl) ?_) | ((with_reducible refine au_ ?_); refine ac_ (ay_ rfl an_ Tryz.underlying43 rfl ce_ rfl rfl) ?_) | ((with_reducible refine bR_ ?_); refine ac_ (bD_ rfl rfl) ?_) | ((with_reducible refine aN_ ?_); first | (refine aW_ rfl rfl rfl rfl (q31 _ (s7.grow aD_) aZ_) rfl rfl ?_; rintro _ _ ⟨⟨y1, y2, rfl, su⟩, hq⟩; all_goals ((try (have hqn := hq.nx)); (try simp only [bG_] at hqn))) | (refine aW_ rfl rfl rfl rfl (q51 _ _ _ su aZ_) rfl rfl ?_; rintro _ _ ⟨⟨a', n', c', rfl, hh⟩, hq⟩; all_goals ((try (have hqn := hq.nx)); (try simp only [bG_] at hqn))))) | with_reducible refine ab_ ?_)
   exact ⟨rfl, (a', n', c'), ai_ ⟨rfl, rfl, rfl, rfl, rfl, rfl, trivial⟩, ⟨aZ_, aD_, an_⟩, an_, an_, fun t ht => (hus t ht).grow aD_, hh.grow aD_⟩
 clear wa ga xa t7 tB hus l7 lB lx gan q31 q51 s7
 rintro ⟨a', n', c'⟩ hb ⟨⟨wb, gb, xb⟩, t7, tB, hus, hh⟩
 simp only at hh ⊢
 have hole2 : ∀ i (q : i < us.length) (p : i < ts.length), (us[i]).hole = (ts[i]).hole ∧ ((ts[i]).hole = false → (us[i]).n = (lsAt ls f).n ∧ (us[i]).l = (lsAt ls f).l) := fun i q p => by
   have e := hat2 i q (by rw [repTs_len]; exact p)
   obtain ⟨_, e2, e3, e4⟩ := cD_ e
   cases h0 : (ts[i]).hole with
   | true => rw [repTs_dead p h0] at e2; exact ⟨e2, fun q => by cases q⟩
   | false => rw [repTs_live p h0, oneL_at p] at e2 e3 e4; exact ⟨e2, fun _ => ⟨e3, e4⟩⟩
 clear hat2 hky hLL hC v2 hin2
 by_cases hl : ∃ i, ∃ p : i < ts.length, (ts[i]).hole = false
 · have hflv := hlive hl
   obtain ⟨e0, hfe, hnl⟩ := hone hflv
   subst e0
   have sh := heard_ok hh
   obtain ⟨a2, c2, e⟩ := sh.form
   cases e
   have hLLn : LL.length = (lsAt ls f).n := by rw [hfe.1, hnl]
   have hl10 := (lchk_ok (hin f hf hf).1).1
   clear hh hone hnone
   repeat' (first | with_reducible refine am_ ?_ | ((with_reducible refine al_ ?_); first | ((with_reducible refine ak_ ?_); refine ac_ (ag_ rfl) ?_) | ((with_reducible refine au_ ?_); refine ac_ (aq_ rfl an_ Tryz.underlying41 rfl rfl) ?_) | ((with_reducible refine aC_ ?_); refine ac_ (ax_ rfl Tryz.underlying41) ?_) | ((with_reducible refine ap_ ?_); refine ac_ (aa_ (o := 1) rfl Tryz.underlying43 rfl cL_ rfl) ?_)) | (with_reducible first | refine ah_ ?_ | refine ao_ ?_ | refine ab_ ?_ | refine at_ ?_))
   refine bq_ (fun k : Nat => on - k) (fun k => [(1, .slice oa on oc), (2, .int .i8 z), (3, .pointer (some ⟨h.nx, 0, some 0⟩)), (39, .pointer (some ⟨b39, 0, some 0⟩)), (43, .slice a' LL.length c'), (44, .int .i64 0), (463, .slice (some ⟨B, 0, some 0⟩) on on), (464, .int .i64 on), (465, .int .i64 k)]) (fun k h' => ((Wf h' ∧ Grow h h' ∧ At h' h.nx (.cells (shC nm a on c) 43 2 false)) ∧ At h' b39 (.cells (shC nm (some ⟨B, 0, some 0⟩) on on) 43 2 false) ∧ At h' B (.cells ((us).flatMap Trc.cells) 47 10 true)) ∧ (∀ t ∈ us, TrAt h' (h.nx + 1) t) ∧ Grow hb h' ∧ k ≤ f) 0 (ai_ ⟨rfl, rfl, rfl, rfl, rfl, rfl, rfl, rfl, rfl, trivial⟩) ⟨⟨⟨aZ_, aD_, an_⟩, an_, an_⟩, hus, aD_, Nat.zero_le _⟩ ?_
   clear wb gb xb t7 tB hus
   rintro k hd ⟨⟨⟨wd, gd, xd⟩, t7, tB⟩, hus, gx, hkf⟩
   have gxn := gx.nx
   have hkl : k < us.length := by omega
   have st1 : SlT G hd (.slice (some ⟨B, 0, some 0⟩) on on) on us := ⟨Sl.ofAt tB (by rw [bY_]; omega) (Nat.le_refl _), by omega, fun t ht => (hus t ht).ok⟩
   obtain ⟨ad, k1, k3⟩ := cA_ st1 Tryz.underlying41 cw_ (i := (k : Int)) (by omega) rfl
   obtain ⟨hok, htf⟩ := hole2 k hkl (by omega)
   have hmk := hus _ (List.getElem_mem hkl)
   obtain ⟨t, ht⟩ : ∃ t, us[k] = t := ⟨_, rfl⟩
   rw [ht] at k3 hok hmk htf
   clear ht st1
   have hsk := hmk.ok (G := G) |>.sl
   obtain ⟨hd', hole, sa, tn, tc, tl⟩ := t
   have qf := k3.all
   dsimp only [Trc.cells] at qf
   simp only at hok hsk htf
   have lx := xd.lt
   have l7 := t7.lt
   have lB := tB.lt
   have gdn := gd.nx
   by_cases hkf2 : k < f
   · have hz := hpre k (by omega) hkf2
     rw [hz] at hok
     subst hok
     repeat' (first | with_reducible refine am_ ?_ | ((with_reducible refine al_ ?_); first | ((with_reducible refine ak_ ?_); refine ac_ (ag_ rfl) ?_) | ((with_reducible refine aw_ ?_); refine ac_ (as_ rfl rfl k1) ?_) | ((with_reducible refine au_ ?_); first | refine ac_ (bJ_ rfl Tryz.underlying47 rfl cw_ qf) ?_ | refine ac_ (bc_ (o := 8) rfl an_ Tryz.underlying4 rfl (by rfl)) ?_) | ((with_reducible refine cj_ ?_); refine ac_ (bv_ rfl) ?_) | ((with_reducible refine ap_ ?_); refine ac_ (aa_ (o := 8) rfl Tryz.underlying47 rfl zs4 rfl) ?_) | ((with_reducible refine av_ ?_); first | refine ac_ (aF_ rfl rfl) ?_ | refine ac_ (aR_ rfl rfl (w64 (by omega) (by omega))) ?_) | ((with_reducible refine aU_ ?_); refine ac_ (aQ_ zz58 ch_ rfl rfl rfl) ?_) | ((with_reducible refine aG_ ?_); refine ci_ (aM_ rfl rfl an_ ch_ rfl rfl rfl rfl) ?_)) | (with_reducible first | refine ah_ ?_ | refine ao_ ?_ | refine ab_ ?_ | refine az_ ?_ | refine at_ ?_ | refine aP_ ?_) | refine bs_ rfl ?_ | (refine aK_ rfl (fun hb => ?_) (fun hb => aH_ hb); (try simp only [bj_, reduceCtorEq] at hb)))
     all_goals exact aX_ (k + 1) (by omega) (ai_ ⟨rfl, rfl, rfl, rfl, rfl, rfl, rfl, rfl, rfl, trivial⟩) ⟨⟨⟨aZ_, aD_, an_⟩, an_, an_⟩, fun t ht => (hus t ht).grow aD_, aD_, by omega⟩
   · have hkf3 : k = f := by omega
     subst hkf3
     obtain ⟨en, el⟩ := htf hflv
     rw [hflv] at hok
     subst hok en el
     have q84 := fun (h' : H) (g1 : Grow hb h') (g2 : Grow hd h') => c84g (n := LL.length) (sh.grow g1) (by rw [hLLn]; exact hsk.grow g2) (by omega) hfe
     repeat' (first | with_reducible refine am_ ?_ | ((with_reducible refine al_ ?_); first | ((with_reducible refine ak_ ?_); refine ac_ (ag_ rfl) ?_) | ((with_reducible refine ae_ ?_); refine ac_ (ad_ rfl) ?_) | ((with_reducible refine aw_ ?_); refine ac_ (as_ rfl rfl k1) ?_) | ((with_reducible refine au_ ?_); first | refine ac_ (bJ_ rfl Tryz.underlying47 rfl cw_ qf) ?_ | refine ac_ (bc_ (o := 8) rfl an_ Tryz.underlying4 rfl (by rfl)) ?_) | ((with_reducible refine cj_ ?_); refine ac_ (bv_ rfl) ?_) | ((with_reducible refine ap_ ?_); refine ac_ (aa_ (o := 8) rfl Tryz.underlying47 rfl zs4 rfl) ?_) | ((with_reducible refine av_ ?_); first | refine ac_ (aF_ rfl rfl) ?_ | refine ac_ (cM_ rfl rfl) ?_) | ((with_reducible refine aS_ ?_); refine ac_ (aT_ rfl rfl) ?_) | ((with_reducible refine aU_ ?_); refine ac_ (aQ_ zz58 ch_ rfl rfl rfl) ?_) | ((with_reducible refine aG_ ?_); refine ci_ (aM_ rfl rfl an_ ch_ rfl rfl rfl rfl) ?_) | ((with_reducible refine cG_ ?_); first | ((with_reducible refine bB_ ?_); refine aj_ rfl rfl rfl (ag_ rfl) rfl rfl ?_) | ((with_reducible refine bX_ ?_); refine aj_ rfl rfl rfl (bc_ (o := 9) rfl an_ Tryz.underlying45 rfl (by rfl)) rfl rfl ?_) | ((with_reducible refine bt_ ?_); refine aj_ rfl rfl rfl (aa_ (o := 9) rfl Tryz.underlying47 rfl zs45 rfl) rfl rfl ?_) | ((with_reducible refine cr_ (f := 16) ?_); refine aj_ rfl rfl rfl (aJ_ rfl rfl (c16)) rfl rfl ?_) | ((with_reducible refine ig_callv ?_); (refine cq_ rfl rfl rfl rfl rfl rfl (q84 _ aD_ aD_) rfl rfl ?_; rintro _ _ ⟨rfl, hq⟩; all_goals ((try (have hqn := hq.nx)); (try simp only [bG_] at hqn)))))) | (with_reducible first | refine ah_ ?_ | refine ao_ ?_ | refine ab_ ?_ | refine az_ ?_ | refine aA_ ?_ | refine at_ ?_ | refine bV_ ?_ | refine bd_ ?_ | refine cx_ ?_) | refine bP_ rfl ?_ | (refine aK_ rfl (fun hb => ?_) (fun hb => aH_ hb); (try simp only [bj_, reduceCtorEq] at hb)))
     all_goals exact rq1 rfl ⟨rfl, aD_⟩
 · have hall : ∀ i (q : i < ts.length), (ts[i]).hole = true := fun i q => by
     cases h0 : (ts[i]).hole with
     | true => rfl
     | false => exact (hl ⟨i, q, h0⟩).elim
   have e7 := hnone hall
   subst e7
   clear hone hnone hh
   repeat' (first | with_reducible refine am_ ?_ | ((with_reducible refine al_ ?_); first | ((with_reducible refine ak_ ?_); refine ac_ (ag_ rfl) ?_) | ((with_reducible refine au_ ?_); refine ac_ (aq_ rfl an_ Tryz.underlying41 rfl rfl) ?_) | ((with_reducible refine aC_ ?_); refine ac_ (ax_ rfl Tryz.underlying41) ?_) | ((with_reducible refine ap_ ?_); refine ac_ (aa_ (o := 1) rfl Tryz.underlying43 rfl cL_ rfl) ?_)) | (with_reducible first | refine ah_ ?_ | refine ao_ ?_ | refine ab_ ?_ | refine at_ ?_))
   refine bq_ (fun k : Nat => on - k) (fun k => [(1, .slice oa on oc), (2, .int .i8 z), (3, .pointer (some ⟨h.nx, 0, some 0⟩)), (39, .pointer (some ⟨b39, 0, some 0⟩)), (44, .int .i64 7), (463, .slice (some ⟨B, 0, some 0⟩) on on), (464, .int .i64 on), (465, .int .i64 k)]) (fun k h' => ((Wf h' ∧ Grow h h' ∧ At h' h.nx (.cells (shC nm a on c) 43 2 false)) ∧ At h' b39 (.cells (shC nm (some ⟨B, 0, some 0⟩) on on) 43 2 false) ∧ At h' B (.cells ((us).flatMap Trc.cells) 47 10 true)) ∧ (∀ t ∈ us, TrAt h' (h.nx + 1) t) ∧ k ≤ on) 0 (ai_ ⟨rfl, rfl, rfl, rfl, rfl, rfl, rfl, rfl, trivial⟩) ⟨⟨⟨aZ_, aD_, an_⟩, an_, an_⟩, hus, Nat.zero_le _⟩ ?_
   clear wb gb xb t7 tB hus
   rintro k hd ⟨⟨⟨wd, gd, xd⟩, t7, tB⟩, hus, hkf⟩
   have lx := xd.lt
   have l7 := t7.lt
   have lB := tB.lt
   have gdn := gd.nx
   by_cases hkn : k < on
   · have hkl : k < us.length := by omega
     have st1 : SlT G hd (.slice (some ⟨B, 0, some 0⟩) on on) on us := ⟨Sl.ofAt tB (by rw [bY_]; omega) (Nat.le_refl _), by omega, fun t ht => (hus t ht).ok⟩
     obtain ⟨ad, k1, k3⟩ := cA_ st1 Tryz.underlying41 cw_ (i := (k : Int)) (by omega) rfl
     obtain ⟨hok, _⟩ := hole2 k hkl (by omega)
     rw [hall k (by omega)] at hok
     obtain ⟨t, ht⟩ : ∃ t, us[k] = t := ⟨_, rfl⟩
     rw [ht] at k3 hok
     clear ht st1
     obtain ⟨hd', hole, sa, tn, tc, tl⟩ := t
     have qf := k3.all
     dsimp only [Trc.cells] at qf
     simp only at hok
     subst hok
     repeat' (first | with_reducible refine am_ ?_ | ((with_reducible refine al_ ?_); first | ((with_reducible refine ak_ ?_); refine ac_ (ag_ rfl) ?_) | ((with_reducible refine aw_ ?_); refine ac_ (as_ rfl rfl k1) ?_) | ((with_reducible refine au_ ?_); first | refine ac_ (bJ_ rfl Tryz.underlying47 rfl cw_ qf) ?_ | refine ac_ (bc_ (o := 8) rfl an_ Tryz.underlying4 rfl (by rfl)) ?_) | ((with_reducible refine cj_ ?_); refine ac_ (bv_ rfl) ?_) | ((with_reducible refine ap_ ?_); refine ac_ (aa_ (o := 8) rfl Tryz.underlying47 rfl zs4 rfl) ?_) | ((with_reducible refine av_ ?_); first | refine ac_ (aF_ rfl rfl) ?_ | refine ac_ (aR_ rfl rfl (w64 (by omega) (by omega))) ?_) | ((with_reducible refine aU_ ?_); refine ac_ (aQ_ zz58 ch_ rfl rfl rfl) ?_) | ((with_reducible refine aG_ ?_); refine ci_ (aM_ rfl rfl an_ ch_ rfl rfl rfl rfl) ?_)) | (with_reducible first | refine ah_ ?_ | refine ao_ ?_ | refine ab_ ?_ | refine az_ ?_ | refine at_ ?_ | refine aP_ ?_) | refine bs_ rfl ?_ | (refine aK_ rfl (fun hb => ?_) (fun hb => aH_ hb); (try simp only [bj_, reduceCtorEq] at hb)))
     all_goals exact aX_ (k + 1) (by omega) (ai_ ⟨rfl, rfl, rfl, rfl, rfl, rfl, rfl, rfl, trivial⟩) ⟨⟨⟨aZ_, aD_, an_⟩, an_, an_⟩, fun t ht => (hus t ht).grow aD_, by omega⟩
   · repeat' (first | with_reducible refine am_ ?_ | ((with_reducible refine al_ ?_); first | ((with_reducible refine ak_ ?_); refine ac_ (ag_ rfl) ?_) | ((with_reducible refine ae_ ?_); refine ac_ (ad_ rfl) ?_) | ((with_reducible refine av_ ?_); first | refine ac_ (aF_ rfl rfl) ?_ | refine ac_ (cM_ rfl rfl) ?_) | ((with_reducible refine aS_ ?_); refine ac_ (aT_ rfl rfl) ?_) | ((with_reducible refine cG_ ?_); ((with_reducible refine cr_ (f := 16) ?_); refine aj_ rfl rfl rfl (aJ_ rfl rfl (c16)) rfl rfl ?_))) | (with_reducible first | refine ah_ ?_ | refine ao_ ?_ | refine ab_ ?_ | refine aA_ ?_ | refine be_ ?_ | refine bf_ ?_ | refine bi_ ?_) | refine bS_ rfl ?_ | (refine aK_ rfl (fun hb => aH_ hb) (fun hb => ?_); (try simp only [bj_, reduceCtorEq] at hb)))
     all_goals exact rq1 rfl ⟨rfl, aD_⟩
end Go.Proofs.YthnnndkfpamacaaGreatDoor
