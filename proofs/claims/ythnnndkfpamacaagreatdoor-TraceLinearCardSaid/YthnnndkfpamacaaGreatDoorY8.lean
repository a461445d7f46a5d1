/- The law TraceLinear, walked: its beginning. -/
import Derived.Test.YthnnndkfpamacaaGreatDoorY7
set_option linter.all false
/- The law TraceLinear, walked: its beginning. -/
namespace Go.Proofs.YthnnndkfpamacaaGreatDoor
open Go Go.Ab Go.Fl
attribute [local irreducible] SeqQ BlkQ LpQ RetQ Wc Wo WD WX Op1 Op1q Op1a Cf Cl From
attribute [local irreducible] Ieee.Format.order Ieee.Format.read Ieee.Format.nearest Ieee.Format.write Ieee.Format.mul Ieee.Format.div Ieee.Datum.order Ieee.Datum.integral smpE smp smpW K J U trE hdrE lchk firstNZ isNameB wid mism shE offs shortB anyLarge smallB SlK chTs repTs repK stkL stkC alkE lsAt
set_option maxRecDepth 10000
variable {G : Base} {h : H}
theorem c64x {v : Value} {n : Nat} {l : List Nat} (s : Sl G h 1 v n (l.map (.float .f32))) : Cl (mz G) (.func (.func 64) #[] #[]) [v] h (.int .i64 (lchk l)) h := by
 by_cases hn : n < 1000000
 · exact c64 s hn
 · obtain ⟨a, c, rfl⟩ := s.form
   have hl := s.length
   simp at hl
   unfold lchk
   rw [hl, if_pos (by omega)]
   refine bg_ (ar_ 8 [.tmp 2] Tryz.func64 rfl rfl rfl rfl ?_)
   repeat' (first | with_reducible refine am_ ?_ | ((with_reducible refine al_ ?_); first | ((with_reducible refine ak_ ?_); refine ac_ (ag_ rfl) ?_) | ((with_reducible refine ae_ ?_); refine ac_ (ad_ rfl) ?_) | ((with_reducible refine aC_ ?_); refine ac_ (ax_ rfl Tryz.underlying45) ?_) | ((with_reducible refine av_ ?_); refine ac_ (bZ_ rfl rfl) ?_)) | (with_reducible first | refine ah_ ?_ | refine ao_ ?_ | refine ab_ ?_ | refine aA_ ?_ | refine bd_ ?_) | (refine aK_ rfl (fun hb => ?_) (fun hb => aH_ hb); (try simp only [bj_, reduceCtorEq] at hb)))
   all_goals exact rq1 rfl ⟨rfl, rfl⟩
set_option maxHeartbeats 4000000 in
theorem c11n {nm : ByteArray} {a oa : Option Addr} {n c on oc : Nat} {ts : List Trc} {ls : List Lst} {z : Int} (s : SlT G h (.slice a n c) n ts) (so : LsOk G h (.slice oa on oc) on ls) (hS : smallB nm ts = false ∨ on ≠ n) (hw : Wf h) : Cf (mz G) (.func (.func 11) #[] #[]) [.agg ⟨shC nm a n c⟩, .slice oa on oc, .int .i8 z] h fun r h' => r = .bool true ∧ Grow h h' := by
 have q80 := fun (h' : H) (g : Grow h h') (w : Wf h') => c80 (nm := nm) (s.grow g) w
 obtain ⟨S, hS1⟩ : ∃ S, smallB nm ts = S := ⟨_, rfl⟩
 rw [hS1] at q80 hS
 cases S with
 | false =>
   clear hS
   refine ar_ 489 [.tmp 6] Tryz.func11 rfl rfl rfl rfl ?_
   repeat' (first | with_reducible refine am_ ?_ | ((with_reducible refine al_ ?_); first | ((with_reducible refine ak_ ?_); refine ac_ (ag_ rfl) ?_) | ((with_reducible refine ae_ ?_); refine ac_ (ad_ rfl) ?_) | ((with_reducible refine bw_ ?_); refine ac_ (aL_ rfl ce_ rfl) ?_) | ((with_reducible refine au_ ?_); refine ac_ (ay_ rfl an_ Tryz.underlying43 rfl ce_ rfl rfl) ?_) | ((with_reducible refine cj_ ?_); refine ac_ (bv_ rfl) ?_) | ((with_reducible refine aS_ ?_); refine ac_ (aT_ rfl rfl) ?_) | ((with_reducible refine ba_ (f := 16) ?_); refine ac_ (aJ_ rfl rfl (c16)) ?_) | ((with_reducible refine aN_ ?_); (refine aW_ rfl rfl rfl rfl (q80 _ aD_ aZ_) rfl rfl ?_; rintro _ _ ⟨rfl, hq⟩; all_goals ((try (have hqn := hq.nx)); (try simp only [bG_] at hqn)))) | ((with_reducible refine cG_ ?_); refine bC_ rfl rfl rfl rfl rfl rfl ?_)) | (with_reducible first | refine ah_ ?_ | refine ao_ ?_ | refine ab_ ?_ | refine aA_ ?_ | refine bd_ ?_) | refine bP_ rfl ?_)
   all_goals exact rq1 rfl ⟨rfl, aD_⟩
 | true =>
   have hS : on ≠ n := by simpa using hS
   refine ar_ 489 [.tmp 6] Tryz.func11 rfl rfl rfl rfl ?_
   repeat' (first | with_reducible refine am_ ?_ | ((with_reducible refine al_ ?_); first | ((with_reducible refine ak_ ?_); refine ac_ (ag_ rfl) ?_) | ((with_reducible refine ae_ ?_); refine ac_ (ad_ rfl) ?_) | ((with_reducible refine bw_ ?_); refine ac_ (aL_ rfl ce_ rfl) ?_) | ((with_reducible refine au_ ?_); refine ac_ (ay_ rfl an_ Tryz.underlying43 rfl ce_ rfl rfl) ?_) | ((with_reducible refine cj_ ?_); refine ac_ (bv_ rfl) ?_) | ((with_reducible refine aS_ ?_); refine ac_ (aO_ rfl rfl) ?_) | ((with_reducible refine ba_ (f := 16) ?_); refine ac_ (aJ_ rfl rfl (c16)) ?_) | ((with_reducible refine aN_ ?_); (refine aW_ rfl rfl rfl rfl (q80 _ aD_ aZ_) rfl rfl ?_; rintro _ _ ⟨rfl, hq⟩; all_goals ((try (have hqn := hq.nx)); (try simp only [bG_] at hqn)))) | ((with_reducible refine cG_ ?_); first | ((with_reducible refine bB_ ?_); refine aj_ rfl rfl rfl (ag_ rfl) rfl rfl ?_) | ((with_reducible refine bX_ ?_); refine aj_ rfl rfl rfl (aq_ rfl an_ Tryz.underlying41 rfl rfl) rfl rfl ?_) | ((with_reducible refine bW_ ?_); first | refine aj_ rfl rfl rfl (ax_ rfl Tryz.underlying124) rfl rfl ?_ | refine aj_ rfl rfl rfl (ax_ rfl Tryz.underlying41) rfl rfl ?_) | ((with_reducible refine bt_ ?_); refine aj_ rfl rfl rfl (aa_ (o := 1) rfl Tryz.underlying43 rfl cL_ rfl) rfl rfl ?_) | ((with_reducible refine bE_ ?_); refine aj_ rfl rfl rfl (bm_ rfl rfl) rfl rfl ?_))) | (with_reducible first | refine ah_ ?_ | refine ao_ ?_ | refine ab_ ?_ | refine aA_ ?_ | refine bd_ ?_) | (refine aK_ rfl (fun hb => ?_) (fun hb => aH_ hb); (try simp only [bj_, reduceCtorEq] at hb)))
   all_goals exact rq1 rfl ⟨rfl, aD_⟩
set_option maxHeartbeats 4000000 in
theorem c11m {nm : ByteArray} {a oa : Option Addr} {n c on oc : Nat} {ts : List Trc} {ls : List Lst} {z : Int} (s : SlT G h (.slice a n c) n ts) (so : LsOk G h (.slice oa on oc) on ls) (hS : smallB nm ts = true) (hon : on = n) (v : Val nm ts) (hW24 : wid ts ≤ 24) (sb : SmB ts) (hz : -128 ≤ z ∧ z ≤ 127) (hw : Wf h) (hG : ∀ a v, laidBase a = some v → G a = some v) : Cf (mz G) (.func (.func 11) #[] #[]) [.agg ⟨shC nm a n c⟩, .slice oa on oc, .int .i8 z] h fun r h' => r = .bool true ∧ Grow h h' := by
 subst hon
 have hlen := s.len
 have hmost := v.most
 have hpos := v.pos
 have hn : on ≤ 65 := by omega
 have vn := v.n
 have hls := so.len
 have q80 := fun (h' : H) (g : Grow h h') (w : Wf h') => c80 (nm := nm) (s.grow g) w
 rw [hS] at q80
 have q83 := fun (h' : H) (g : Grow h h') (w : Wf h') => c83 (nm := nm) (s.grow g) hn (by omega) vn w
 have q37 := fun (h' : H) (g : Grow h h') (w : Wf h') => c37 (nm := nm) (s.grow g) (by omega) w
 obtain ⟨W, hW⟩ : ∃ W, wid ts = W := ⟨_, rfl⟩
 rw [hW] at q37
 refine ar_ 489 [.tmp 6] Tryz.func11 rfl rfl rfl rfl ?_
 refine bU_ (ι := Unit) (fun _ => [(1, .slice oa on oc), (2, .int .i8 z), (3, .pointer (some ⟨h.nx, 0, some 0⟩))]) (fun _ h' => Wf h' ∧ Grow h h' ∧ At h' h.nx (.cells (shC nm a on c) 43 2 false)) ?_ ?_
 · repeat' (first | with_reducible refine am_ ?_ | ((with_reducible refine al_ ?_); first | ((with_reducible refine ae_ ?_); refine ac_ (ad_ rfl) ?_) | ((with_reducible refine bw_ ?_); refine ac_ (aL_ rfl ce_ rfl) ?_)) | with_reducible refine ab_ ?_)
   exact ⟨rfl, (), ai_ ⟨rfl, rfl, rfl, trivial⟩, aZ_, aD_, an_⟩
 rintro _ ha ⟨wa, ga, xa⟩
 refine bU_ (ι := Unit) (fun _ => [(1, .slice oa on oc), (2, .int .i8 z), (3, .pointer (some ⟨h.nx, 0, some 0⟩))]) (fun _ h' => Wf h' ∧ Grow h h' ∧ At h' h.nx (.cells (shC nm a on c) 43 2 false)) ?_ ?_
 · repeat' (first | with_reducible refine am_ ?_ | ((with_reducible refine al_ ?_); first | ((with_reducible refine ak_ ?_); refine ac_ (ag_ rfl) ?_) | ((with_reducible refine au_ ?_); refine ac_ (ay_ rfl an_ Tryz.underlying43 rfl ce_ rfl rfl) ?_) | ((with_reducible refine cj_ ?_); refine ac_ (bv_ rfl) ?_) | ((with_reducible refine aS_ ?_); refine ac_ (aO_ rfl rfl) ?_) | ((with_reducible refine aN_ ?_); (refine aW_ rfl rfl rfl rfl (q80 _ aD_ aZ_) rfl rfl ?_; rintro _ _ ⟨rfl, hq⟩; all_goals ((try (have hqn := hq.nx)); (try simp only [bG_] at hqn)))) | ((with_reducible refine cG_ ?_); first | ((with_reducible refine bB_ ?_); refine aj_ rfl rfl rfl (ag_ rfl) rfl rfl ?_) | ((with_reducible refine bX_ ?_); refine aj_ rfl rfl rfl (aq_ rfl an_ Tryz.underlying41 rfl rfl) rfl rfl ?_) | ((with_reducible refine bW_ ?_); first | refine aj_ rfl rfl rfl (ax_ rfl Tryz.underlying124) rfl rfl ?_ | refine aj_ rfl rfl rfl (ax_ rfl Tryz.underlying41) rfl rfl ?_) | ((with_reducible refine bt_ ?_); refine aj_ rfl rfl rfl (aa_ (o := 1) rfl Tryz.underlying43 rfl cL_ rfl) rfl rfl ?_) | ((with_reducible refine bE_ ?_); refine aj_ rfl rfl rfl (bm_ rfl rfl) rfl rfl ?_))) | (with_reducible first | refine ah_ ?_ | refine ao_ ?_ | refine ab_ ?_ | refine az_ ?_) | (refine aK_ rfl (fun hb => (of_decide_eq_true hb rfl).elim) (fun hb => ?_); (try simp only [bj_, reduceCtorEq] at hb)))
   exact ⟨rfl, (), ai_ ⟨rfl, rfl, rfl, trivial⟩, aZ_, aD_, an_⟩
 clear wa ga xa ha q80
 rintro _ ha ⟨wa, ga, xa⟩
 have lx := xa.lt
 have gan := ga.nx
 refine bU_ (ι := Nat × Nat × List Trc) (fun i => [(1, .slice oa on oc), (2, .int .i8 z), (3, .pointer (some ⟨h.nx, 0, some 0⟩)), (7, .pointer (some ⟨i.1, 0, some 0⟩))]) (fun i h' => (Wf h' ∧ Grow h h' ∧ At h' h.nx (.cells (shC nm a on c) 43 2 false)) ∧ At h' i.1 (.cells (shC nm (some ⟨i.2.1, 0, some 0⟩) on on) 43 2 false) ∧ At h' i.2.1 (.cells (i.2.2.flatMap Trc.cells) 47 10 true) ∧ (∀ t ∈ i.2.2, TrAt h' (h.nx + 1) t) ∧ i.2.2.map Trc.key = ts.map Trc.key ∧ h.nx < i.1 ∧ h.nx < i.2.1) ?_ ?_
 · repeat' (first | with_reducible refine am_ ?_ | ((with_reducible refine al_ ?_); first | ((with_reducible refine au_ ?_); refine ac_ (ay_ rfl an_ Tryz.underlying43 rfl ce_ rfl rfl) ?_) | ((with_reducible refine aU_ ?_); refine ac_ (aQ_ zz43 ce_ rfl rfl rfl) ?_) | ((with_reducible refine aG_ ?_); refine ci_ (aM_ rfl rfl an_ ce_ rfl rfl rfl rfl) ?_) | ((with_reducible refine aN_ ?_); (refine aW_ rfl rfl rfl rfl (q83 _ aD_ aZ_) rfl rfl ?_; rintro _ _ ⟨⟨B, us, rfl, hB, hat, hus, hky⟩, hq⟩; all_goals ((try (have hqn := hq.nx)); (try simp only [bG_] at hqn))))) | with_reducible refine ab_ ?_)
   have lh := hat.lt
   refine ⟨rfl, (_, B, us), ai_ ⟨rfl, rfl, rfl, rfl, trivial⟩, ?_⟩
   dsimp only
   exact ⟨⟨aZ_, aD_, an_⟩, an_, an_, fun t ht => ((hus t ht).le (by omega)).grow aD_, hky, by show h.nx < H.nx _; omega, by omega⟩
 clear wa ga xa lx gan q83
 rintro ⟨b7, B, us0⟩ hb ⟨⟨wb, gb, xb⟩, t7, tB, hus, hky, hb7, hB⟩
 simp only at t7 tB hus hky hb7 hB ⊢
 have hne : b7 ≠ B := fun q => by
   subst q
   have := t7.get.symm.trans tB.get
   simp at this
 have l7 := t7.lt
 have lB := tB.lt
 have gbn := gb.nx
 refine bU_ (ι := Unit) (fun i => [(1, .slice oa on oc), (2, .int .i8 z), (3, .pointer (some ⟨h.nx, 0, some 0⟩)), (7, .pointer (some ⟨b7, 0, some 0⟩))]) (fun i h' => (Wf h' ∧ Grow h h' ∧ At h' h.nx (.cells (shC nm a on c) 43 2 false)) ∧ At h' b7 (.cells (shC nmO (some ⟨B, 0, some 0⟩) on on) 43 2 false) ∧ At h' B (.cells (us0.flatMap Trc.cells) 47 10 true) ∧ (∀ t ∈ us0, TrAt h' (h.nx + 1) t)) ?_ ?_
 · repeat' (first | with_reducible refine am_ ?_ | ((with_reducible refine al_ ?_); first | ((with_reducible refine ap_ ?_); refine ac_ (aa_ (o := 0) rfl Tryz.underlying43 rfl zs9 rfl) ?_) | ((with_reducible refine aG_ ?_); refine ci_ (cn_ rfl rfl an_ rfl zs9 rfl rfl rfl) ?_)) | with_reducible refine ab_ ?_)
   exact ⟨rfl, (), ai_ ⟨rfl, rfl, rfl, rfl, trivial⟩, ⟨aZ_, aD_, an_⟩, an_, an_, fun t ht => (hus t ht).setA t7 (by decide) _⟩
 clear wb gb xb t7 tB hus l7 lB gbn
 rintro _ ha ⟨⟨wa, ga, xa⟩, t7, tB, hus⟩
 refine wc_midR (ι := List Trc) (fun i => [(1, .slice oa on oc), (2, .int .i8 z), (3, .pointer (some ⟨h.nx, 0, some 0⟩)), (7, .pointer (some ⟨b7, 0, some 0⟩))]) (fun us h' => (Wf h' ∧ Grow h h' ∧ At h' h.nx (.cells (shC nm a on c) 43 2 false)) ∧ At h' b7 (.cells (shC nmO (some ⟨B, 0, some 0⟩) on on) 43 2 false) ∧ At h' B (.cells (us.flatMap Trc.cells) 47 10 true) ∧ (∀ t ∈ us, TrAt h' (h.nx + 1) t) ∧ us.map Trc.key = (repTs ls ts).map Trc.key ∧ InL ts ls ts.length) ?_ ?_
 · repeat' (first | with_reducible refine am_ ?_ | ((with_reducible refine al_ ?_); first | ((with_reducible refine ak_ ?_); refine ac_ (ag_ rfl) ?_) | ((with_reducible refine au_ ?_); refine ac_ (aq_ rfl an_ Tryz.underlying41 rfl rfl) ?_) | ((with_reducible refine aC_ ?_); refine ac_ (ax_ rfl Tryz.underlying41) ?_) | ((with_reducible refine ap_ ?_); refine ac_ (aa_ (o := 1) rfl Tryz.underlying43 rfl cL_ rfl) ?_)) | (with_reducible first | refine ah_ ?_ | refine ao_ ?_ | refine ab_ ?_ | refine at_ ?_))
   refine bq_ (fun p : Nat × List Trc => on - p.1) (fun p => [(1, .slice oa on oc), (2, .int .i8 z), (3, .pointer (some ⟨h.nx, 0, some 0⟩)), (7, .pointer (some ⟨b7, 0, some 0⟩)), (64, .int .i64 on), (65, .int .i64 (p.1 : Nat))]) (fun p h' => ((Wf h' ∧ Grow h h' ∧ At h' h.nx (.cells (shC nm a on c) 43 2 false)) ∧ At h' b7 (.cells (shC nmO (some ⟨B, 0, some 0⟩) on on) 43 2 false) ∧ At h' B (.cells (p.2.flatMap Trc.cells) 47 10 true)) ∧ (∀ t ∈ p.2, TrAt h' (h.nx + 1) t) ∧ p.1 ≤ on ∧ KeyAll p.2 ts (repK ls p.1) ∧ InL ts ls p.1) (0, us0) (ai_ ⟨rfl, rfl, rfl, rfl, rfl, rfl, trivial⟩) ⟨⟨⟨aZ_, aD_, an_⟩, an_, an_⟩, hus, Nat.zero_le _, ?_, fun i q => by omega⟩ ?_
   · refine keys_same (keys_of hky) fun i q => ?_
     unfold repK
     rw [if_neg (by omega)]
   clear wa ga xa t7 tB hus
   rintro ⟨j, us⟩ hc ⟨⟨⟨wc, gc, xc⟩, t7, tB⟩, hus, hj, hka, hin⟩
   simp only at tB hus hj hka hin ⊢
   have hul := hka.1
   by_cases hlt : j < on
   · obtain ⟨ad, i1, i3⟩ := ls_at so hlt
     have sx := so.ok _ (List.getElem_mem (show j < ls.length by omega))
     have hlx := lsAt_get (show j < ls.length by omega)
     obtain ⟨x, hx⟩ : ∃ x, ls[j]'(by omega) = x := ⟨_, rfl⟩
     rw [hx] at i3 sx hlx
     clear hx
     obtain ⟨la, ln, lc, ll⟩ := x
     simp only [Lst.val] at i3 sx
     have hll := sx.length
     simp at hll
     have hkj := hka.2 j (by omega) (by omega)
     have ek : repK ls j j ts[j] = (ts[j]).key := by unfold repK; rw [if_neg (by omega)]
     rw [ek] at hkj
     clear ek
     obtain ⟨ehd, eho, _, _⟩ := cD_ hkj
     have hc8 : (us.flatMap Trc.cells)[j * 10 + 8]? = some (.bool (ts[j]).hole) := by rw [flat_get (by omega) us j (by omega), ← eho]; rfl
     have hfl := fun (v : Value) (u' : Trc) (q : u'.cells = (us[j]).cells.set 9 v) => flat_set (by omega) us j (by omega) u' q
     have hclen := bY_ us
     obtain ⟨ho, hho⟩ : ∃ b, (ts[j]).hole = b := ⟨_, rfl⟩
     rw [hho] at hc8
     have q64 := fun (h' : H) (g : Grow h h') => c64x (sx.grow g)
     obtain ⟨E, hE⟩ : ∃ E, lchk ll = E := ⟨_, rfl⟩
     rw [hE] at q64
     have lx := xc.lt
     have l7 := t7.lt
     have lB := tB.lt
     have gcn := gc.nx
     repeat' (first | with_reducible refine am_ ?_ | ((with_reducible refine al_ ?_); first | ((with_reducible refine ak_ ?_); refine ac_ (ag_ rfl) ?_) | ((with_reducible refine ae_ ?_); refine ac_ (ad_ rfl) ?_) | ((with_reducible refine av_ ?_); refine ac_ (aF_ rfl rfl) ?_)) | (with_reducible first | refine ah_ ?_ | refine ao_ ?_ | refine ab_ ?_ | refine az_ ?_ | refine at_ ?_) | (refine aK_ rfl (fun hb => ?_) (fun hb => aH_ hb); (try simp only [bj_, reduceCtorEq] at hb)))
     refine wc_join (ι := Bool) (fun bb => [(1, .slice oa on oc), (2, .int .i8 z), (3, .pointer (some ⟨h.nx, 0, some 0⟩)), (7, .pointer (some ⟨b7, 0, some 0⟩)), (64, .int .i64 on), (65, .int .i64 j), (8, .int .i64 j), (92, .bool bb)]) (fun bb h' => (((Wf h' ∧ Grow h h' ∧ At h' h.nx (.cells (shC nm a on c) 43 2 false)) ∧ At h' b7 (.cells (shC nmO (some ⟨B, 0, some 0⟩) on on) 43 2 false) ∧ At h' B (.cells (us.flatMap Trc.cells) 47 10 true)) ∧ Grow hc h') ∧ (bb = false → E = 0 ∧ (ho = false → ln = W))) ?_ ?_
     · by_cases hE0 : E = 0
       · subst hE0
         cases ho with
         | true =>
           repeat' (first | ((with_reducible refine bL_ ?_); ((with_reducible refine bK_ ?_); first | ((with_reducible refine bI_ ?_); refine bn_ (af_ rfl) rfl rfl (aE_ rfl (ag_ rfl)) rfl rfl rfl ?_) | ((with_reducible refine bo_ ?_); refine bn_ (af_ rfl) rfl rfl (aE_ rfl (as_ rfl rfl i1)) rfl rfl rfl ?_) | ((with_reducible refine by_ ?_); refine bp_ (af_ rfl) rfl (aE_ rfl (aI_ rfl Tryz.underlying45 rfl ((i3.grow aD_).get 0 _ rfl))) rfl rfl rfl ?_) | ((with_reducible refine xk_bin ?_); refine bn_ (af_ rfl) rfl rfl (aE_ rfl (bm_ rfl rfl)) rfl rfl rfl ?_) | ((with_reducible refine xk_pick ?_); refine bn_ (af_ rfl) rfl rfl (aE_ rfl (aO_ rfl rfl)) rfl rfl rfl ?_) | ((with_reducible refine bH_ ?_); refine wx_ee (af_ rfl) rfl rfl (aJ_ rfl rfl (q64 _ aD_)) rfl rfl ?_) | ((with_reducible refine xk_g ?_); first | refine wx_s (wt_skip rfl rfl rfl rfl) rfl rfl ?_ | ((with_reducible refine xg_move ?_); refine bn_ (bl_ rfl rfl rfl) rfl rfl (aE_ rfl (ag_ rfl)) rfl rfl rfl ?_) | ((with_reducible refine xg_indexAddr ?_); refine bn_ (bl_ rfl rfl rfl) rfl rfl (aE_ rfl (bF_ (b := B) (o := j * 10) rfl rfl Tryz.underlying41 cw_ (by omega) (by omega) (by omega))) rfl rfl rfl ?_) | ((with_reducible refine xg_load ?_); first | refine bp_ (bl_ rfl rfl rfl) rfl (aE_ rfl (bc_ (o := j * 10 + 8) rfl an_ Tryz.underlying4 rfl hc8)) rfl rfl rfl ?_ | refine bp_ (bl_ rfl rfl rfl) rfl (aE_ rfl (aq_ rfl an_ Tryz.underlying41 rfl rfl)) rfl rfl rfl ?_) | ((with_reducible refine xg_un ?_); refine bn_ (bl_ rfl rfl rfl) rfl rfl (aE_ rfl (bv_ rfl)) rfl rfl rfl ?_) | ((with_reducible refine xg_fieldAddr ?_); first | refine bn_ (bl_ rfl rfl rfl) rfl rfl (aE_ rfl (aa_ (o := 1) rfl Tryz.underlying43 rfl cL_ rfl)) rfl rfl rfl ?_ | refine bn_ (bl_ rfl rfl rfl) rfl rfl (aE_ rfl (aa_ (o := 8) rfl Tryz.underlying47 rfl zs4 rfl)) rfl rfl rfl ?_) | ((with_reducible refine xg_pick ?_); refine bn_ (bl_ rfl rfl rfl) rfl rfl (aE_ rfl (aO_ rfl rfl)) rfl rfl rfl ?_)) | with_reducible refine bN_ ?_ ?_)) | with_reducible exact bA_ | with_reducible refine bk_ ?_ ?_ | ((with_reducible refine bM_ ?_); first | exact bz_ | refine bx_ rfl ?_ | refine aB_ rfl rfl (aE_ rfl (aI_ rfl Tryz.underlying45 rfl ((i3.grow aD_).get 0 _ rfl))) ?_ | refine aB_ rfl rfl (aE_ rfl (bc_ (o := j * 10 + 8) rfl an_ Tryz.underlying4 rfl hc8)) ?_ | refine aB_ rfl rfl (aE_ rfl (aq_ rfl an_ Tryz.underlying41 rfl (by rfl))) ?_) | refine br_ (id := 8) 25 [0, 0, 3, 7, 15, 31, 63, 127, 255, 127, 1023, 2047, 4095, 8191, 16383, 32767, 32767, 131071, 262143, 524287, 32767, 1081343, 4194303, 8388607, 16777215] [0, 1, 2, 3, 4, 5, 6, 7, 8, 9, 10, 11, 12, 13, 14, 15, 16, 17, 18, 19, 20, 21, 22, 23, 24] (by kernel_rfl) (by kernel_rfl) rfl rfl ?_)
           all_goals exact ⟨rfl, false, ai_ ⟨rfl, rfl, rfl, rfl, rfl, rfl, rfl, rfl, trivial⟩, ⟨⟨⟨aZ_, aD_, an_⟩, an_, an_⟩, aD_⟩, fun _ => ⟨rfl, fun q => by cases q⟩⟩
         | false =>
           repeat' (first | ((with_reducible refine bL_ ?_); ((with_reducible refine bK_ ?_); first | ((with_reducible refine bI_ ?_); refine bn_ (af_ rfl) rfl rfl (aE_ rfl (ag_ rfl)) rfl rfl rfl ?_) | ((with_reducible refine bo_ ?_); refine bn_ (af_ rfl) rfl rfl (aE_ rfl (as_ rfl rfl i1)) rfl rfl rfl ?_) | ((with_reducible refine by_ ?_); refine bp_ (af_ rfl) rfl (aE_ rfl (aI_ rfl Tryz.underlying45 rfl ((i3.grow aD_).get 0 _ rfl))) rfl rfl rfl ?_) | ((with_reducible refine xk_bin ?_); refine bn_ (af_ rfl) rfl rfl (aE_ rfl (bm_ rfl rfl)) rfl rfl rfl ?_) | ((with_reducible refine xk_pick ?_); refine bn_ (af_ rfl) rfl rfl (aE_ rfl (aO_ rfl rfl)) rfl rfl rfl ?_) | ((with_reducible refine bH_ ?_); refine wx_ee (af_ rfl) rfl rfl (aJ_ rfl rfl (q64 _ aD_)) rfl rfl ?_) | ((with_reducible refine xk_g ?_); first | ((with_reducible refine xg_move ?_); refine bn_ (bl_ rfl rfl rfl) rfl rfl (aE_ rfl (ag_ rfl)) rfl rfl rfl ?_) | ((with_reducible refine xg_indexAddr ?_); first | refine bn_ (bl_ rfl rfl rfl) rfl rfl (aE_ rfl (as_ rfl rfl i1)) rfl rfl rfl ?_ | refine bn_ (bl_ rfl rfl rfl) rfl rfl (aE_ rfl (bF_ (b := B) (o := j * 10) rfl rfl Tryz.underlying41 cw_ (by omega) (by omega) (by omega))) rfl rfl rfl ?_) | ((with_reducible refine xg_load ?_); first | refine bp_ (bl_ rfl rfl rfl) rfl (aE_ rfl (aI_ rfl Tryz.underlying45 rfl ((i3.grow aD_).get 0 _ rfl))) rfl rfl rfl ?_ | refine bp_ (bl_ rfl rfl rfl) rfl (aE_ rfl (bc_ (o := j * 10 + 8) rfl an_ Tryz.underlying4 rfl hc8)) rfl rfl rfl ?_ | refine bp_ (bl_ rfl rfl rfl) rfl (aE_ rfl (ay_ rfl an_ Tryz.underlying43 rfl ce_ rfl rfl)) rfl rfl rfl ?_ | refine bp_ (bl_ rfl rfl rfl) rfl (aE_ rfl (aq_ rfl an_ Tryz.underlying41 rfl rfl)) rfl rfl rfl ?_) | ((with_reducible refine xg_un ?_); refine bn_ (bl_ rfl rfl rfl) rfl rfl (aE_ rfl (bv_ rfl)) rfl rfl rfl ?_) | ((with_reducible refine xg_callb ?_); refine bn_ (bl_ rfl rfl rfl) rfl rfl (aE_ rfl (ax_ rfl Tryz.underlying45)) rfl rfl rfl ?_) | ((with_reducible refine xg_fieldAddr ?_); first | refine bn_ (bl_ rfl rfl rfl) rfl rfl (aE_ rfl (aa_ (o := 1) rfl Tryz.underlying43 rfl cL_ rfl)) rfl rfl rfl ?_ | refine bn_ (bl_ rfl rfl rfl) rfl rfl (aE_ rfl (aa_ (o := 8) rfl Tryz.underlying47 rfl zs4 rfl)) rfl rfl rfl ?_) | ((with_reducible refine xg_bin ?_); refine bn_ (bl_ rfl rfl rfl) rfl rfl (aE_ rfl (bm_ rfl rfl)) rfl rfl rfl ?_) | ((with_reducible refine xg_pick ?_); refine bn_ (bl_ rfl rfl rfl) rfl rfl (aE_ rfl (aT_ rfl rfl)) rfl rfl rfl ?_) | ((with_reducible refine xg_callv ?_); (refine aV_ (bl_ rfl rfl rfl) rfl rfl rfl rfl (q37 _ aD_ aZ_) rfl rfl ?_; rintro _ _ ⟨rfl, hq⟩; all_goals ((try (have hqn := hq.nx)); (try simp only [bG_] at hqn))))) | with_reducible refine bN_ ?_ ?_)) | with_reducible exact bA_ | with_reducible refine bk_ ?_ ?_ | ((with_reducible refine bM_ ?_); first | exact bz_ | refine bx_ rfl ?_ | refine aB_ rfl rfl (aE_ rfl (aI_ rfl Tryz.underlying45 rfl ((i3.grow aD_).get 0 _ rfl))) ?_ | refine aB_ rfl rfl (aE_ rfl (bc_ (o := j * 10 + 8) rfl an_ Tryz.underlying4 rfl hc8)) ?_ | refine aB_ rfl rfl (aE_ rfl (ay_ rfl an_ Tryz.underlying43 rfl ce_ (by rfl) rfl)) ?_ | refine aB_ rfl rfl (aE_ rfl (aq_ rfl an_ Tryz.underlying41 rfl (by rfl))) ?_) | refine br_ (id := 8) 25 [0, 0, 3, 7, 15, 31, 63, 127, 255, 127, 1023, 2047, 4095, 8191, 16383, 32767, 32767, 131071, 262143, 524287, 32767, 1081343, 4194303, 8388607, 16777215] [0, 1, 2, 3, 4, 5, 6, 7, 8, 9, 10, 11, 12, 13, 14, 15, 16, 17, 18, 19, 20, 21, 22, 23, 24] (by kernel_rfl) (by kernel_rfl) rfl rfl ?_)
           all_goals exact ⟨rfl, _, ai_ ⟨rfl, rfl, rfl, rfl, rfl, rfl, rfl, rfl, trivial⟩, ⟨⟨⟨aZ_, aD_, an_⟩, an_, an_⟩, aD_⟩, fun q => ⟨rfl, fun _ => by have := of_decide_eq_false q; omega⟩⟩
       · repeat' (first | ((with_reducible refine bL_ ?_); ((with_reducible refine bK_ ?_); first | ((with_reducible refine bI_ ?_); refine bn_ (af_ rfl) rfl rfl (aE_ rfl (ag_ rfl)) rfl rfl rfl ?_) | ((with_reducible refine bo_ ?_); refine bn_ (af_ rfl) rfl rfl (aE_ rfl (as_ rfl rfl i1)) rfl rfl rfl ?_) | ((with_reducible refine by_ ?_); refine bp_ (af_ rfl) rfl (aE_ rfl (aI_ rfl Tryz.underlying45 rfl ((i3.grow aD_).get 0 _ rfl))) rfl rfl rfl ?_) | ((with_reducible refine xk_bin ?_); refine bn_ (af_ rfl) rfl rfl (aE_ rfl (bm_ rfl rfl)) rfl rfl rfl ?_) | ((with_reducible refine xk_pick ?_); refine bn_ (af_ rfl) rfl rfl (aE_ rfl (aT_ rfl rfl)) rfl rfl rfl ?_) | ((with_reducible refine bH_ ?_); refine wx_ee (af_ rfl) rfl rfl (aJ_ rfl rfl (q64 _ aD_)) rfl rfl ?_) | ((with_reducible refine xk_g ?_); first | refine wx_s (wt_skip rfl rfl rfl rfl) rfl rfl ?_ | refine wx_s (wt_skip' rfl rfl rfl) rfl rfl ?_ | (refine wx_split rfl rfl rfl (fun hb => ?_) (fun hb => aH_ hb); (try simp only [bj_, reduceCtorEq] at hb))) | with_reducible refine bN_ ?_ ?_)) | with_reducible exact bA_ | with_reducible refine bk_ ?_ ?_ | ((with_reducible refine bM_ ?_); first | exact bz_ | refine bx_ rfl ?_ | refine aB_ rfl rfl (aE_ rfl (aI_ rfl Tryz.underlying45 rfl ((i3.grow aD_).get 0 _ rfl))) ?_) | refine br_ (id := 8) 25 [0, 0, 3, 7, 15, 31, 63, 127, 255, 127, 1023, 2047, 4095, 8191, 16383, 32767, 32767, 131071, 262143, 524287, 32767, 1081343, 4194303, 8388607, 16777215] [0, 1, 2, 3, 4, 5, 6, 7, 8, 9, 10, 11, 12, 13, 14, 15, 16, 17, 18, 19, 20, 21, 22, 23, 24] (by kernel_rfl) (by kernel_rfl) rfl rfl ?_)
         all_goals exact ⟨rfl, true, ai_ ⟨rfl, rfl, rfl, rfl, rfl, rfl, rfl, rfl, trivial⟩, ⟨⟨⟨aZ_, aD_, an_⟩, an_, an_⟩, aD_⟩, fun q => by cases q⟩
     rintro bb hd ⟨⟨⟨⟨wd, gd, xd⟩, t7', tB'⟩, gx⟩, hbb⟩
     have hus' : ∀ t ∈ us, TrAt hd (h.nx + 1) t := fun t ht => (hus t ht).grow gx
     clear wc gc xc t7 tB hus gx lx l7 lB gcn q64
     cases bb with
     | true =>
       repeat' (first | with_reducible refine am_ ?_ | ((with_reducible refine al_ ?_); first | ((with_reducible refine ae_ ?_); refine ac_ (ad_ rfl) ?_) | ((with_reducible refine ba_ (f := 16) ?_); refine ac_ (aJ_ rfl rfl (c16)) ?_)) | (with_reducible first | refine ah_ ?_ | refine ao_ ?_ | refine ab_ ?_ | refine aA_ ?_ | refine bV_ ?_ | refine bd_ ?_ | refine cx_ ?_) | refine bP_ rfl ?_)
       all_goals exact .inr ⟨rfl, rq1 rfl ⟨rfl, aD_⟩⟩
     | false =>
       obtain ⟨hE0, hlW⟩ := hbb rfl
       subst hE0
       clear hbb
       obtain ⟨hl1024, hle⟩ := lchk_ok hE
       repeat' (first | with_reducible refine am_ ?_ | ((with_reducible refine al_ ?_); first | ((with_reducible refine ak_ ?_); refine ac_ (ag_ rfl) ?_) | ((with_reducible refine aw_ ?_); refine ac_ (as_ rfl rfl i1) ?_) | ((with_reducible refine au_ ?_); refine ac_ (aI_ rfl Tryz.underlying45 rfl ((i3.grow aD_).get 0 _ rfl)) ?_) | ((with_reducible refine aC_ ?_); refine ac_ (ax_ rfl Tryz.underlying45) ?_)) | (with_reducible first | refine ah_ ?_ | refine ao_ ?_ | refine ab_ ?_ | refine az_ ?_ | refine at_ ?_) | refine bs_ rfl ?_)
       have lxd := xd.lt
       refine bq_ (fun q => ln - q) (fun q : Nat => [(1, .slice oa on oc), (2, .int .i8 z), (3, .pointer (some ⟨h.nx, 0, some 0⟩)), (7, .pointer (some ⟨b7, 0, some 0⟩)), (64, .int .i64 on), (65, .int .i64 j), (8, .int .i64 j), (97, .slice la ln lc), (98, .int .i64 ln), (99, .int .i64 q)]) (fun q h' => (((Wf h' ∧ Grow h h' ∧ At h' h.nx (.cells (shC nm a on c) 43 2 false)) ∧ At h' b7 (.cells (shC nmO (some ⟨B, 0, some 0⟩) on on) 43 2 false) ∧ At h' B (.cells (us.flatMap Trc.cells) 47 10 true)) ∧ Grow hd h') ∧ q ≤ ln ∧ ∀ i (p : i < ll.length), i < q → (smp ll[i]).natAbs ≤ 1600) 0 (ai_ ⟨rfl, rfl, rfl, rfl, rfl, rfl, rfl, rfl, rfl, rfl, trivial⟩) ⟨⟨⟨⟨aZ_, aD_, an_⟩, an_, an_⟩, aD_⟩, Nat.zero_le _, fun i _ q => by omega⟩ ?_
       clear wd gd xd t7' tB'
       rintro q he ⟨⟨⟨⟨we, ge, xe⟩, t7, tB⟩, gx⟩, hq0, fq⟩
       by_cases hql : q < ln
       · obtain ⟨ad2, k1, k3⟩ := sl_at (sx.grow ge) (i := (q : Int)) hql rfl
         have hqx : q < ll.length := by omega
         have o1 := gt100 (hle _ (List.getElem_mem hqx))
         have o2 := ltm100 (hle _ (List.getElem_mem hqx))
         obtain ⟨X, hX⟩ : ∃ X, smp ll[q] = X := ⟨_, rfl⟩
         rw [hX] at o1 o2
         by_cases hs1 : 1600 < X
         · rw [decide_eq_true hs1] at o1
           repeat' (first | with_reducible refine am_ ?_ | ((with_reducible refine al_ ?_); first | ((with_reducible refine ak_ ?_); refine ac_ (ag_ rfl) ?_) | ((with_reducible refine ae_ ?_); refine ac_ (ad_ rfl) ?_) | ((with_reducible refine aw_ ?_); refine ac_ (as_ rfl rfl k1) ?_) | ((with_reducible refine au_ ?_); refine ac_ (aI_ rfl Tryz.underlying23 rfl k3) ?_) | ((with_reducible refine av_ ?_); first | refine ac_ (op_fgtr rfl rfl o1) ?_ | refine ac_ (aF_ rfl rfl) ?_) | ((with_reducible refine aS_ ?_); refine ac_ (aT_ rfl rfl) ?_) | ((with_reducible refine ba_ (f := 16) ?_); refine ac_ (aJ_ rfl rfl (c16)) ?_) | ((with_reducible refine cG_ ?_); refine bC_ rfl rfl rfl rfl rfl rfl ?_)) | (with_reducible first | refine ah_ ?_ | refine ao_ ?_ | refine ab_ ?_ | refine az_ ?_ | refine aA_ ?_ | refine at_ ?_ | refine bV_ ?_ | refine bd_ ?_ | refine cx_ ?_) | refine bP_ rfl ?_ | (refine aK_ rfl (fun hb => ?_) (fun hb => aH_ hb); (try simp only [bj_, reduceCtorEq] at hb)))
           all_goals exact .inr ⟨rfl, rq1 rfl ⟨rfl, aD_⟩⟩
         · rw [decide_eq_false hs1] at o1
           by_cases hs2 : X < -1600
           · rw [decide_eq_true hs2] at o2
             repeat' (first | with_reducible refine am_ ?_ | ((with_reducible refine al_ ?_); first | ((with_reducible refine ak_ ?_); refine ac_ (ag_ rfl) ?_) | ((with_reducible refine ae_ ?_); refine ac_ (ad_ rfl) ?_) | ((with_reducible refine aw_ ?_); refine ac_ (as_ rfl rfl k1) ?_) | ((with_reducible refine au_ ?_); refine ac_ (aI_ rfl Tryz.underlying23 rfl k3) ?_) | ((with_reducible refine av_ ?_); first | refine ac_ (op_fgtr rfl rfl o1) ?_ | refine ac_ (aF_ rfl rfl) ?_) | ((with_reducible refine aS_ ?_); refine ac_ (aO_ rfl rfl) ?_) | ((with_reducible refine ba_ (f := 16) ?_); refine ac_ (aJ_ rfl rfl (c16)) ?_) | ((with_reducible refine cG_ ?_); first | ((with_reducible refine bB_ ?_); refine aj_ rfl rfl rfl (ag_ rfl) rfl rfl ?_) | ((with_reducible refine bE_ ?_); refine aj_ rfl rfl rfl (op_flss rfl rfl o2) rfl rfl ?_))) | (with_reducible first | refine ah_ ?_ | refine ao_ ?_ | refine ab_ ?_ | refine az_ ?_ | refine aA_ ?_ | refine at_ ?_ | refine bV_ ?_ | refine bd_ ?_ | refine cx_ ?_) | refine bP_ rfl ?_ | (refine aK_ rfl (fun hb => ?_) (fun hb => aH_ hb); (try simp only [bj_, reduceCtorEq] at hb)))
             all_goals exact .inr ⟨rfl, rq1 rfl ⟨rfl, aD_⟩⟩
           · rw [decide_eq_false hs2] at o2
             repeat' (first | with_reducible refine am_ ?_ | ((with_reducible refine al_ ?_); first | ((with_reducible refine ak_ ?_); refine ac_ (ag_ rfl) ?_) | ((with_reducible refine ae_ ?_); refine ac_ (ad_ rfl) ?_) | ((with_reducible refine aw_ ?_); refine ac_ (as_ rfl rfl k1) ?_) | ((with_reducible refine au_ ?_); refine ac_ (aI_ rfl Tryz.underlying23 rfl k3) ?_) | ((with_reducible refine av_ ?_); first | refine ac_ (op_fgtr rfl rfl o1) ?_ | refine ac_ (aF_ rfl rfl) ?_ | refine ac_ (aR_ rfl rfl (w64 (by omega) (by omega))) ?_) | ((with_reducible refine aS_ ?_); refine ac_ (aO_ rfl rfl) ?_) | ((with_reducible refine cG_ ?_); first | ((with_reducible refine bB_ ?_); refine aj_ rfl rfl rfl (ag_ rfl) rfl rfl ?_) | ((with_reducible refine bE_ ?_); refine aj_ rfl rfl rfl (op_flss rfl rfl o2) rfl rfl ?_))) | (with_reducible first | refine ah_ ?_ | refine ao_ ?_ | refine ab_ ?_ | refine az_ ?_ | refine at_ ?_ | refine aP_ ?_) | refine bs_ rfl ?_ | (refine aK_ rfl (fun hb => ?_) (fun hb => aH_ hb); (try simp only [bj_, reduceCtorEq] at hb)))
             exact aX_ (q + 1) (by omega) (ai_ ⟨rfl, rfl, rfl, rfl, rfl, rfl, rfl, rfl, rfl, rfl, trivial⟩) ⟨⟨⟨⟨aZ_, aD_, an_⟩, an_, an_⟩, aD_⟩, by omega, fun i p hi => by
               by_cases hij : i = q
               · subst hij; rw [hX]; omega
               · exact fq i p (by omega)⟩
       · have fall := mem_of_at (l := ll) (P := fun x => (smp x).natAbs ≤ 1600) fun i p => fq i p (by omega)
         have hin1 : InL ts ls (j + 1) := fun i hi p => by
           by_cases hij : i = j
           · subst hij
             rw [hlx, hW]
             exact ⟨hE, hll, fun z => hlW (by rw [← hho]; exact z), fall⟩
           · exact hin i (by omega) p
         have hus2 : ∀ t ∈ us, TrAt he (h.nx + 1) t := fun t ht => (hus' t ht).grow gx
         clear hus' gx fq hle hin
         have lx := xe.lt
         have l7 := t7.lt
         have lB := tB.lt
         have gen := ge.nx
         cases ho with
         | true =>
           repeat' (first | with_reducible refine am_ ?_ | ((with_reducible refine al_ ?_); first | ((with_reducible refine ak_ ?_); refine ac_ (ag_ rfl) ?_) | ((with_reducible refine aw_ ?_); refine ac_ (bF_ (b := B) (o := j * 10) rfl rfl Tryz.underlying41 cw_ (by omega) (by omega) (by omega)) ?_) | ((with_reducible refine au_ ?_); first | refine ac_ (bc_ (o := j * 10 + 8) rfl an_ Tryz.underlying4 rfl hc8) ?_ | refine ac_ (aq_ rfl an_ Tryz.underlying41 rfl rfl) ?_) | ((with_reducible refine cj_ ?_); refine ac_ (bv_ rfl) ?_) | ((with_reducible refine ap_ ?_); first | refine ac_ (aa_ (o := 1) rfl Tryz.underlying43 rfl cL_ rfl) ?_ | refine ac_ (aa_ (o := 8) rfl Tryz.underlying47 rfl zs4 rfl) ?_) | ((with_reducible refine av_ ?_); first | refine ac_ (aF_ rfl rfl) ?_ | refine ac_ (aR_ rfl rfl (w64 (by omega) (by omega))) ?_)) | (with_reducible first | refine ah_ ?_ | refine ao_ ?_ | refine ab_ ?_ | refine az_ ?_ | refine be_ ?_ | refine aP_ ?_ | refine bf_ ?_ | refine bi_ ?_) | refine bS_ rfl ?_ | refine bs_ rfl ?_ | (refine aK_ rfl (fun hb => aH_ hb) (fun hb => ?_); (try simp only [bj_, reduceCtorEq] at hb)))
           all_goals exact aX_ (j + 1, us) (by simp only; omega) (ai_ ⟨rfl, rfl, rfl, rfl, rfl, rfl, trivial⟩) ⟨⟨⟨aZ_, aD_, an_⟩, an_, an_⟩, hus2, by simp only; omega, keys_same hka fun i q => by
             unfold repK
             by_cases hij : i = j
             · subst hij; rw [hho, if_neg (by omega), if_neg (by simp)]
             · have : (i < j ∧ (ts[i]).hole = false) ↔ (i < j + 1 ∧ (ts[i]).hole = false) := ⟨fun ⟨a, b⟩ => ⟨by omega, b⟩, fun ⟨a, b⟩ => ⟨by omega, b⟩⟩
               simp only [this], hin1⟩
         | false =>
           repeat' (first | with_reducible refine am_ ?_ | ((with_reducible refine al_ ?_); first | ((with_reducible refine ak_ ?_); refine ac_ (ag_ rfl) ?_) | ((with_reducible refine aw_ ?_); refine ac_ (bF_ (b := B) (o := j * 10) rfl rfl Tryz.underlying41 cw_ (by omega) (by omega) (by omega)) ?_) | ((with_reducible refine au_ ?_); first | refine ac_ (bc_ (o := j * 10 + 8) rfl an_ Tryz.underlying4 rfl hc8) ?_ | refine ac_ (aq_ rfl an_ Tryz.underlying41 rfl rfl) ?_) | ((with_reducible refine cj_ ?_); refine ac_ (bv_ rfl) ?_) | ((with_reducible refine ap_ ?_); first | refine ac_ (aa_ (o := 1) rfl Tryz.underlying43 rfl cL_ rfl) ?_ | refine ac_ (aa_ (o := 8) rfl Tryz.underlying47 rfl zs4 rfl) ?_) | ((with_reducible refine av_ ?_); first | refine ac_ (aF_ rfl rfl) ?_ | refine ac_ (aR_ rfl rfl (w64 (by omega) (by omega))) ?_)) | ((with_reducible refine bL_ ?_); ((with_reducible refine bK_ ?_); first | ((with_reducible refine bI_ ?_); refine bn_ (af_ rfl) rfl rfl (aE_ rfl (ag_ rfl)) rfl rfl rfl ?_) | ((with_reducible refine bo_ ?_); first | refine bn_ (af_ rfl) rfl rfl (aE_ rfl (bF_ (b := B) (o := j * 10) rfl rfl Tryz.underlying41 cw_ (by omega) (by omega) (by omega))) rfl rfl rfl ?_ | refine bn_ (af_ rfl) rfl rfl (aE_ rfl (as_ rfl rfl i1)) rfl rfl rfl ?_) | ((with_reducible refine by_ ?_); first | refine bp_ (af_ rfl) rfl (aE_ rfl (aI_ rfl Tryz.underlying45 rfl ((i3.grow aD_).get 0 _ rfl))) rfl rfl rfl ?_ | refine bp_ (af_ rfl) rfl (aE_ rfl (aq_ rfl an_ Tryz.underlying41 rfl rfl)) rfl rfl rfl ?_) | ((with_reducible refine cf_ ?_); refine wx_ee0 (af_ rfl) rfl rfl (cC_ (o := j * 10 + 9) rfl rfl an_ rfl zs45 (by omega) rfl (hfl _ ⟨(us[j]).hd, (us[j]).hole, some ⟨b1, 0, some 0⟩, ln, ln, ll⟩ rfl)) rfl ?_) | ((with_reducible refine bh_ ?_); first | refine bn_ (af_ rfl) rfl rfl (aE_ rfl (aa_ (o := 1) rfl Tryz.underlying43 rfl cL_ rfl)) rfl rfl rfl ?_ | refine bn_ (af_ rfl) rfl rfl (aE_ rfl (aa_ (o := 9) rfl Tryz.underlying47 rfl zs45 rfl)) rfl rfl rfl ?_) | ((with_reducible refine xk_callF (f := 59) ?_); (refine aV_ (af_ rfl) rfl rfl rfl rfl (c59o (sx.grow aD_) (by omega)) rfl rfl ?_; rintro _ _ ⟨⟨b1, sf1, rfl, hb1, hatS⟩, hq⟩; all_goals ((try (have hqn := hq.nx)); (try simp only [bG_] at hqn)))) | with_reducible refine bN_ ?_ ?_)) | with_reducible exact bA_ | with_reducible refine bk_ ?_ ?_ | ((with_reducible refine bM_ ?_); first | exact bz_ | refine bx_ rfl ?_ | refine aB_ rfl rfl (aE_ rfl (aI_ rfl Tryz.underlying45 rfl ((i3.grow aD_).get 0 _ rfl))) ?_ | refine aB_ rfl rfl (aE_ rfl (aq_ rfl an_ Tryz.underlying41 rfl (by rfl))) ?_) | (with_reducible first | refine ah_ ?_ | refine ao_ ?_ | refine ab_ ?_ | refine be_ ?_ | refine aP_ ?_ | refine bf_ ?_ | refine bi_ ?_) | refine bS_ rfl ?_ | refine bP_ rfl ?_ | (refine aK_ rfl (fun hb => aH_ hb) (fun hb => ?_); (try simp only [bj_, reduceCtorEq] at hb)) | refine br_ (id := 17) 11 [0, 1, 0, 0, 0, 24, 56, 120, 255, 511, 1023] [0, 1, 2, 3, 4, 5, 6, 7, 8, 9, 10] (by kernel_rfl) (by kernel_rfl) rfl rfl ?_)
           all_goals
             try simp only [bG_] at hb1
             refine aX_ (j + 1, us.set j ⟨(us[j]).hd, (us[j]).hole, some ⟨b1, 0, some 0⟩, ln, ln, ll⟩) (by simp only; omega) (ai_ ⟨rfl, rfl, rfl, rfl, rfl, rfl, trivial⟩) ⟨⟨⟨aZ_, aD_, an_⟩, an_, an_⟩, set_mem (fun t ht => TrAt.setA ((hus2 t ht).grow aD_) (tB.grow aD_) (by decide) _) ⟨⟨b1, sf1, rfl, by omega, an_⟩, hll, rfl⟩, by simp only; omega, keys_set hka (by omega) ?_ ?_, hin1⟩
             · unfold repK
               rw [if_pos ⟨by omega, hho⟩, hlx]
               show ((us[j]).hd, (us[j]).hole, ln, ll) = _
               rw [← ehd, eho, hho]
             · intro i q hij
               unfold repK
               have : (i < j ∧ (ts[i]).hole = false) ↔ (i < j + 1 ∧ (ts[i]).hole = false) := ⟨fun ⟨a, b⟩ => ⟨by omega, b⟩, fun ⟨a, b⟩ => ⟨by omega, b⟩⟩
               simp only [this]
   · have hjn : j = ts.length := by omega
     subst hjn
     repeat' (first | with_reducible refine am_ ?_ | ((with_reducible refine al_ ?_); ((with_reducible refine av_ ?_); refine ac_ (aF_ rfl rfl) ?_)) | (with_reducible first | refine ah_ ?_ | refine ao_ ?_ | refine ab_ ?_ | refine be_ ?_ | refine bf_ ?_ | refine bi_ ?_) | refine bS_ rfl ?_ | (refine aK_ rfl (fun hb => aH_ hb) (fun hb => ?_); (try simp only [bj_, reduceCtorEq] at hb)))
     exact .inl ⟨rfl, us, ai_ ⟨rfl, rfl, rfl, rfl, trivial⟩, ⟨aZ_, aD_, an_⟩, an_, an_, hus, keys_rep hka, hin⟩
 clear wa ga xa t7 tB hus
 rintro us ha ⟨⟨wa, ga, xa⟩, t7, tB, hus, hkyU, hin⟩
 have hul : us.length = on := by have := congrArg List.length hkyU; simp [repTs_len] at this; omega
 have s7 : SlK G ha (.slice (some ⟨B, 0, some 0⟩) on on) on (repTs ls ts) := slk_of tB hus hkyU hul
 clear tB hus hkyU hul us hky us0 hne hb7 hB
 have kl := rep_like v hin
 have vU := rep_val (nm' := nmO) v hin nmO_name
 have sU := rep_smB v hin
 have f1 := fits_add v vU kl sb sU
 have f2 := fits_add vU v kl.symm sU sb
 have vA := v.ch f1
 have vB := vU.ch f2
 have tAB := sum_swap kl vA
 have fM := fits_neg sb
 have vM := v.ch fM
 have kM := v.like_ch fM
 have f3 := fits_add v vM kM sb (smB_neg sb)
 have f4 := fits_add v v (Like.refl ts) sb sb
 have vN := v.ch f3
 have vT := v.ch f4
 have tTD := twice_double vT
 have tS := scl_self v
 have sk := s.k
 have q31 := fun (h' : H) (st : SlK G h' (.slice a on c) on ts) (w : Wf h') => k31 (nm := nm) st hn vn w
 have q31U := fun (h' : H) (st : SlK G h' (.slice (some ⟨B, 0, some 0⟩) on on) on (repTs ls ts)) (w : Wf h') => k31 (nm := nmO) st hn vU.n w
 have q48a := fun (h' : H) (a1 a2 : Option Addr) (c1 c2 : Nat) (st : SlK G h' (.slice a1 on c1) on ts) (st' : SlK G h' (.slice a2 on c2) on (repTs ls ts)) (w : Wf h') => k48 st st' v vU kl f1 w hG
 have q48b := fun (h' : H) (a1 a2 : Option Addr) (c1 c2 : Nat) (st : SlK G h' (.slice a1 on c1) on (repTs ls ts)) (st' : SlK G h' (.slice a2 on c2) on ts) (w : Wf h') => k48 st st' vU v kl.symm f2 w hG
 have q49m := fun (h' : H) (a1 : Option Addr) (c1 : Nat) (st : SlK G h' (.slice a1 on c1) on ts) (w : Wf h') => k49 (nm := nm) (x := -1) (y := 1) st v (by decide) (by decide) fM w hG
 have q81 := fun (h' : H) (nm' : ByteArray) (us : List Trc) (a' : Option Addr) (c' : Nat) (st : SlK G h' (.slice a' on c') on us) (w : Wf h') => k81 (nm := nm') st hn w
 have q35A := fun (h' : H) (a' : Option Addr) (c' : Nat) (st : SlK G h' (.slice a' on c') on _) (w : Wf h') => k35 st vA w
 have q35M := fun (h' : H) (a' : Option Addr) (c' : Nat) (st : SlK G h' (.slice a' on c') on _) (w : Wf h') => k35 st vM w
 obtain ⟨U, hU⟩ : ∃ X, repTs ls ts = X := ⟨_, rfl⟩
 simp only [hU] at s7 q31U q48a q48b q35A
 obtain ⟨LA, hLA⟩ : ∃ X, chTs (mrgF addF U) ts = X := ⟨_, rfl⟩
 obtain ⟨LB, hLB⟩ : ∃ X, chTs (mrgF addF ts) U = X := ⟨_, rfl⟩
 obtain ⟨LM, hLM⟩ : ∃ X, chTs (sclF (-1) 1) ts = X := ⟨_, rfl⟩
 simp only [hLA] at q48a q35A
 simp only [hLB] at q48b
 simp only [hLM] at q49m q35M
 clear f1 f2 f3 f4 fM kM vA vB vM vT vN tAB tTD tS
 obtain ⟨w, g, x0⟩ : Wf ha ∧ Grow h ha ∧ _ := ⟨wa, ga, xa⟩
 clear wa ga xa
 have l7 := t7.lt
 have l0 := x0.lt
 have gn := g.nx
 refine bU_ (ι := Option Addr × Nat × Nat) (fun i => [(1, .slice oa on oc), (2, .int .i8 z), (3, .pointer (some ⟨h.nx, 0, some 0⟩)), (7, .pointer (some ⟨b7, 0, some 0⟩)), (11, .pointer (some ⟨i.2.2, 0, some 0⟩)), (12, .int .i64 0)]) (fun i h' => (Wf h' ∧ Grow h h' ∧ At h' h.nx (.cells (shC nm a on c) 43 2 false)) ∧ At h' b7 (.cells (shC nmO (some ⟨B, 0, some 0⟩) on on) 43 2 false) ∧ SlK G h' (.slice (some ⟨B, 0, some 0⟩) on on) on U ∧ At h' i.2.2 (.cells (shC nm i.1 on i.2.1) 54 2 false) ∧ SlK G h' (.slice i.1 on i.2.1) on LA) ?_ ?_
 · repeat' (first | ((with_reducible refine bL_ ?_); first | ((with_reducible refine bK_ ?_); first | ((with_reducible refine bI_ ?_); refine bn_ (af_ rfl) rfl rfl (aE_ rfl (ag_ rfl)) rfl rfl rfl ?_) | ((with_reducible refine by_ ?_); refine bp_ (af_ rfl) rfl (aE_ rfl (ay_ rfl an_ Tryz.underlying43 rfl ce_ rfl rfl)) rfl rfl rfl ?_) | ((with_reducible refine xk_alloc ?_); refine wx_a0 (af_ rfl) rfl (oa_alloc zz43 ce_ rfl rfl rfl) rfl rfl ?_) | ((with_reducible refine xk_extract ?_); refine bn_ (af_ rfl) rfl rfl (aE_ rfl (bD_ rfl rfl)) rfl rfl rfl ?_) | ((with_reducible refine bH_ ?_); first | (refine aV_ (af_ rfl) rfl rfl rfl rfl (q31 _ (sk.grow aD_) aZ_) rfl rfl ?_; rintro _ _ ⟨⟨y1, y2, rfl, su⟩, hq⟩; all_goals ((try (have hqn := hq.nx)); (try simp only [bG_] at hqn))) | (refine aV_ (af_ rfl) rfl rfl rfl rfl (q31U _ (s7.grow aD_) aZ_) rfl rfl ?_; rintro _ _ ⟨⟨u1, u2, rfl, sv⟩, hq⟩; all_goals ((try (have hqn := hq.nx)); (try simp only [bG_] at hqn))) | (refine aV_ (af_ rfl) rfl rfl rfl rfl (q48a _ _ _ _ _ (su.grow aD_) (sv.grow aD_) aZ_) rfl rfl ?_; rintro _ _ ⟨⟨aR, cR, rfl, sR⟩, hq⟩; all_goals ((try (have hqn := hq.nx)); (try simp only [bG_] at hqn))))) | ((with_reducible refine ck_ ?_); refine bn_ (af_ rfl) rfl rfl (aE_ rfl (ad_ rfl)) rfl rfl rfl ?_) | ((with_reducible refine cf_ ?_); ((with_reducible refine xk_as1 ?_); refine wx_e01 (af_ rfl) rfl rfl rfl (aM_ rfl rfl an_ ce_ rfl rfl rfl rfl) rfl ?_)) | refine wx_niln ?_ ?_ rfl rfl ?_) | with_reducible exact bA_ | with_reducible refine bk_ ?_ ?_ | ((with_reducible refine bM_ ?_); first | exact bz_ | refine bx_ rfl ?_ | refine aB_ rfl rfl (aE_ rfl (ay_ rfl an_ Tryz.underlying43 rfl ce_ (by rfl) rfl)) ?_) | with_reducible exact stk_nil | with_reducible refine cK_ ?_ ?_ | ((with_reducible refine ik_stk ?_); first | exact stk_abs rfl rfl | exact cI_ rfl rfl aZ_ gr_B) | refine br_ (id := 19) 11 [0, 1, 0, 7, 15, 31, 63, 63, 0, 383, 1023] [0, 1, 2, 3, 4, 5, 6, 7, 8, 9, 10] (by kernel_rfl) (by kernel_rfl) rfl rfl ?_)
   exact ⟨rfl, (_, _, _), ai_ ⟨rfl, rfl, rfl, rfl, rfl, rfl, trivial⟩, ⟨aZ_, aD_, an_⟩, an_, s7.grow aD_, an_, (sR.setF (Free.new (i := 8) w aD_ (by omega)) _).setF (Free.at (c := zShot) (e := 54) (s := false) an_) _⟩
 clear w g x0 l0 gn t7 s7 l7 q48a ha
 rintro ⟨a11, c11, b11⟩ hx ⟨⟨w, g, x0⟩, t7, s7, t11, s11⟩
 simp only at t11 s11
 have l7 := t7.lt
 have l11 := t11.lt
 have l0 := x0.lt
 have gn := g.nx
 refine bU_ (ι := Option Addr × Nat × Nat) (fun i => [(1, .slice oa on oc), (2, .int .i8 z), (3, .pointer (some ⟨h.nx, 0, some 0⟩)), (7, .pointer (some ⟨b7, 0, some 0⟩)), (11, .pointer (some ⟨b11, 0, some 0⟩)), (13, .pointer (some ⟨i.2.2, 0, some 0⟩)), (12, .int .i64 0), (14, .int .i64 0)]) (fun i h' => ((Wf h' ∧ Grow h h' ∧ At h' h.nx (.cells (shC nm a on c) 43 2 false)) ∧ At h' b7 (.cells (shC nmO (some ⟨B, 0, some 0⟩) on on) 43 2 false) ∧ SlK G h' (.slice (some ⟨B, 0, some 0⟩) on on) on U ∧ At h' b11 (.cells (shC nm a11 on c11) 54 2 false) ∧ SlK G h' (.slice a11 on c11) on LA ∧ At h' i.2.2 (.cells (shC nmO i.1 on i.2.1) 54 2 false) ∧ SlK G h' (.slice i.1 on i.2.1) on LB) ∧ h.nx < i.2.2 ∧ b11 < i.2.2) ?_ ?_
 · repeat' (first | ((with_reducible refine bL_ ?_); first | ((with_reducible refine bK_ ?_); first | ((with_reducible refine bI_ ?_); refine bn_ (af_ rfl) rfl rfl (aE_ rfl (ag_ rfl)) rfl rfl rfl ?_) | ((with_reducible refine by_ ?_); refine bp_ (af_ rfl) rfl (aE_ rfl (ay_ rfl an_ Tryz.underlying43 rfl ce_ rfl rfl)) rfl rfl rfl ?_) | ((with_reducible refine xk_alloc ?_); refine wx_a0 (af_ rfl) rfl (oa_alloc zz43 ce_ rfl rfl rfl) rfl rfl ?_) | ((with_reducible refine xk_extract ?_); refine bn_ (af_ rfl) rfl rfl (aE_ rfl (bD_ rfl rfl)) rfl rfl rfl ?_) | ((with_reducible refine bH_ ?_); first | (refine aV_ (af_ rfl) rfl rfl rfl rfl (q31 _ (sk.grow aD_) aZ_) rfl rfl ?_; rintro _ _ ⟨⟨y1, y2, rfl, su⟩, hq⟩; all_goals ((try (have hqn := hq.nx)); (try simp only [bG_] at hqn))) | (refine aV_ (af_ rfl) rfl rfl rfl rfl (q31U _ (s7.grow aD_) aZ_) rfl rfl ?_; rintro _ _ ⟨⟨u1, u2, rfl, sv⟩, hq⟩; all_goals ((try (have hqn := hq.nx)); (try simp only [bG_] at hqn))) | (refine aV_ (af_ rfl) rfl rfl rfl rfl (q48b _ _ _ _ _ (sv.grow aD_) (su.grow aD_) aZ_) rfl rfl ?_; rintro _ _ ⟨⟨aR, cR, rfl, sR⟩, hq⟩; all_goals ((try (have hqn := hq.nx)); (try simp only [bG_] at hqn))))) | ((with_reducible refine ck_ ?_); refine bn_ (af_ rfl) rfl rfl (aE_ rfl (ad_ rfl)) rfl rfl rfl ?_) | ((with_reducible refine cf_ ?_); ((with_reducible refine xk_as1 ?_); refine wx_e01 (af_ rfl) rfl rfl rfl (aM_ rfl rfl an_ ce_ rfl rfl rfl rfl) rfl ?_)) | refine wx_niln ?_ ?_ rfl rfl ?_) | with_reducible exact bA_ | with_reducible refine bk_ ?_ ?_ | ((with_reducible refine bM_ ?_); first | exact bz_ | refine bx_ rfl ?_ | refine aB_ rfl rfl (aE_ rfl (ay_ rfl an_ Tryz.underlying43 rfl ce_ (by rfl) rfl)) ?_) | with_reducible exact stk_nil | with_reducible refine cK_ ?_ ?_ | ((with_reducible refine ik_stk ?_); first | exact stk_abs rfl rfl | exact cI_ rfl rfl aZ_ gr_B) | refine br_ (id := 20) 11 [0, 1, 0, 7, 15, 31, 63, 63, 0, 383, 1023] [0, 1, 2, 3, 4, 5, 6, 7, 8, 9, 10] (by kernel_rfl) (by kernel_rfl) rfl rfl ?_)
   refine ⟨rfl, (aR, cR, _), ai_ ⟨rfl, rfl, rfl, rfl, rfl, rfl, rfl, rfl, trivial⟩, ?_⟩
   dsimp only
   exact ⟨⟨⟨aZ_, aD_, an_⟩, an_, s7.grow aD_, an_, s11.grow aD_, an_, (sR.setF (Free.new (i := 8) w aD_ (by omega)) _).setF (Free.at (c := zShot) (e := 54) (s := false) an_) _⟩, by show h.nx < hx.nx + 8; omega, by show b11 < hx.nx + 8; omega⟩
 clear w g x0 l0 gn t7 s7 l7 t11 s11 l11 q48b hx
 rintro ⟨a13, c13, b13⟩ ha ⟨⟨⟨w, g, x0⟩, t7, s7, t11, s11, t13, s13⟩, n13, n11⟩
 simp only at n13  n11
 simp only at t13 s13
 have l7 := t7.lt
 have l11 := t11.lt
 have l13 := t13.lt
 have l0 := x0.lt
 have gn := g.nx
 refine bU_ (ι := Option Addr × Nat × Nat) (fun i => [(1, .slice oa on oc), (2, .int .i8 z), (3, .pointer (some ⟨h.nx, 0, some 0⟩)), (7, .pointer (some ⟨b7, 0, some 0⟩)), (11, .pointer (some ⟨b11, 0, some 0⟩)), (13, .pointer (some ⟨b13, 0, some 0⟩)), (15, .pointer (some ⟨i.2.2, 0, some 0⟩)), (12, .int .i64 0), (14, .int .i64 0), (16, .int .i64 0)]) (fun i h' => ((Wf h' ∧ Grow h h' ∧ At h' h.nx (.cells (shC nm a on c) 43 2 false)) ∧ At h' b7 (.cells (shC nmO (some ⟨B, 0, some 0⟩) on on) 43 2 false) ∧ SlK G h' (.slice (some ⟨B, 0, some 0⟩) on on) on U ∧ At h' b11 (.cells (shC nm a11 on c11) 54 2 false) ∧ SlK G h' (.slice a11 on c11) on LA ∧ At h' b13 (.cells (shC nmO a13 on c13) 54 2 false) ∧ SlK G h' (.slice a13 on c13) on LB ∧ At h' i.2.2 (.cells (shC nm i.1 on i.2.1) 54 2 false) ∧ SlK G h' (.slice i.1 on i.2.1) on LM) ∧ b13 < i.2.2) ?_ ?_
 · repeat' (first | with_reducible refine am_ ?_ | ((with_reducible refine al_ ?_); first | ((with_reducible refine ak_ ?_); refine ac_ (ag_ rfl) ?_) | ((with_reducible refine ae_ ?_); refine ac_ (ad_ rfl) ?_) | ((with_reducible refine au_ ?_); refine ac_ (ay_ rfl an_ Tryz.underlying43 rfl ce_ rfl rfl) ?_) | ((with_reducible refine aU_ ?_); refine ac_ (aQ_ zz43 ce_ rfl rfl rfl) ?_) | ((with_reducible refine aG_ ?_); refine ci_ (aM_ rfl rfl an_ ce_ rfl rfl rfl rfl) ?_) | ((with_reducible refine bR_ ?_); refine ac_ (bD_ rfl rfl) ?_) | ((with_reducible refine aN_ ?_); first | (refine aW_ rfl rfl rfl rfl (q31 _ (sk.grow aD_) aZ_) rfl rfl ?_; rintro _ _ ⟨⟨y1, y2, rfl, su⟩, hq⟩; all_goals ((try (have hqn := hq.nx)); (try simp only [bG_] at hqn))) | (refine aW_ rfl rfl rfl rfl (q49m _ _ _ (su.grow aD_) aZ_) rfl rfl ?_; rintro _ _ ⟨⟨aR, cR, rfl, sR⟩, hq⟩; all_goals ((try (have hqn := hq.nx)); (try simp only [bG_] at hqn))))) | with_reducible refine ab_ ?_)
   refine ⟨rfl, (aR, cR, _), ai_ ⟨rfl, rfl, rfl, rfl, rfl, rfl, rfl, rfl, rfl, rfl, trivial⟩, ?_⟩
   dsimp only
   exact ⟨⟨⟨aZ_, aD_, an_⟩, an_, s7.grow aD_, an_, s11.grow aD_, an_, s13.grow aD_, an_, sR.grow aD_⟩, by show b13 < H.nx _; omega⟩
 clear w g x0 l0 gn t7 s7 l7 t11 s11 l11 t13 s13 l13 q49m ha
 rintro ⟨a15, c15, b15⟩ hx ⟨⟨⟨w, g, x0⟩, t7, s7, t11, s11, t13, s13, t15, s15⟩, n15⟩
 simp only at n15
 simp only at t15 s15
 have l7 := t7.lt
 have l11 := t11.lt
 have l13 := t13.lt
 have l15 := t15.lt
 have l0 := x0.lt
 have gn := g.nx
 refine bU_ (ι := Unit) (fun i => [(1, .slice oa on oc), (2, .int .i8 z), (3, .pointer (some ⟨h.nx, 0, some 0⟩)), (7, .pointer (some ⟨b7, 0, some 0⟩)), (11, .pointer (some ⟨b11, 0, some 0⟩)), (13, .pointer (some ⟨b13, 0, some 0⟩)), (15, .pointer (some ⟨b15, 0, some 0⟩))]) (fun i h' => (Wf h' ∧ Grow h h' ∧ At h' h.nx (.cells (shC nm a on c) 43 2 false)) ∧ At h' b7 (.cells (shC nmO (some ⟨B, 0, some 0⟩) on on) 43 2 false) ∧ SlK G h' (.slice (some ⟨B, 0, some 0⟩) on on) on U ∧ At h' b11 (.cells (shC nm a11 on c11) 54 2 false) ∧ SlK G h' (.slice a11 on c11) on LA ∧ At h' b13 (.cells (shC nmO a13 on c13) 54 2 false) ∧ SlK G h' (.slice a13 on c13) on LB ∧ At h' b15 (.cells (shC nm a15 on c15) 54 2 false) ∧ SlK G h' (.slice a15 on c15) on LM) ?_ ?_
 · repeat' (first | with_reducible refine am_ ?_ | ((with_reducible refine al_ ?_); first | ((with_reducible refine ak_ ?_); refine ac_ (ag_ rfl) ?_) | ((with_reducible refine av_ ?_); refine ac_ (bm_ rfl rfl) ?_) | ((with_reducible refine aS_ ?_); refine ac_ (aO_ rfl rfl) ?_) | ((with_reducible refine cG_ ?_); first | ((with_reducible refine bB_ ?_); refine aj_ rfl rfl rfl (ag_ rfl) rfl rfl ?_) | ((with_reducible refine bX_ ?_); first | refine aj_ rfl rfl rfl (aq_ rfl an_ Tryz.underlying9 rfl rfl) rfl rfl ?_ | refine aj_ rfl rfl rfl (ay_ rfl an_ Tryz.underlying54 rfl cc_ rfl rfl) rfl rfl ?_) | ((with_reducible refine bt_ ?_); first | refine aj_ rfl rfl rfl (aa_ (o := 0) rfl Tryz.underlying43 rfl zs9 rfl) rfl rfl ?_ | refine aj_ rfl rfl rfl (aa_ (o := 0) rfl Tryz.underlying54 rfl zs9 rfl) rfl rfl ?_) | ((with_reducible refine bE_ ?_); first | refine aj_ rfl rfl rfl (bm_ rfl rfl) rfl rfl ?_ | refine aj_ rfl rfl rfl (op_sne rfl rfl) rfl rfl ?_) | ((with_reducible refine ig_callv ?_); first | (refine cq_ rfl rfl rfl rfl rfl rfl (q81 _ nm LA _ _ (s11.grow aD_) aZ_) rfl rfl ?_; rintro _ _ ⟨⟨y1, y2, rfl, su⟩, hq⟩; all_goals ((try (have hqn := hq.nx)); (try simp only [bG_] at hqn))) | (refine cq_ rfl rfl rfl rfl rfl rfl (q81 _ nm LM _ _ (s15.grow aD_) aZ_) rfl rfl ?_; rintro _ _ ⟨⟨u1, u2, rfl, sv⟩, hq⟩; all_goals ((try (have hqn := hq.nx)); (try simp only [bG_] at hqn))) | (refine cq_ rfl rfl rfl rfl rfl rfl (q35A _ _ _ (su.grow aD_) aZ_) rfl rfl ?_; rintro _ _ ⟨rfl, hq⟩; all_goals ((try (have hqn := hq.nx)); (try simp only [bG_] at hqn))) | (refine cq_ rfl rfl rfl rfl rfl rfl (q35M _ _ _ (sv.grow aD_) aZ_) rfl rfl ?_; rintro _ _ ⟨rfl, hq⟩; all_goals ((try (have hqn := hq.nx)); (try simp only [bG_] at hqn)))) | (refine bb_ rfl rfl rfl (fun hb => (of_decide_eq_true hb rfl).elim) (fun hb => ?_); (try simp only [bj_, reduceCtorEq] at hb)))) | (with_reducible first | refine ah_ ?_ | refine ao_ ?_ | refine ab_ ?_ | refine az_ ?_) | refine bs_ rfl ?_)
   exact ⟨rfl, (), ai_ ⟨rfl, rfl, rfl, rfl, rfl, rfl, rfl, trivial⟩, ⟨aZ_, aD_, an_⟩, an_, s7.grow aD_, an_, s11.grow aD_, an_, s13.grow aD_, an_, s15.grow aD_⟩
 clear w g x0 l0 gn t7 s7 l7 t11 s11 l11 t13 s13 l13 t15 s15 l15 q35A q35M hx
 rintro _ ha ⟨⟨w, g, x0⟩, t7, s7, t11, s11, t13, s13, t15, s15⟩
 subst hLA hLB hLM
 subst hU
 exact c11b s so v hG hz hin sb w g x0 t7 s7 t11 s11 t13 s13 t15 s15 n13 (by omega) (by omega)
theorem c11 {nm : ByteArray} {a oa : Option Addr} {n c on oc : Nat} {ts : List Trc} {ls : List Lst} {z : Int} (s : SlT G h (.slice a n c) n ts) (so : LsOk G h (.slice oa on oc) on ls) (hz : -128 ≤ z ∧ z ≤ 127) (hw : Wf h) (hG : ∀ a v, laidBase a = some v → G a = some v) : Cf (mz G) (.func (.func 11) #[] #[]) [.agg ⟨shC nm a n c⟩, .slice oa on oc, .int .i8 z] h fun r h' => r = .bool true ∧ Grow h h' := by
 by_cases hS : smallB nm ts = true
 · by_cases hon : on = n
   · have hx := hS
     unfold smallB at hx
     simp only [Bool.and_eq_true, decide_eq_true_eq] at hx
     have v := val_of s hx.2.1
     exact c11m s so hS hon v hx.2.2.1 (smB_of v (by simpa using hx.2.2.2)) hz hw hG
   · exact c11n s so (.inr hon) hw
 · exact c11n s so (.inl (by simpa using hS)) hw
end Go.Proofs.YthnnndkfpamacaaGreatDoor
