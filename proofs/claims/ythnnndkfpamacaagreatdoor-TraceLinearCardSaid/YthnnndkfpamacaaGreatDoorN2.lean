/- Contracts of functions on shots: the check by the reference, short shots, copies. -/
import Derived.Test.YthnnndkfpamacaaGreatDoorN1
set_option linter.all false
/- A shot, checked by the reference; short shots. -/
namespace Go.Proofs.YthnnndkfpamacaaGreatDoor
open Go Go.Ab Go.Fl
attribute [local irreducible] SeqQ BlkQ LpQ RetQ Wc Wo WD WX Op1 Op1q Op1a Cf Cl From
attribute [local irreducible] Ieee.Format.order Ieee.Format.read Ieee.Format.nearest Ieee.Format.write Ieee.Format.mul Ieee.Format.div Ieee.Datum.order Ieee.Datum.integral smpE smp smpW K J U trE hdrE lchk firstNZ isNameB wid mism
set_option maxRecDepth 10000
variable {G : Base} {h : H}
theorem mism_split (w : Nat) (ts : List Trc) (k : Nat) (hk : k < ts.length) : mism w (ts.drop k) = ((!(ts[k]).hole && decide ((ts[k]).n ≠ w)) || mism w (ts.drop (k + 1))) := by
 unfold mism
 rw [List.drop_eq_getElem_cons hk, List.any_cons]
set_option maxHeartbeats 4000000 in
theorem c35 {nm : ByteArray} {a : Option Addr} {n c : Nat} {ts : List Trc} (s : SlT G h (.slice a n c) n ts) (hn : n < 1000000) (hl : ∀ t ∈ ts, t.n < 1000000) (hs : nm.size ≤ 1000000) (hw : Wf h) : Cf (mz G) (.func (.func 35) #[] #[]) [.agg ⟨shC nm a n c⟩] h fun r h' => r = .int .i64 (shE nm ts) ∧ Grow h h' := by
 have hlen := s.len
 have q22 := fun (h : H) => c22 (G := G) (h := h) nm hs
 unfold shE
 rw [hlen]
 by_cases z1 : isNameB nm = false
 · rw [if_pos z1]
   rw [z1] at q22
   refine ar_ 66 [.tmp 2] Tryz.func35 rfl rfl rfl rfl ?_
   repeat' (first | with_reducible refine am_ ?_ | ((with_reducible refine al_ ?_); first | ((with_reducible refine ae_ ?_); refine ac_ (ad_ rfl) ?_) | ((with_reducible refine bw_ ?_); refine ac_ (aL_ rfl ce_ rfl) ?_) | ((with_reducible refine ap_ ?_); refine ac_ (aa_ (o := 0) rfl Tryz.underlying43 rfl zs9 rfl) ?_) | ((with_reducible refine au_ ?_); refine ac_ (aq_ rfl an_ Tryz.underlying9 rfl rfl) ?_) | ((with_reducible refine cj_ ?_); refine ac_ (bv_ rfl) ?_) | ((with_reducible refine aN_ ?_); refine ac_ (aJ_ rfl rfl (q22 _)) ?_)) | (with_reducible first | refine ah_ ?_ | refine ao_ ?_ | refine ab_ ?_ | refine aA_ ?_ | refine bd_ ?_) | refine bP_ rfl ?_)
   all_goals exact rq1 rfl ⟨rfl, aD_⟩
 rw [if_neg z1]
 have z1 : isNameB nm = true := by simpa using z1
 rw [z1] at q22
 by_cases z2 : n = 0
 · rw [if_pos z2]
   refine ar_ 66 [.tmp 2] Tryz.func35 rfl rfl rfl rfl ?_
   repeat' (first | with_reducible refine am_ ?_ | ((with_reducible refine al_ ?_); first | ((with_reducible refine ae_ ?_); refine ac_ (ad_ rfl) ?_) | ((with_reducible refine bw_ ?_); refine ac_ (aL_ rfl ce_ rfl) ?_) | ((with_reducible refine ap_ ?_); first | refine ac_ (aa_ (o := 0) rfl Tryz.underlying43 rfl zs9 rfl) ?_ | refine ac_ (aa_ (o := 1) rfl Tryz.underlying43 rfl cL_ rfl) ?_) | ((with_reducible refine au_ ?_); first | refine ac_ (aq_ rfl an_ Tryz.underlying9 rfl rfl) ?_ | refine ac_ (aq_ rfl an_ Tryz.underlying41 rfl rfl) ?_) | ((with_reducible refine cj_ ?_); refine ac_ (bv_ rfl) ?_) | ((with_reducible refine aC_ ?_); refine ac_ (ax_ rfl Tryz.underlying41) ?_) | ((with_reducible refine av_ ?_); refine ac_ (cM_ rfl rfl) ?_) | ((with_reducible refine aN_ ?_); refine ac_ (aJ_ rfl rfl (q22 _)) ?_)) | (with_reducible first | refine ah_ ?_ | refine ao_ ?_ | refine ab_ ?_ | refine az_ ?_ | refine aA_ ?_ | refine bd_ ?_) | refine bs_ rfl ?_ | (refine aK_ rfl (fun hb => ?_) (fun hb => aH_ hb); (try simp only [bj_, reduceCtorEq] at hb)))
   all_goals exact rq1 rfl ⟨rfl, aD_⟩
 rw [if_neg z2]
 by_cases z3 : 64 < n
 · rw [if_pos z3]
   refine ar_ 66 [.tmp 2] Tryz.func35 rfl rfl rfl rfl ?_
   repeat' (first | with_reducible refine am_ ?_ | ((with_reducible refine al_ ?_); first | ((with_reducible refine ae_ ?_); refine ac_ (ad_ rfl) ?_) | ((with_reducible refine bw_ ?_); refine ac_ (aL_ rfl ce_ rfl) ?_) | ((with_reducible refine ap_ ?_); first | refine ac_ (aa_ (o := 0) rfl Tryz.underlying43 rfl zs9 rfl) ?_ | refine ac_ (aa_ (o := 1) rfl Tryz.underlying43 rfl cL_ rfl) ?_) | ((with_reducible refine au_ ?_); first | refine ac_ (aq_ rfl an_ Tryz.underlying9 rfl rfl) ?_ | refine ac_ (aq_ rfl an_ Tryz.underlying41 rfl rfl) ?_) | ((with_reducible refine cj_ ?_); refine ac_ (bv_ rfl) ?_) | ((with_reducible refine aC_ ?_); refine ac_ (ax_ rfl Tryz.underlying41) ?_) | ((with_reducible refine av_ ?_); first | refine ac_ (cM_ rfl rfl) ?_ | refine ac_ (bZ_ rfl rfl) ?_) | ((with_reducible refine aN_ ?_); refine ac_ (aJ_ rfl rfl (q22 _)) ?_)) | (with_reducible first | refine ah_ ?_ | refine ao_ ?_ | refine ab_ ?_ | refine az_ ?_ | refine aA_ ?_ | refine bd_ ?_) | refine bs_ rfl ?_ | (refine aK_ rfl (fun hb => aH_ hb) (fun hb => ?_); (try simp only [bj_, reduceCtorEq] at hb)) | (refine aK_ rfl (fun hb => ?_) (fun hb => aH_ hb); (try simp only [bj_, reduceCtorEq] at hb)))
   all_goals exact rq1 rfl ⟨rfl, aD_⟩
 rw [if_neg z3]
 refine ar_ 66 [.tmp 2] Tryz.func35 rfl rfl rfl rfl ?_
 repeat' (first | with_reducible refine am_ ?_ | ((with_reducible refine al_ ?_); first | ((with_reducible refine ae_ ?_); refine ac_ (ad_ rfl) ?_) | ((with_reducible refine bw_ ?_); refine ac_ (aL_ rfl ce_ rfl) ?_) | ((with_reducible refine ap_ ?_); first | refine ac_ (aa_ (o := 0) rfl Tryz.underlying43 rfl zs9 rfl) ?_ | refine ac_ (aa_ (o := 1) rfl Tryz.underlying43 rfl cL_ rfl) ?_) | ((with_reducible refine au_ ?_); first | refine ac_ (aq_ rfl an_ Tryz.underlying9 rfl rfl) ?_ | refine ac_ (aq_ rfl an_ Tryz.underlying41 rfl rfl) ?_) | ((with_reducible refine cj_ ?_); refine ac_ (bv_ rfl) ?_) | ((with_reducible refine aC_ ?_); refine ac_ (ax_ rfl Tryz.underlying41) ?_) | ((with_reducible refine av_ ?_); first | refine ac_ (cM_ rfl rfl) ?_ | refine ac_ (bZ_ rfl rfl) ?_) | ((with_reducible refine aN_ ?_); refine ac_ (aJ_ rfl rfl (q22 _)) ?_)) | (with_reducible first | refine ah_ ?_ | refine ao_ ?_ | refine ab_ ?_ | refine az_ ?_ | refine at_ ?_) | refine bs_ rfl ?_ | (refine aK_ rfl (fun hb => aH_ hb) (fun hb => ?_); (try simp only [bj_, reduceCtorEq] at hb)))
 refine bq_ (fun k => n - k) (fun k : Nat => [(1, .pointer (some ⟨h.nx, 0, some 0⟩)), (3, .int .i64 k)]) (fun k h' => (Wf h' ∧ Grow h h' ∧ At h' h.nx (.cells (shC nm a n c) 43 2 false)) ∧ k ≤ n ∧ firstNZ ((ts.drop k).map trE) = firstNZ (ts.map trE)) 0 (ai_ ⟨rfl, rfl, trivial⟩) ⟨⟨aZ_, aD_, an_⟩, Nat.zero_le _, rfl⟩ ?_
 rintro k h' ⟨⟨hw', hgr, hat⟩, hk, hi⟩
 have hgn := hgr.nx
 by_cases hlt : k < n
 · obtain ⟨ad, h1, h3⟩ := cA_ (s.grow hgr) Tryz.underlying41 cw_ (i := (k : Int)) hlt rfl
   have hm : ts[k]'(by omega) ∈ ts := List.getElem_mem _
   rw [List.drop_eq_getElem_cons (by omega), List.map_cons, firstNZ] at hi
   obtain ⟨t, ht⟩ : ∃ t, ts[k]'(by omega) = t := ⟨_, rfl⟩
   rw [ht] at h3 hm hi
   have q36 := fun (h2 : H) (g : Grow h h2) (hw2 : Wf h2) => c36 ((s.ok t hm).grow g) (hl t hm) hw2
   obtain ⟨E, hE⟩ : ∃ E, trE t = E := ⟨_, rfl⟩
   rw [hE] at q36 hi
   clear hE ht hm
   obtain ⟨hd, hole, sa, tn, tc, tl⟩ := t
   dsimp only [Trc.cells] at h3
   by_cases hE0 : E = 0
   · rw [if_pos hE0] at hi
     repeat' (first | with_reducible refine am_ ?_ | ((with_reducible refine al_ ?_); first | ((with_reducible refine ak_ ?_); refine ac_ (ag_ rfl) ?_) | ((with_reducible refine ae_ ?_); refine ac_ (ad_ rfl) ?_) | ((with_reducible refine aw_ ?_); refine ac_ (as_ rfl rfl h1) ?_) | ((with_reducible refine au_ ?_); first | refine ac_ (bJ_ rfl Tryz.underlying47 rfl cw_ h3.all) ?_ | refine ac_ (aq_ rfl an_ Tryz.underlying41 rfl rfl) ?_) | ((with_reducible refine ap_ ?_); refine ac_ (aa_ (o := 1) rfl Tryz.underlying43 rfl cL_ rfl) ?_) | ((with_reducible refine aC_ ?_); refine ac_ (ax_ rfl Tryz.underlying41) ?_) | ((with_reducible refine av_ ?_); first | refine ac_ (aF_ rfl rfl) ?_ | refine ac_ (bm_ rfl rfl) ?_ | refine ac_ (aR_ rfl rfl (w64 (by omega) (by omega))) ?_) | ((with_reducible refine aN_ ?_); (refine aW_ rfl rfl rfl rfl ((q36 _ aD_ aZ_)) rfl rfl ?_; rintro _ _ ⟨rfl, hq⟩; all_goals ((try (have hqn := hq.nx)); (try simp only [bG_] at hqn))))) | (with_reducible first | refine ah_ ?_ | refine ao_ ?_ | refine ab_ ?_ | refine az_ ?_ | refine at_ ?_ | refine aP_ ?_) | (refine aK_ rfl (fun hb => aH_ hb) (fun hb => ?_); (try simp only [bj_, reduceCtorEq] at hb)) | (refine aK_ rfl (fun hb => ?_) (fun hb => aH_ hb); (try simp only [bj_, reduceCtorEq] at hb)))
     all_goals exact aX_ (k + 1) (by omega) (ai_ ⟨rfl, rfl, trivial⟩) ⟨⟨aZ_, aD_, an_⟩, by omega, hi⟩
   · rw [if_neg hE0] at hi
     repeat' (first | with_reducible refine am_ ?_ | ((with_reducible refine al_ ?_); first | ((with_reducible refine ak_ ?_); refine ac_ (ag_ rfl) ?_) | ((with_reducible refine ae_ ?_); refine ac_ (ad_ rfl) ?_) | ((with_reducible refine aw_ ?_); refine ac_ (as_ rfl rfl h1) ?_) | ((with_reducible refine au_ ?_); first | refine ac_ (bJ_ rfl Tryz.underlying47 rfl cw_ h3.all) ?_ | refine ac_ (aq_ rfl an_ Tryz.underlying41 rfl rfl) ?_) | ((with_reducible refine ap_ ?_); refine ac_ (aa_ (o := 1) rfl Tryz.underlying43 rfl cL_ rfl) ?_) | ((with_reducible refine aC_ ?_); refine ac_ (ax_ rfl Tryz.underlying41) ?_) | ((with_reducible refine av_ ?_); first | refine ac_ (aF_ rfl rfl) ?_ | refine ac_ (bm_ rfl rfl) ?_) | ((with_reducible refine aN_ ?_); (refine aW_ rfl rfl rfl rfl ((q36 _ aD_ aZ_)) rfl rfl ?_; rintro _ _ ⟨rfl, hq⟩; all_goals ((try (have hqn := hq.nx)); (try simp only [bG_] at hqn))))) | (with_reducible first | refine ah_ ?_ | refine ao_ ?_ | refine ab_ ?_ | refine az_ ?_ | refine aA_ ?_ | refine at_ ?_ | refine bV_ ?_ | refine bd_ ?_ | refine cx_ ?_) | (refine aK_ rfl (fun hb => ?_) (fun hb => aH_ hb); (try simp only [bj_, reduceCtorEq] at hb)))
     all_goals
       refine rq1 rfl ⟨?_, aD_⟩
       rw [← hi, if_pos hE0]
 rw [List.drop_eq_nil_of_le (by omega)] at hi
 have z4 : firstNZ (ts.map trE) = 0 := by rw [← hi]; unfold firstNZ; rfl
 rw [if_neg (by simpa using z4)]
 clear hi
 repeat' (first | with_reducible refine am_ ?_ | ((with_reducible refine al_ ?_); first | ((with_reducible refine ak_ ?_); refine ac_ (ag_ rfl) ?_) | ((with_reducible refine ae_ ?_); refine ac_ (ad_ rfl) ?_) | ((with_reducible refine ap_ ?_); refine ac_ (aa_ (o := 1) rfl Tryz.underlying43 rfl cL_ rfl) ?_) | ((with_reducible refine au_ ?_); first | refine ac_ (aq_ rfl an_ Tryz.underlying41 rfl rfl) ?_ | refine ac_ (ay_ rfl an_ Tryz.underlying43 rfl ce_ rfl rfl) ?_) | ((with_reducible refine aC_ ?_); refine ac_ (ax_ rfl Tryz.underlying41) ?_) | ((with_reducible refine av_ ?_); refine ac_ (aF_ rfl rfl) ?_) | ((with_reducible refine bR_ ?_); refine ac_ (bD_ rfl rfl) ?_) | ((with_reducible refine ba_ (f := 105) ?_); (refine aW_ rfl rfl rfl rfl (c105 (s.grow aD_) hn aZ_) rfl rfl ?_; rintro _ _ ⟨rfl, hq⟩; all_goals ((try (have hqn := hq.nx)); (try simp only [bG_] at hqn))))) | (with_reducible first | refine ah_ ?_ | refine ao_ ?_ | refine ab_ ?_ | refine be_ ?_ | refine at_ ?_ | refine bf_ ?_ | refine bi_ ?_) | refine bS_ rfl ?_ | (refine aK_ rfl (fun hb => aH_ hb) (fun hb => ?_); (try simp only [bj_, reduceCtorEq] at hb)))
 obtain ⟨w, hwd⟩ : ∃ w, wid ts = w := ⟨_, rfl⟩
 rw [hwd]
 refine bq_ (fun k => n - k) (fun k : Nat => [(1, .pointer (some ⟨h.nx, 0, some 0⟩)), (5, .int .i64 (w : Nat)), (7, .int .i64 k)]) (fun k h' => (Wf h' ∧ Grow h h' ∧ At h' h.nx (.cells (shC nm a n c) 43 2 false)) ∧ k ≤ n ∧ mism w (ts.drop k) = mism w ts) 0 (ai_ ⟨rfl, rfl, rfl, trivial⟩) ⟨⟨aZ_, aD_, an_⟩, Nat.zero_le _, rfl⟩ ?_
 clear hgn hlt hgr hat hw' hk
 rintro j h2 ⟨⟨hw2, hgr, hat⟩, hk, hi⟩
 have hgn := hgr.nx
 by_cases hlt : j < n
 · obtain ⟨ad, h1, h3⟩ := cA_ (s.grow hgr) Tryz.underlying41 cw_ (i := (j : Int)) hlt rfl
   rw [mism_split w ts j (by omega)] at hi
   obtain ⟨t, ht⟩ : ∃ t, ts[j]'(by omega) = t := ⟨_, rfl⟩
   rw [ht] at h3 hi
   obtain ⟨hd, hole, sa, tn, tc, tl⟩ := t
   dsimp only [Trc.cells] at h3 hi
   have f1 := h3.get 8 _ rfl
   have f2 := h3.get 9 _ rfl
   clear h3 ht
   cases hole with
   | true =>
     repeat' (first | with_reducible refine am_ ?_ | ((with_reducible refine al_ ?_); first | ((with_reducible refine ak_ ?_); refine ac_ (ag_ rfl) ?_) | ((with_reducible refine ae_ ?_); refine ac_ (ad_ rfl) ?_) | ((with_reducible refine aw_ ?_); refine ac_ (as_ rfl rfl h1) ?_) | ((with_reducible refine au_ ?_); first | refine ac_ (aI_ rfl Tryz.underlying4 rfl f1) ?_ | refine ac_ (aq_ rfl an_ Tryz.underlying41 rfl rfl) ?_) | ((with_reducible refine ap_ ?_); first | refine ac_ (aa_ (o := 1) rfl Tryz.underlying43 rfl cL_ rfl) ?_ | refine ac_ (aa_ (o := 8) rfl Tryz.underlying47 rfl zs4 rfl) ?_) | ((with_reducible refine cj_ ?_); refine ac_ (bv_ rfl) ?_) | ((with_reducible refine aC_ ?_); refine ac_ (ax_ rfl Tryz.underlying41) ?_) | ((with_reducible refine av_ ?_); first | refine ac_ (aF_ rfl rfl) ?_ | refine ac_ (aR_ rfl rfl (w64 (by omega) (by omega))) ?_) | ((with_reducible refine aS_ ?_); refine ac_ (aO_ rfl rfl) ?_) | ((with_reducible refine cG_ ?_); refine bC_ rfl rfl rfl rfl rfl rfl ?_)) | (with_reducible first | refine ah_ ?_ | refine ao_ ?_ | refine ab_ ?_ | refine az_ ?_ | refine at_ ?_ | refine aP_ ?_) | refine bs_ rfl ?_ | (refine aK_ rfl (fun hb => ?_) (fun hb => aH_ hb); (try simp only [bj_, reduceCtorEq] at hb)))
     all_goals exact aX_ (j + 1) (by omega) (ai_ ⟨rfl, rfl, rfl, trivial⟩) ⟨⟨aZ_, aD_, an_⟩, by omega, by simpa using hi⟩
   | false =>
     by_cases hne : tn = w
     · repeat' (first | with_reducible refine am_ ?_ | ((with_reducible refine al_ ?_); first | ((with_reducible refine ak_ ?_); refine ac_ (ag_ rfl) ?_) | ((with_reducible refine ae_ ?_); refine ac_ (ad_ rfl) ?_) | ((with_reducible refine aw_ ?_); refine ac_ (as_ rfl rfl h1) ?_) | ((with_reducible refine au_ ?_); first | refine ac_ (aI_ rfl Tryz.underlying4 rfl f1) ?_ | refine ac_ (aq_ rfl an_ Tryz.underlying41 rfl rfl) ?_) | ((with_reducible refine ap_ ?_); first | refine ac_ (aa_ (o := 1) rfl Tryz.underlying43 rfl cL_ rfl) ?_ | refine ac_ (aa_ (o := 8) rfl Tryz.underlying47 rfl zs4 rfl) ?_) | ((with_reducible refine cj_ ?_); refine ac_ (bv_ rfl) ?_) | ((with_reducible refine aC_ ?_); refine ac_ (ax_ rfl Tryz.underlying41) ?_) | ((with_reducible refine av_ ?_); first | refine ac_ (aF_ rfl rfl) ?_ | refine ac_ (aR_ rfl rfl (w64 (by omega) (by omega))) ?_) | ((with_reducible refine aS_ ?_); refine ac_ (aT_ rfl rfl) ?_) | ((with_reducible refine cG_ ?_); first | ((with_reducible refine bB_ ?_); refine aj_ rfl rfl rfl (ag_ rfl) rfl rfl ?_) | ((with_reducible refine ig_indexAddr ?_); refine aj_ rfl rfl rfl (as_ rfl rfl h1) rfl rfl ?_) | ((with_reducible refine bX_ ?_); first | refine aj_ rfl rfl rfl (aI_ rfl Tryz.underlying45 rfl f2) rfl rfl ?_ | refine aj_ rfl rfl rfl (aq_ rfl an_ Tryz.underlying41 rfl rfl) rfl rfl ?_) | ((with_reducible refine bt_ ?_); first | refine aj_ rfl rfl rfl (aa_ (o := 1) rfl Tryz.underlying43 rfl cL_ rfl) rfl rfl ?_ | refine aj_ rfl rfl rfl (aa_ (o := 9) rfl Tryz.underlying47 rfl zs45 rfl) rfl rfl ?_) | ((with_reducible refine bW_ ?_); refine aj_ rfl rfl rfl (ax_ rfl Tryz.underlying45) rfl rfl ?_) | ((with_reducible refine bE_ ?_); refine aj_ rfl rfl rfl (bm_ rfl rfl) rfl rfl ?_))) | (with_reducible first | refine ah_ ?_ | refine ao_ ?_ | refine ab_ ?_ | refine az_ ?_ | refine at_ ?_ | refine aP_ ?_) | (refine aK_ rfl (fun hb => aH_ hb) (fun hb => ?_); (try simp only [bj_, reduceCtorEq] at hb)) | (refine aK_ rfl (fun hb => ?_) (fun hb => aH_ hb); (try simp only [bj_, reduceCtorEq] at hb)))
       all_goals exact aX_ (j + 1) (by omega) (ai_ ⟨rfl, rfl, rfl, trivial⟩) ⟨⟨aZ_, aD_, an_⟩, by omega, by simpa [hne] using hi⟩
     · repeat' (first | with_reducible refine am_ ?_ | ((with_reducible refine al_ ?_); first | ((with_reducible refine ak_ ?_); refine ac_ (ag_ rfl) ?_) | ((with_reducible refine ae_ ?_); refine ac_ (ad_ rfl) ?_) | ((with_reducible refine aw_ ?_); refine ac_ (as_ rfl rfl h1) ?_) | ((with_reducible refine au_ ?_); first | refine ac_ (aI_ rfl Tryz.underlying4 rfl f1) ?_ | refine ac_ (aq_ rfl an_ Tryz.underlying41 rfl rfl) ?_) | ((with_reducible refine ap_ ?_); first | refine ac_ (aa_ (o := 1) rfl Tryz.underlying43 rfl cL_ rfl) ?_ | refine ac_ (aa_ (o := 8) rfl Tryz.underlying47 rfl zs4 rfl) ?_) | ((with_reducible refine cj_ ?_); refine ac_ (bv_ rfl) ?_) | ((with_reducible refine aC_ ?_); refine ac_ (ax_ rfl Tryz.underlying41) ?_) | ((with_reducible refine av_ ?_); refine ac_ (aF_ rfl rfl) ?_) | ((with_reducible refine aS_ ?_); refine ac_ (aT_ rfl rfl) ?_) | ((with_reducible refine cG_ ?_); first | ((with_reducible refine bB_ ?_); refine aj_ rfl rfl rfl (ag_ rfl) rfl rfl ?_) | ((with_reducible refine ig_indexAddr ?_); refine aj_ rfl rfl rfl (as_ rfl rfl h1) rfl rfl ?_) | ((with_reducible refine bX_ ?_); first | refine aj_ rfl rfl rfl (aI_ rfl Tryz.underlying45 rfl f2) rfl rfl ?_ | refine aj_ rfl rfl rfl (aq_ rfl an_ Tryz.underlying41 rfl rfl) rfl rfl ?_) | ((with_reducible refine bt_ ?_); first | refine aj_ rfl rfl rfl (aa_ (o := 1) rfl Tryz.underlying43 rfl cL_ rfl) rfl rfl ?_ | refine aj_ rfl rfl rfl (aa_ (o := 9) rfl Tryz.underlying47 rfl zs45 rfl) rfl rfl ?_) | ((with_reducible refine bW_ ?_); refine aj_ rfl rfl rfl (ax_ rfl Tryz.underlying45) rfl rfl ?_) | ((with_reducible refine bE_ ?_); refine aj_ rfl rfl rfl (bm_ rfl rfl) rfl rfl ?_))) | (with_reducible first | refine ah_ ?_ | refine ao_ ?_ | refine ab_ ?_ | refine az_ ?_ | refine aA_ ?_ | refine at_ ?_ | refine bV_ ?_ | refine bd_ ?_ | refine cx_ ?_) | (refine aK_ rfl (fun hb => ?_) (fun hb => aH_ hb); (try simp only [bj_, reduceCtorEq] at hb)))
       all_goals
         refine rq1 rfl ⟨?_, aD_⟩
         rw [if_pos (by rw [← hi]; simp [hne])]
 · repeat' (first | with_reducible refine am_ ?_ | ((with_reducible refine al_ ?_); first | ((with_reducible refine ak_ ?_); refine ac_ (ag_ rfl) ?_) | ((with_reducible refine ae_ ?_); refine ac_ (ad_ rfl) ?_) | ((with_reducible refine ap_ ?_); refine ac_ (aa_ (o := 1) rfl Tryz.underlying43 rfl cL_ rfl) ?_) | ((with_reducible refine au_ ?_); refine ac_ (aq_ rfl an_ Tryz.underlying41 rfl rfl) ?_) | ((with_reducible refine aC_ ?_); refine ac_ (ax_ rfl Tryz.underlying41) ?_) | ((with_reducible refine av_ ?_); refine ac_ (aF_ rfl rfl) ?_)) | (with_reducible first | refine ah_ ?_ | refine ao_ ?_ | refine ab_ ?_ | refine aA_ ?_ | refine be_ ?_ | refine bf_ ?_ | refine bi_ ?_) | refine bS_ rfl ?_ | (refine aK_ rfl (fun hb => ?_) (fun hb => ?_) <;> (try simp only [bj_, reduceCtorEq] at hb) <;> (try (exfalso; omega))))
   refine rq1 rfl ⟨?_, hgr⟩
   rw [List.drop_eq_nil_of_le (by omega)] at hi
   rw [if_neg (by rw [← hi]; unfold mism; simp)]
def shortT (t : Trc) : Bool := decide (t.n ≤ 32 ∨ t.n = 1025)
def shortB (nm : ByteArray) (ts : List Trc) : Bool := decide (nm.size ≤ 60) && decide (ts.length ≤ 6 ∨ ts.length = 65) && ts.all shortT
set_option maxHeartbeats 4000000 in
theorem c28 {nm : ByteArray} {a : Option Addr} {n c : Nat} {ts : List Trc} (s : SlT G h (.slice a n c) n ts) (hw : Wf h) : Cf (mz G) (.func (.func 28) #[] #[]) [.agg ⟨shC nm a n c⟩] h fun r h' => r = .bool (shortB nm ts) ∧ Grow h h' := by
 have hlen := s.len
 unfold shortB
 rw [hlen]
 by_cases z1 : nm.size ≤ 60
 · rw [decide_eq_true z1, Bool.true_and]
   by_cases z2 : n ≤ 6 ∨ n = 65
   · rw [decide_eq_true z2, Bool.true_and]
     rcases z2 with z2 | z2
     all_goals
       refine ar_ 34 [.tmp 2] Tryz.func28 rfl rfl rfl rfl ?_
       repeat' (first | with_reducible refine am_ ?_ | ((with_reducible refine al_ ?_); first | ((with_reducible refine ak_ ?_); refine ac_ (ag_ rfl) ?_) | ((with_reducible refine ae_ ?_); refine ac_ (ad_ rfl) ?_) | ((with_reducible refine bw_ ?_); refine ac_ (aL_ rfl ce_ rfl) ?_) | ((with_reducible refine ap_ ?_); refine ac_ (aa_ (o := 0) rfl Tryz.underlying43 rfl zs9 rfl) ?_) | ((with_reducible refine au_ ?_); refine ac_ (aq_ rfl an_ Tryz.underlying9 rfl rfl) ?_) | ((with_reducible refine aC_ ?_); refine ac_ (cg_ rfl Tryz.underlying9) ?_) | ((with_reducible refine av_ ?_); refine ac_ (bZ_ rfl rfl) ?_) | ((with_reducible refine aS_ ?_); refine ac_ (aO_ rfl rfl) ?_) | ((with_reducible refine cG_ ?_); first | refine bC_ rfl rfl rfl rfl rfl rfl ?_ | ((with_reducible refine bB_ ?_); refine aj_ rfl rfl rfl (ag_ rfl) rfl rfl ?_) | ((with_reducible refine bt_ ?_); refine aj_ rfl rfl rfl (aa_ (o := 1) rfl Tryz.underlying43 rfl cL_ rfl) rfl rfl ?_) | ((with_reducible refine bX_ ?_); refine aj_ rfl rfl rfl (aq_ rfl an_ Tryz.underlying41 rfl rfl) rfl rfl ?_) | ((with_reducible refine bW_ ?_); refine aj_ rfl rfl rfl (ax_ rfl Tryz.underlying41) rfl rfl ?_) | ((with_reducible refine bE_ ?_); first | refine aj_ rfl rfl rfl (bZ_ rfl rfl) rfl rfl ?_ | refine aj_ rfl rfl rfl (bm_ rfl rfl) rfl rfl ?_) | ((with_reducible refine ig_pick ?_); first | refine aj_ rfl rfl rfl (aT_ rfl rfl) rfl rfl ?_ | refine aj_ rfl rfl rfl (aO_ rfl rfl) rfl rfl ?_) | (refine bb_ rfl rfl rfl (fun hb => aH_ hb) (fun hb => ?_); (try simp only [bj_, reduceCtorEq] at hb)) | (refine bb_ rfl rfl rfl (fun hb => ?_) (fun hb => aH_ hb); (try simp only [bj_, reduceCtorEq] at hb)))) | (with_reducible first | refine ah_ ?_ | refine ao_ ?_ | refine ab_ ?_ | refine az_ ?_ | refine at_ ?_) | refine bs_ rfl ?_ | (refine aK_ rfl (fun hb => aH_ hb) (fun hb => ?_); (try simp only [bj_, reduceCtorEq] at hb)))
       refine bq_ (fun k => n - k) (fun k : Nat => [(1, .pointer (some ⟨h.nx, 0, some 0⟩)), (3, .int .i64 k)]) (fun k h' => (Wf h' ∧ Grow h h' ∧ At h' h.nx (.cells (shC nm a n c) 43 2 false)) ∧ k ≤ n ∧ (ts.drop k).all shortT = ts.all shortT) 0 (ai_ ⟨rfl, rfl, trivial⟩) ⟨⟨aZ_, aD_, an_⟩, Nat.zero_le _, rfl⟩ ?_
       rintro k h' ⟨⟨hw', hgr, hat⟩, hk, hi⟩
       have hgn := hgr.nx
       by_cases hlt : k < n
       · obtain ⟨ad, h1, h3⟩ := cA_ (s.grow hgr) Tryz.underlying41 cw_ (i := (k : Int)) hlt rfl
         rw [List.drop_eq_getElem_cons (by omega), List.all_cons] at hi
         obtain ⟨t, ht⟩ : ∃ t, ts[k]'(by omega) = t := ⟨_, rfl⟩
         rw [ht] at h3 hi
         have q29 := fun (h : H) => c29 (G := G) (h := h) (t := t)
         obtain ⟨E, hE⟩ : ∃ E, decide (t.n ≤ 32 ∨ t.n = 1025) = E := ⟨_, rfl⟩
         have hE2 : shortT t = E := hE
         rw [hE] at q29
         rw [hE2] at hi
         clear hE hE2 ht
         obtain ⟨hd, hole, sa, tn, tc, tl⟩ := t
         dsimp only [Trc.cells] at h3
         cases E with
         | true =>
           repeat' (first | with_reducible refine am_ ?_ | ((with_reducible refine al_ ?_); first | ((with_reducible refine ak_ ?_); refine ac_ (ag_ rfl) ?_) | ((with_reducible refine ae_ ?_); refine ac_ (ad_ rfl) ?_) | ((with_reducible refine aw_ ?_); refine ac_ (as_ rfl rfl h1) ?_) | ((with_reducible refine au_ ?_); first | refine ac_ (bJ_ rfl Tryz.underlying47 rfl cw_ h3.all) ?_ | refine ac_ (aq_ rfl an_ Tryz.underlying41 rfl rfl) ?_) | ((with_reducible refine ap_ ?_); refine ac_ (aa_ (o := 1) rfl Tryz.underlying43 rfl cL_ rfl) ?_) | ((with_reducible refine aC_ ?_); refine ac_ (ax_ rfl Tryz.underlying41) ?_) | ((with_reducible refine av_ ?_); first | refine ac_ (aF_ rfl rfl) ?_ | refine ac_ (aR_ rfl rfl (w64 (by omega) (by omega))) ?_) | ((with_reducible refine cj_ ?_); refine ac_ (bv_ rfl) ?_) | ((with_reducible refine aN_ ?_); (refine aW_ rfl rfl rfl rfl ((q29 _)) rfl rfl ?_; rintro _ _ ⟨rfl, hq⟩; all_goals ((try (have hqn := hq.nx)); (try simp only [bG_] at hqn))))) | (with_reducible first | refine ah_ ?_ | refine ao_ ?_ | refine ab_ ?_ | refine az_ ?_ | refine at_ ?_ | refine aP_ ?_) | refine bs_ rfl ?_ | (refine aK_ rfl (fun hb => ?_) (fun hb => aH_ hb); (try simp only [bj_, reduceCtorEq] at hb)))
           all_goals exact aX_ (k + 1) (by omega) (ai_ ⟨rfl, rfl, trivial⟩) ⟨⟨aZ_, aD_, an_⟩, by omega, by simpa using hi⟩
         | false =>
           repeat' (first | with_reducible refine am_ ?_ | ((with_reducible refine al_ ?_); first | ((with_reducible refine ak_ ?_); refine ac_ (ag_ rfl) ?_) | ((with_reducible refine ae_ ?_); refine ac_ (ad_ rfl) ?_) | ((with_reducible refine aw_ ?_); refine ac_ (as_ rfl rfl h1) ?_) | ((with_reducible refine au_ ?_); first | refine ac_ (bJ_ rfl Tryz.underlying47 rfl cw_ h3.all) ?_ | refine ac_ (aq_ rfl an_ Tryz.underlying41 rfl rfl) ?_) | ((with_reducible refine ap_ ?_); refine ac_ (aa_ (o := 1) rfl Tryz.underlying43 rfl cL_ rfl) ?_) | ((with_reducible refine aC_ ?_); refine ac_ (ax_ rfl Tryz.underlying41) ?_) | ((with_reducible refine av_ ?_); refine ac_ (aF_ rfl rfl) ?_) | ((with_reducible refine cj_ ?_); refine ac_ (bv_ rfl) ?_) | ((with_reducible refine aN_ ?_); (refine aW_ rfl rfl rfl rfl ((q29 _)) rfl rfl ?_; rintro _ _ ⟨rfl, hq⟩; all_goals ((try (have hqn := hq.nx)); (try simp only [bG_] at hqn))))) | (with_reducible first | refine ah_ ?_ | refine ao_ ?_ | refine ab_ ?_ | refine az_ ?_ | refine aA_ ?_ | refine at_ ?_ | refine bV_ ?_ | refine bd_ ?_ | refine cx_ ?_) | refine bP_ rfl ?_ | (refine aK_ rfl (fun hb => ?_) (fun hb => aH_ hb); (try simp only [bj_, reduceCtorEq] at hb)))
           all_goals
             refine rq1 rfl ⟨?_, aD_⟩
             rw [← hi]; rfl
       · repeat' (first | with_reducible refine am_ ?_ | ((with_reducible refine al_ ?_); first | ((with_reducible refine ak_ ?_); refine ac_ (ag_ rfl) ?_) | ((with_reducible refine ae_ ?_); refine ac_ (ad_ rfl) ?_) | ((with_reducible refine ap_ ?_); refine ac_ (aa_ (o := 1) rfl Tryz.underlying43 rfl cL_ rfl) ?_) | ((with_reducible refine au_ ?_); refine ac_ (aq_ rfl an_ Tryz.underlying41 rfl rfl) ?_) | ((with_reducible refine aC_ ?_); refine ac_ (ax_ rfl Tryz.underlying41) ?_) | ((with_reducible refine av_ ?_); refine ac_ (aF_ rfl rfl) ?_)) | (with_reducible first | refine ah_ ?_ | refine ao_ ?_ | refine ab_ ?_ | refine aA_ ?_ | refine be_ ?_ | refine bf_ ?_ | refine bi_ ?_) | refine bS_ rfl ?_ | (refine aK_ rfl (fun hb => ?_) (fun hb => ?_) <;> (try simp only [bj_, reduceCtorEq] at hb) <;> (try (exfalso; omega))))
         refine rq1 rfl ⟨?_, hgr⟩
         rw [List.drop_eq_nil_of_le (by omega)] at hi
         rw [← hi]; rfl
   · rw [decide_eq_false z2]
     refine ar_ 34 [.tmp 2] Tryz.func28 rfl rfl rfl rfl ?_
     repeat' (first | with_reducible refine am_ ?_ | ((with_reducible refine al_ ?_); first | ((with_reducible refine ak_ ?_); refine ac_ (ag_ rfl) ?_) | ((with_reducible refine ae_ ?_); refine ac_ (ad_ rfl) ?_) | ((with_reducible refine bw_ ?_); refine ac_ (aL_ rfl ce_ rfl) ?_) | ((with_reducible refine ap_ ?_); refine ac_ (aa_ (o := 0) rfl Tryz.underlying43 rfl zs9 rfl) ?_) | ((with_reducible refine au_ ?_); refine ac_ (aq_ rfl an_ Tryz.underlying9 rfl rfl) ?_) | ((with_reducible refine aC_ ?_); refine ac_ (cg_ rfl Tryz.underlying9) ?_) | ((with_reducible refine av_ ?_); refine ac_ (bZ_ rfl rfl) ?_) | ((with_reducible refine aS_ ?_); refine ac_ (aO_ rfl rfl) ?_) | ((with_reducible refine cG_ ?_); first | ((with_reducible refine bB_ ?_); refine aj_ rfl rfl rfl (ag_ rfl) rfl rfl ?_) | ((with_reducible refine bt_ ?_); refine aj_ rfl rfl rfl (aa_ (o := 1) rfl Tryz.underlying43 rfl cL_ rfl) rfl rfl ?_) | ((with_reducible refine bX_ ?_); refine aj_ rfl rfl rfl (aq_ rfl an_ Tryz.underlying41 rfl rfl) rfl rfl ?_) | ((with_reducible refine bW_ ?_); refine aj_ rfl rfl rfl (ax_ rfl Tryz.underlying41) rfl rfl ?_) | ((with_reducible refine bE_ ?_); first | refine aj_ rfl rfl rfl (bZ_ rfl rfl) rfl rfl ?_ | refine aj_ rfl rfl rfl (bm_ rfl rfl) rfl rfl ?_) | ((with_reducible refine ig_pick ?_); refine aj_ rfl rfl rfl (aT_ rfl rfl) rfl rfl ?_) | (refine bb_ rfl rfl rfl (fun hb => aH_ hb) (fun hb => ?_); (try simp only [bj_, reduceCtorEq] at hb)) | (refine bb_ rfl rfl rfl (fun hb => ?_) (fun hb => aH_ hb); (try simp only [bj_, reduceCtorEq] at hb)))) | (with_reducible first | refine ah_ ?_ | refine ao_ ?_ | refine ab_ ?_ | refine aA_ ?_ | refine bd_ ?_) | (refine aK_ rfl (fun hb => ?_) (fun hb => aH_ hb); (try simp only [bj_, reduceCtorEq] at hb)))
     all_goals exact rq1 rfl ⟨rfl, aD_⟩
 · rw [decide_eq_false z1]
   refine ar_ 34 [.tmp 2] Tryz.func28 rfl rfl rfl rfl ?_
   repeat' (first | with_reducible refine am_ ?_ | ((with_reducible refine al_ ?_); first | ((with_reducible refine ak_ ?_); refine ac_ (ag_ rfl) ?_) | ((with_reducible refine ae_ ?_); refine ac_ (ad_ rfl) ?_) | ((with_reducible refine bw_ ?_); refine ac_ (aL_ rfl ce_ rfl) ?_) | ((with_reducible refine ap_ ?_); refine ac_ (aa_ (o := 0) rfl Tryz.underlying43 rfl zs9 rfl) ?_) | ((with_reducible refine au_ ?_); refine ac_ (aq_ rfl an_ Tryz.underlying9 rfl rfl) ?_) | ((with_reducible refine aC_ ?_); refine ac_ (cg_ rfl Tryz.underlying9) ?_) | ((with_reducible refine av_ ?_); refine ac_ (bZ_ rfl rfl) ?_) | ((with_reducible refine aS_ ?_); refine ac_ (aT_ rfl rfl) ?_) | ((with_reducible refine cG_ ?_); first | refine bC_ rfl rfl rfl rfl rfl rfl ?_ | refine wo_gskip' rfl rfl rfl rfl rfl ?_ | (refine bb_ rfl rfl rfl (fun hb => ?_) (fun hb => aH_ hb); (try simp only [bj_, reduceCtorEq] at hb)))) | (with_reducible first | refine ah_ ?_ | refine ao_ ?_ | refine ab_ ?_ | refine aA_ ?_ | refine bd_ ?_) | refine bP_ rfl ?_)
   all_goals exact rq1 rfl ⟨rfl, aD_⟩
/- A shot, copied. -/
def Trc.key (t : Trc) : (Nat → Int) × Bool × Nat × List Nat := (t.hd, t.hole, t.n, t.l)
theorem bY_ : ∀ ts : List Trc, (ts.flatMap Trc.cells).length = ts.length * 10
 | [] => rfl
 | t :: ts => by rw [List.flatMap_cons, List.length_append, bY_ ts, List.length_cons]; simp only [Trc.cells, List.length_cons, List.length_nil]; omega
set_option maxHeartbeats 4000000 in
theorem c31 {nm : ByteArray} {a : Option Addr} {n c : Nat} {ts : List Trc} (s : SlT G h (.slice a n c) n ts) (hn : n ≤ 65) (hl : ∀ t ∈ ts, t.n < 1000000) (hw : Wf h) : Cf (mz G) (.func (.func 31) #[] #[]) [.agg ⟨shC nm a n c⟩] h fun r h' => (∃ a' c' us, r = .agg ⟨shC nm a' n c'⟩ ∧ SlT G h' (.slice a' n c') n us ∧ us.map Trc.key = ts.map Trc.key) ∧ Grow h h' := by
 have hlen := s.len
 refine ar_ 25 [.cell 2 54] Tryz.func31 rfl rfl rfl rfl ?_
 repeat' (first | with_reducible refine am_ ?_ | ((with_reducible refine al_ ?_); first | ((with_reducible refine ak_ ?_); refine ac_ (ag_ rfl) ?_) | ((with_reducible refine bw_ ?_); refine ac_ (aL_ rfl ce_ rfl) ?_) | ((with_reducible refine aU_ ?_); refine ac_ (aQ_ zz54 cc_ rfl rfl rfl) ?_) | ((with_reducible refine ap_ ?_); first | refine ac_ (aa_ (o := 0) rfl Tryz.underlying43 rfl zs9 rfl) ?_ | refine ac_ (aa_ (o := 1) rfl Tryz.underlying43 rfl cL_ rfl) ?_) | ((with_reducible refine au_ ?_); first | refine ac_ (aq_ rfl an_ Tryz.underlying9 rfl rfl) ?_ | refine ac_ (aq_ rfl an_ Tryz.underlying41 rfl rfl) ?_) | ((with_reducible refine ik_build ?_); refine ac_ (cz_ rfl zz54 zp54 rfl rfl) ?_) | ((with_reducible refine aG_ ?_); refine ci_ (aM_ rfl rfl an_ cc_ rfl rfl rfl rfl) ?_) | ((with_reducible refine aC_ ?_); refine ac_ (ax_ rfl Tryz.underlying41) ?_)) | (with_reducible first | refine ah_ ?_ | refine ao_ ?_ | refine ab_ ?_ | refine at_ ?_))
 refine bq_ (fun p : Nat × Value × List Trc => n - p.1) (fun p => [(2, .pointer (some ⟨h.nx + 1, 0, some 0⟩)), (3, .pointer (some ⟨h.nx + 2, 0, some 0⟩)), (10, .slice a n c), (11, .int .i64 n), (12, .int .i64 (p.1 : Nat))])
   (fun p h' => (Wf h' ∧ Grow h h' ∧ h.nx + 3 ≤ h'.nx ∧ At h' (h.nx + 1) (.cells [.string .empty, .slice none 0 0] 54 2 false) ∧ At h' (h.nx + 2) (.cells [.string nm, p.2.1] 54 2 false)) ∧ p.1 ≤ n ∧ p.2.2.length = p.1 ∧ (∀ t ∈ p.2.2, TrAt h' (h.nx + 3) t) ∧
     ((p.2.1 = .slice none 0 0 ∧ p.1 = 0) ∨ ∃ b, h.nx + 3 ≤ b ∧ p.2.1 = .slice (some ⟨b, 0, some 0⟩) p.1 p.1 ∧ At h' b (.cells (p.2.2.flatMap Trc.cells) 58 10 true)) ∧ p.2.2.map Trc.key = (ts.take p.1).map Trc.key) (0, .slice none 0 0, []) (ai_ ⟨rfl, rfl, rfl, rfl, rfl, trivial⟩) ?_ ?_
 · dsimp only
   exact ⟨⟨aZ_, aD_, z5_A, an_, At.lay z4_A⟩, Nat.zero_le _, rfl, (fun t ht => by cases ht), .inl ⟨rfl, rfl⟩, rfl⟩
 rintro ⟨k, v, us⟩ h' ⟨⟨hw', hgr, hnx, hat2, hat3⟩, hk, hul, hut, hv, hky⟩
 simp only at hk hul hut hv hky hat3 ⊢
 have hgn := hgr.nx
 by_cases hlt : k < n
 · obtain ⟨ad, h1, h3⟩ := cA_ (s.grow hgr) Tryz.underlying41 cw_ (i := (k : Int)) hlt rfl
   have hm : ts[k]'(by omega) ∈ ts := List.getElem_mem _
   obtain ⟨t, ht⟩ : ∃ t, ts[k]'(by omega) = t := ⟨_, rfl⟩
   rw [ht] at h3 hm
   have q34 := fun (h2 : H) (g : Grow h h2) (hw2 : Wf h2) => c34 ((s.ok t hm).grow g) (hl t hm) hw2
   obtain ⟨hd, hole, sa, tn, tc, tl⟩ := t
   dsimp only [Trc.cells] at h3 q34
   rcases hv with ⟨rfl, rfl⟩ | ⟨b, hb, rfl, hatb⟩
   · repeat' (first | with_reducible refine am_ ?_ | ((with_reducible refine al_ ?_); first | ((with_reducible refine ak_ ?_); refine ac_ (ag_ rfl) ?_) | ((with_reducible refine aw_ ?_); refine ac_ (as_ rfl rfl h1) ?_) | ((with_reducible refine au_ ?_); refine ac_ (bJ_ rfl Tryz.underlying47 rfl cw_ h3.all) ?_) | ((with_reducible refine aU_ ?_); refine ac_ (aQ_ zz47 cw_ rfl rfl rfl) ?_) | ((with_reducible refine aG_ ?_); refine ci_ (aM_ rfl rfl an_ cw_ rfl rfl rfl rfl) ?_) | ((with_reducible refine av_ ?_); first | refine ac_ (aF_ rfl rfl) ?_ | refine ac_ (aR_ rfl rfl (w64 (by omega) (by omega))) ?_)) | ((with_reducible refine bL_ ?_); first | ((with_reducible refine bK_ ?_); first | ((with_reducible refine by_ ?_); first | refine bp_ (af_ rfl) rfl (aE_ rfl (ay_ rfl an_ Tryz.underlying47 rfl cw_ rfl rfl)) rfl rfl rfl ?_ | refine bp_ (af_ rfl) rfl (aE_ rfl (aq_ rfl an_ Tryz.underlying52 rfl rfl)) rfl rfl rfl ?_) | ((with_reducible refine bh_ ?_); refine bn_ (af_ rfl) rfl rfl (aE_ rfl (aa_ (o := 1) rfl Tryz.underlying54 rfl zs52 rfl)) rfl rfl rfl ?_) | ((with_reducible refine ct_ ?_); refine wx_a0 (af_ rfl) rfl (cv_ rfl Tryz.underlying52 ch_ zz58 rfl rfl) rfl rfl ?_) | ((with_reducible refine bH_ ?_); (refine aV_ (af_ rfl) rfl rfl rfl rfl (q34 _ aD_ aZ_) rfl rfl ?_; rintro _ _ ⟨⟨a1, c1, rfl, htr⟩, hq⟩; all_goals ((try (have hqn := hq.nx)); (try simp only [bG_] at hqn))))) | ((with_reducible refine xk_callb ?_); ((with_reducible refine xk_as1 ?_); refine wx_e1 (af_ rfl) rfl rfl rfl (cJ_ rfl rfl (append_nil_eq (M := mz G) (st := 52) (xt := 52) (m := 1) Tryz.underlying52 Tryz.underlying52 rfl ch_ zb58 zz58 rfl (Sl.ofAt an_ rfl (Nat.le_refl _)) rfl (by omega) (by omega))) rfl rfl ?_)) | ((with_reducible refine bh_ ?_); refine bn_ (af_ rfl) rfl rfl (aE_ rfl (aa_ (o := 1) rfl Tryz.underlying54 rfl zs52 rfl)) rfl rfl rfl ?_) | ((with_reducible refine cf_ ?_); refine wx_e0n (af_ rfl) rfl rfl rfl rfl (cn_ rfl rfl an_ rfl zs52 rfl rfl rfl) rfl ?_) | refine wx_niln ?_ ?_ rfl rfl ?_) | with_reducible exact bA_ | with_reducible refine bk_ ?_ ?_ | ((with_reducible refine bM_ ?_); first | exact bz_ | refine bx_ rfl ?_ | refine aB_ rfl rfl (aE_ rfl (ay_ rfl an_ Tryz.underlying47 rfl cw_ (by rfl) rfl)) ?_ | refine aB_ rfl rfl (aE_ rfl (aq_ rfl an_ Tryz.underlying52 rfl (by rfl))) ?_) | with_reducible exact stk_nil | with_reducible refine cK_ ?_ ?_ | ((with_reducible refine ik_stk ?_); first | exact stk_abs rfl rfl | exact cI_ rfl rfl aZ_ gr_B) | (with_reducible first | refine ah_ ?_ | refine ao_ ?_ | refine ab_ ?_ | refine az_ ?_ | refine at_ ?_ | refine aP_ ?_) | (refine aK_ rfl (fun hb => ?_) (fun hb => aH_ hb); (try simp only [bj_, reduceCtorEq] at hb)) | refine br_ (id := 5) 8 [0, 1, 0, 4, 12, 31, 63, 127] [0, 1, 2, 3, 4, 5, 6, 7] (by kernel_rfl) (by kernel_rfl) rfl rfl ?_)
     all_goals
       refine aX_ (0 + 1, .slice (some ⟨_, 0, some 0⟩) (0 + 1) (0 + 1), [⟨hd, hole, a1, tn, c1, tl⟩]) (by simp only; omega) (ai_ ⟨rfl, rfl, rfl, rfl, rfl, trivial⟩) ⟨⟨aZ_, aD_, by simp only [bG_] at hqn ⊢; omega, an_, an_⟩, by simp only; omega, rfl, fun t ht => ?_, .inr ⟨_, ?_, rfl, an_⟩, ?_⟩
       · simp only [List.mem_singleton] at ht
         subst ht
         obtain ⟨bt, sf, e1, e2, e3⟩ := htr.at'
         have e4 := e3.lt
         simp only [bG_] at e2 e4
         exact ⟨⟨bt, sf, e1, by omega, an_⟩, htr.len, htr.cap⟩
       · simp only [H.nx_push, H.nx_set, H.nx_bump]; omega
       · rw [List.take_succ_eq_append_getElem (by omega), ht]; simp [Trc.key]
   · have hclen : (us.flatMap Trc.cells).length = k * 10 := by rw [bY_, hul]
     have hlb := hatb.lt
     repeat' (first | with_reducible refine am_ ?_ | ((with_reducible refine al_ ?_); first | ((with_reducible refine ak_ ?_); refine ac_ (ag_ rfl) ?_) | ((with_reducible refine aw_ ?_); refine ac_ (as_ rfl rfl h1) ?_) | ((with_reducible refine au_ ?_); refine ac_ (bJ_ rfl Tryz.underlying47 rfl cw_ h3.all) ?_) | ((with_reducible refine aU_ ?_); refine ac_ (aQ_ zz47 cw_ rfl rfl rfl) ?_) | ((with_reducible refine aG_ ?_); refine ci_ (aM_ rfl rfl an_ cw_ rfl rfl rfl rfl) ?_) | ((with_reducible refine av_ ?_); first | refine ac_ (aF_ rfl rfl) ?_ | refine ac_ (aR_ rfl rfl (w64 (by omega) (by omega))) ?_)) | ((with_reducible refine bL_ ?_); first | ((with_reducible refine bK_ ?_); first | ((with_reducible refine by_ ?_); first | refine bp_ (af_ rfl) rfl (aE_ rfl (ay_ rfl an_ Tryz.underlying47 rfl cw_ rfl rfl)) rfl rfl rfl ?_ | refine bp_ (af_ rfl) rfl (aE_ rfl (aq_ rfl an_ Tryz.underlying52 rfl rfl)) rfl rfl rfl ?_) | ((with_reducible refine bh_ ?_); refine bn_ (af_ rfl) rfl rfl (aE_ rfl (aa_ (o := 1) rfl Tryz.underlying54 rfl zs52 rfl)) rfl rfl rfl ?_) | ((with_reducible refine ct_ ?_); refine wx_a0 (af_ rfl) rfl (cv_ rfl Tryz.underlying52 ch_ zz58 rfl rfl) rfl rfl ?_) | ((with_reducible refine bH_ ?_); (refine aV_ (af_ rfl) rfl rfl rfl rfl (q34 _ aD_ aZ_) rfl rfl ?_; rintro _ _ ⟨⟨a1, c1, rfl, htr⟩, hq⟩; all_goals ((try (have hqn := hq.nx)); (try simp only [bG_] at hqn))))) | ((with_reducible refine xk_callb ?_); ((with_reducible refine xk_as1 ?_); refine wx_e1 (af_ rfl) rfl rfl rfl (cJ_ rfl rfl (append_own_eq (M := mz G) (st := 52) (xt := 52) (m := 1) Tryz.underlying52 Tryz.underlying52 rfl ch_ zb58 zz58 rfl (Sl.ofAt an_ rfl (Nat.le_refl _)) rfl (b := b) (c := us.flatMap Trc.cells) an_ hclen (by omega) (by omega))) rfl rfl ?_)) | ((with_reducible refine bh_ ?_); refine bn_ (af_ rfl) rfl rfl (aE_ rfl (aa_ (o := 1) rfl Tryz.underlying54 rfl zs52 rfl)) rfl rfl rfl ?_) | ((with_reducible refine cf_ ?_); refine wx_e0n (af_ rfl) rfl rfl rfl rfl (cn_ rfl rfl an_ rfl zs52 rfl rfl rfl) rfl ?_) | refine wx_niln ?_ ?_ rfl rfl ?_) | with_reducible exact bA_ | with_reducible refine bk_ ?_ ?_ | ((with_reducible refine bM_ ?_); first | exact bz_ | refine bx_ rfl ?_ | refine aB_ rfl rfl (aE_ rfl (ay_ rfl an_ Tryz.underlying47 rfl cw_ (by rfl) rfl)) ?_ | refine aB_ rfl rfl (aE_ rfl (aq_ rfl an_ Tryz.underlying52 rfl (by rfl))) ?_) | with_reducible exact stk_nil | with_reducible refine cK_ ?_ ?_ | ((with_reducible refine ik_stk ?_); first | exact stk_abs rfl rfl | exact cI_ rfl rfl aZ_ gr_B) | (with_reducible first | refine ah_ ?_ | refine ao_ ?_ | refine ab_ ?_ | refine az_ ?_ | refine at_ ?_ | refine aP_ ?_) | (refine aK_ rfl (fun hb => ?_) (fun hb => aH_ hb); (try simp only [bj_, reduceCtorEq] at hb)) | refine br_ (id := 5) 8 [0, 1, 0, 4, 12, 31, 63, 127] [0, 1, 2, 3, 4, 5, 6, 7] (by kernel_rfl) (by kernel_rfl) rfl rfl ?_)
     all_goals
       refine aX_ (k + 1, .slice (some ⟨_, 0, some 0⟩) (k + 1) (k + 1), us ++ [⟨hd, hole, a1, tn, c1, tl⟩]) (by simp only; omega) (ai_ ⟨rfl, rfl, rfl, rfl, rfl, trivial⟩) ⟨⟨aZ_, aD_, by simp only [H.nx_push, H.nx_set, H.nx_kill, H.nx_bump] at hqn ⊢; omega, an_, an_⟩, by simp only; omega, by simp [hul], fun t ht => ?_, .inr ⟨_, ?_, rfl, by rw [List.flatMap_append, List.flatMap_singleton]; exact an_⟩, ?_⟩
       · rcases List.mem_append.1 ht with ht | ht
         · have o := hut t ht
           obtain ⟨bt, sf, e1, e2, e3⟩ := o.at'
           have e4 := e3.lt
           have e5 : bt ≠ b := fun q => by
             subst q
             have := e3.get.symm.trans hatb.get
             simp at this
           exact ⟨⟨bt, sf, e1, e2, an_⟩, o.len, o.cap⟩
         · simp only [List.mem_singleton] at ht
           subst ht
           obtain ⟨bt, sf, e1, e2, e3⟩ := htr.at'
           have e4 := e3.lt
           simp only [bG_] at e2 e4
           exact ⟨⟨bt, sf, e1, by omega, an_⟩, htr.len, htr.cap⟩
       · simp only [H.nx_push, H.nx_set, H.nx_kill, H.nx_bump]; omega
       · rw [List.take_succ_eq_append_getElem (by omega), ht, List.map_append, List.map_append, hky]; simp [Trc.key]
 · have hkn : k = n := by omega
   subst hkn
   rw [List.take_of_length_le (by omega)] at hky
   rcases hv with ⟨rfl, hk0⟩ | ⟨b, hb, rfl, hatb⟩
   · repeat' (first | with_reducible refine am_ ?_ | ((with_reducible refine al_ ?_); first | ((with_reducible refine au_ ?_); refine ac_ (ay_ rfl an_ Tryz.underlying54 rfl cc_ rfl rfl) ?_) | ((with_reducible refine aG_ ?_); refine ci_ (aM_ rfl rfl an_ cc_ rfl rfl rfl rfl) ?_) | ((with_reducible refine av_ ?_); refine ac_ (aF_ rfl rfl) ?_)) | (with_reducible first | refine ah_ ?_ | refine ao_ ?_ | refine ab_ ?_ | refine aA_ ?_ | refine be_ ?_ | refine bf_ ?_ | refine bi_ ?_) | refine bS_ rfl ?_ | (refine aK_ rfl (fun hb => ?_) (fun hb => ?_) <;> (try simp only [bj_, reduceCtorEq] at hb) <;> (try (exfalso; omega))))
     refine rqc1 rfl (ldAgg an_ Tryz.underlying54 rfl cc_ rfl rfl) ⟨⟨none, 0, us, ?_, ⟨?_, hul, fun t ht => ((hut t ht).set (by omega) _).ok⟩, hky⟩, aD_⟩
     · rw [hk0]
     · have : us = [] := List.length_eq_zero_iff.1 (by omega)
       subst this
       rw [hk0]; exact .nil
   · repeat' (first | with_reducible refine am_ ?_ | ((with_reducible refine al_ ?_); first | ((with_reducible refine au_ ?_); refine ac_ (ay_ rfl an_ Tryz.underlying54 rfl cc_ rfl rfl) ?_) | ((with_reducible refine aG_ ?_); refine ci_ (aM_ rfl rfl an_ cc_ rfl rfl rfl rfl) ?_) | ((with_reducible refine av_ ?_); refine ac_ (aF_ rfl rfl) ?_)) | (with_reducible first | refine ah_ ?_ | refine ao_ ?_ | refine ab_ ?_ | refine aA_ ?_ | refine be_ ?_ | refine bf_ ?_ | refine bi_ ?_) | refine bS_ rfl ?_ | (refine aK_ rfl (fun hb => ?_) (fun hb => ?_) <;> (try simp only [bj_, reduceCtorEq] at hb) <;> (try (exfalso; omega))))
     exact rqc1 rfl (ldAgg an_ Tryz.underlying54 rfl cc_ rfl rfl) ⟨⟨_, _, us, rfl, ⟨Sl.ofAt an_ (by rw [bY_, hul]) (Nat.le_refl _), hul, fun t ht => ((hut t ht).set (by omega) _).ok⟩, hky⟩, aD_⟩
end Go.Proofs.YthnnndkfpamacaaGreatDoor
