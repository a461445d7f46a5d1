/- Contracts of functions on traces: checks, offsets, copies, lists of traces. -/
import Derived.Test.YthnnndkfpamacaaGreatDoorL3
import Derived.Test.YthnnndkfpamacaaGreatDoorK2
set_option linter.all false
/- Traces and their checks. -/
namespace Go.Proofs.YthnnndkfpamacaaGreatDoor
open Go Go.Ab Go.Fl
attribute [local irreducible] SeqQ BlkQ LpQ RetQ Wc Wo WD WX Op1 Op1q Op1a Cf Cl From
attribute [local irreducible] Ieee.Format.order Ieee.Format.read Ieee.Format.nearest Ieee.Format.write Ieee.Format.mul Ieee.Format.div Ieee.Datum.order Ieee.Datum.integral smpE smp smpW K J U
set_option maxRecDepth 10000
variable {G : Base} {h : H}
structure Trc where
 hd : Nat → Int
 hole : Bool
 sa : Option Addr
 n : Nat
 c : Nat
 l : List Nat
@[reducible] def Trc.cells (t : Trc) : List Value := [.int .i64 (t.hd 0), .int .i64 (t.hd 1), .int .i64 (t.hd 2), .int .i64 (t.hd 3), .int .i64 (t.hd 4), .int .i64 (t.hd 5), .int .i64 (t.hd 6), .int .i64 (t.hd 7), .bool t.hole, .slice t.sa t.n t.c]
@[reducible] def hdCells (hd : Nat → Int) : List Value := [.int .i64 (hd 0), .int .i64 (hd 1), .int .i64 (hd 2), .int .i64 (hd 3), .int .i64 (hd 4), .int .i64 (hd 5), .int .i64 (hd 6), .int .i64 (hd 7)]
structure TrOk (G : Base) (h : H) (t : Trc) : Prop where
 sl : Sl G h 1 (.slice t.sa t.n t.c) t.n (t.l.map (.float .f32))
theorem TrOk.grow {h h' : H} {t : Trc} (o : TrOk G h t) (g : Grow h h') : TrOk G h' t := ⟨o.sl.grow g⟩
theorem hd_get (hd : Nat → Int) {i : Nat} (h : i < 8) : (hdCells hd)[i]? = some (.int .i64 (hd i)) := by
 match i, h with
 | 0, _ | 1, _ | 2, _ | 3, _ | 4, _ | 5, _ | 6, _ | 7, _ => rfl
theorem tr_get (t : Trc) {i : Nat} (h : i < 8) : t.cells[i]? = some (.int .i64 (t.hd i)) := by
 match i, h with
 | 0, _ | 1, _ | 2, _ | 3, _ | 4, _ | 5, _ | 6, _ | 7, _ => rfl
def hlo (i : Nat) : Int := if i < 4 then -100000 else if i = 4 then 0 else -999999999
def hhi (i : Nat) : Int := if i < 4 then 100000 else if i = 4 then 100000 else 999999999
def hdE (hd : Nat → Int) (i : Nat) : Int := rngE (hd i) (hlo i) (hhi i)
def hdrE (hd : Nat → Int) : Int := firstNZ ((List.range 8).map (hdE hd))
theorem hdr_step {hd : Nat → Int} {k : Nat} (h : k < 8) (hi : firstNZ (((List.range 8).drop k).map (hdE hd)) = hdrE hd) : (hdE hd k ≠ 0 → hdrE hd = hdE hd k) ∧ (hdE hd k = 0 → firstNZ (((List.range 8).drop (k + 1)).map (hdE hd)) = hdrE hd) := by
 have e : ((List.range 8).drop k).map (hdE hd) = hdE hd k :: ((List.range 8).drop (k + 1)).map (hdE hd) := by
   rw [List.drop_eq_getElem_cons (by simpa using h)]
   simp
 rw [e, firstNZ] at hi
 exact ⟨fun q => by rw [if_neg q] at hi; exact hi.symm, fun q => by rw [if_pos q] at hi; exact hi⟩
theorem hdr_end {hd : Nat → Int} (hi : firstNZ (((List.range 8).drop 8).map (hdE hd)) = hdrE hd) : hdrE hd = 0 := by
 rw [← hi]; rfl
set_option maxHeartbeats 4000000 in
theorem c106 (hd : Nat → Int) : Cf (mz G) (.func (.func 106) #[] #[]) [.agg ⟨hdCells hd⟩] h fun r h' => r = .int .i64 (hdrE hd) ∧ Grow h h' := by
 refine ar_ 24 [.tmp 2] Tryz.func106 rfl rfl rfl rfl ?_
 repeat' (first | with_reducible refine am_ ?_ | ((with_reducible refine al_ ?_); first | ((with_reducible refine ae_ ?_); refine ac_ (ad_ rfl) ?_) | ((with_reducible refine bw_ ?_); refine ac_ (aL_ rfl zs44 rfl) ?_)) | (with_reducible first | refine ah_ ?_ | refine ao_ ?_ | refine ab_ ?_ | refine at_ ?_))
 refine bq_ (fun k => 8 - k) (fun k : Nat => [(1, .pointer (some ⟨h.nx, 0, some 0⟩)), (3, .int .i64 k)]) (fun k h' => (Grow h h' ∧ At h' h.nx (.cells (hdCells hd) 44 8 false)) ∧ k ≤ 8 ∧ firstNZ (((List.range 8).drop k).map (hdE hd)) = hdrE hd) 0 (ai_ ⟨rfl, rfl, trivial⟩) ⟨⟨aD_, an_⟩, Nat.zero_le _, rfl⟩ ?_
 rintro k h' ⟨⟨hgr, hat⟩, hk, hi⟩
 by_cases hlt : k < 8
 · obtain ⟨s1, s2⟩ := hdr_step hlt hi
   have hv := hd_get hd hlt
   have q19 : ∀ (h : H) (a b : Int), a = hlo k → b = hhi k → Cl (mz G) (.func (.func 19) #[] #[]) [.int .i64 (hd k), .int .i64 a, .int .i64 b] h (.int .i64 (hdE hd k)) h := fun h a b ea eb => by subst ea eb; exact c19 (hd k) (hlo k) (hhi k)
   obtain ⟨E, hE⟩ : ∃ E, hdE hd k = E := ⟨_, rfl⟩
   rw [hE] at s1 s2 q19
   repeat' (first | with_reducible refine am_ ?_ | ((with_reducible refine al_ ?_); first | ((with_reducible refine ak_ ?_); refine ac_ (ag_ rfl) ?_) | ((with_reducible refine ae_ ?_); refine ac_ (ad_ rfl) ?_) | ((with_reducible refine aw_ ?_); refine ac_ (op_idxArrO (o := k) rfl rfl Tryz.underlying44 zs3 (by omega) (by omega) (by omega)) ?_) | ((with_reducible refine au_ ?_); refine ac_ (bc_ rfl hat Tryz.underlying3 rfl hv) ?_) | ((with_reducible refine av_ ?_); first | refine ac_ (aF_ rfl rfl) ?_ | refine ac_ (cM_ rfl rfl) ?_ | refine ac_ (bm_ rfl rfl) ?_ | refine ac_ (aR_ rfl rfl (w64 (by omega) (by omega))) ?_) | ((with_reducible refine aN_ ?_); refine ac_ (aJ_ rfl rfl (q19 _ _ _ (by unfold hlo; split <;> first | omega | (split <;> omega)) (by unfold hhi; split <;> first | omega | (split <;> omega)))) ?_)) | (with_reducible first | refine ah_ ?_ | refine ao_ ?_ | refine ab_ ?_ | refine az_ ?_ | refine aA_ ?_ | refine at_ ?_ | refine aP_ ?_ | refine bV_ ?_ | refine bd_ ?_ | refine cx_ ?_) | (refine aK_ rfl (fun hb => ?_) (fun hb => ?_) <;> (try simp only [bj_, reduceCtorEq] at hb) <;> (try (exfalso; omega))))
   all_goals first
     | (refine rq1 rfl ⟨?_, aD_⟩; rw [s1 (by assumption)])
     | exact aX_ (k + 1) (by omega) (ai_ ⟨rfl, rfl, trivial⟩) ⟨⟨aD_, an_⟩, by omega, s2 (by assumption)⟩
 · have hk8 : k = 8 := by omega
   subst hk8
   repeat' (first | with_reducible refine am_ ?_ | ((with_reducible refine al_ ?_); first | ((with_reducible refine ak_ ?_); refine ac_ (ag_ rfl) ?_) | ((with_reducible refine ae_ ?_); refine ac_ (ad_ rfl) ?_) | ((with_reducible refine av_ ?_); refine ac_ (aF_ rfl rfl) ?_)) | (with_reducible first | refine ah_ ?_ | refine ao_ ?_ | refine ab_ ?_ | refine aA_ ?_ | refine be_ ?_ | refine bf_ ?_ | refine bi_ ?_) | refine bS_ rfl ?_ | refine bs_ rfl ?_)
   refine rq1 rfl ⟨?_, hgr⟩
   rw [hdr_end hi]
def trE (t : Trc) : Int := if hdrE t.hd ≠ 0 then hdrE t.hd else if t.hole = true ∧ 0 < t.n then 24 else lchk t.l
set_option maxHeartbeats 4000000 in
theorem c36 {t : Trc} (o : TrOk G h t) (hn : t.n < 1000000) (hw : Wf h) : Cf (mz G) (.func (.func 36) #[] #[]) [.agg ⟨t.cells⟩] h fun r h' => r = .int .i64 (trE t) ∧ Grow h h' := by
 obtain ⟨hd, hole, sa, n, c, l⟩ := t
 have s := o.sl
 simp only at s hn
 have q105 := fun (h : H) => c106 (G := G) (h := h) hd
 unfold trE
 simp only
 obtain ⟨E, hE⟩ : ∃ E, hdrE hd = E := ⟨_, rfl⟩
 rw [hE] at q105 ⊢
 by_cases h0 : E ≠ 0
 · rw [if_pos h0]
   refine ar_ 21 [.tmp 2] Tryz.func36 rfl rfl rfl rfl ?_
   repeat' (first | with_reducible refine am_ ?_ | ((with_reducible refine al_ ?_); first | ((with_reducible refine ak_ ?_); refine ac_ (ag_ rfl) ?_) | ((with_reducible refine ae_ ?_); refine ac_ (ad_ rfl) ?_) | ((with_reducible refine bw_ ?_); refine ac_ (aL_ rfl cw_ rfl) ?_) | ((with_reducible refine ap_ ?_); refine ac_ (aa_ (o := 0) rfl Tryz.underlying47 rfl zs44 rfl) ?_) | ((with_reducible refine au_ ?_); refine ac_ (ay_ rfl an_ Tryz.underlying44 rfl zs44 rfl rfl) ?_) | ((with_reducible refine av_ ?_); refine ac_ (bm_ rfl rfl) ?_) | ((with_reducible refine aN_ ?_); (refine aW_ rfl rfl rfl rfl (q105 _) rfl rfl ?_; rintro _ _ ⟨rfl, hq⟩; all_goals ((try (have hqn := hq.nx)); (try simp only [bG_] at hqn))))) | (with_reducible first | refine ah_ ?_ | refine ao_ ?_ | refine ab_ ?_ | refine aA_ ?_ | refine bd_ ?_) | (refine aK_ rfl (fun hb => ?_) (fun hb => aH_ hb); (try simp only [bj_, reduceCtorEq] at hb)))
   all_goals exact rq1 rfl ⟨rfl, aD_⟩
 rw [if_neg h0]
 have h0 : E = 0 := by simpa using h0
 subst h0
 cases hole with
 | true =>
   by_cases h1 : 0 < n
   · rw [if_pos ⟨rfl, h1⟩]
     refine ar_ 21 [.tmp 2] Tryz.func36 rfl rfl rfl rfl ?_
     repeat' (first | with_reducible refine am_ ?_ | ((with_reducible refine al_ ?_); first | ((with_reducible refine ak_ ?_); refine ac_ (ag_ rfl) ?_) | ((with_reducible refine ae_ ?_); refine ac_ (ad_ rfl) ?_) | ((with_reducible refine bw_ ?_); refine ac_ (aL_ rfl cw_ rfl) ?_) | ((with_reducible refine ap_ ?_); first | refine ac_ (aa_ (o := 0) rfl Tryz.underlying47 rfl zs44 rfl) ?_ | refine ac_ (aa_ (o := 8) rfl Tryz.underlying47 rfl zs4 rfl) ?_) | ((with_reducible refine au_ ?_); first | refine ac_ (ay_ rfl an_ Tryz.underlying44 rfl zs44 rfl rfl) ?_ | refine ac_ (aq_ rfl an_ Tryz.underlying4 rfl rfl) ?_) | ((with_reducible refine av_ ?_); refine ac_ (bm_ rfl rfl) ?_) | ((with_reducible refine aS_ ?_); refine ac_ (aT_ rfl rfl) ?_) | ((with_reducible refine aN_ ?_); (refine aW_ rfl rfl rfl rfl (q105 _) rfl rfl ?_; rintro _ _ ⟨rfl, hq⟩; all_goals ((try (have hqn := hq.nx)); (try simp only [bG_] at hqn)))) | ((with_reducible refine cG_ ?_); first | ((with_reducible refine bt_ ?_); refine aj_ rfl rfl rfl (aa_ (o := 9) rfl Tryz.underlying47 rfl zs45 rfl) rfl rfl ?_) | ((with_reducible refine bX_ ?_); refine aj_ rfl rfl rfl (aq_ rfl an_ Tryz.underlying45 rfl rfl) rfl rfl ?_) | ((with_reducible refine bE_ ?_); refine aj_ rfl rfl rfl (bZ_ rfl rfl) rfl rfl ?_) | ((with_reducible refine bW_ ?_); refine aj_ rfl rfl rfl (ax_ rfl Tryz.underlying45) rfl rfl ?_))) | (with_reducible first | refine ah_ ?_ | refine ao_ ?_ | refine ab_ ?_ | refine az_ ?_ | refine aA_ ?_ | refine bd_ ?_) | refine bs_ rfl ?_ | (refine aK_ rfl (fun hb => ?_) (fun hb => aH_ hb); (try simp only [bj_, reduceCtorEq] at hb)))
     all_goals exact rq1 rfl ⟨rfl, aD_⟩
   · rw [if_neg (by omega)]
     refine ar_ 21 [.tmp 2] Tryz.func36 rfl rfl rfl rfl ?_
     repeat' (first | with_reducible refine am_ ?_ | ((with_reducible refine al_ ?_); first | ((with_reducible refine ak_ ?_); refine ac_ (ag_ rfl) ?_) | ((with_reducible refine ae_ ?_); refine ac_ (ad_ rfl) ?_) | ((with_reducible refine bw_ ?_); refine ac_ (aL_ rfl cw_ rfl) ?_) | ((with_reducible refine ap_ ?_); first | refine ac_ (aa_ (o := 0) rfl Tryz.underlying47 rfl zs44 rfl) ?_ | refine ac_ (aa_ (o := 8) rfl Tryz.underlying47 rfl zs4 rfl) ?_ | refine ac_ (aa_ (o := 9) rfl Tryz.underlying47 rfl zs45 rfl) ?_) | ((with_reducible refine au_ ?_); first | refine ac_ (ay_ rfl an_ Tryz.underlying44 rfl zs44 rfl rfl) ?_ | refine ac_ (aq_ rfl an_ Tryz.underlying4 rfl rfl) ?_ | refine ac_ (aq_ rfl an_ Tryz.underlying45 rfl rfl) ?_) | ((with_reducible refine av_ ?_); refine ac_ (bm_ rfl rfl) ?_) | ((with_reducible refine aS_ ?_); refine ac_ (aT_ rfl rfl) ?_) | ((with_reducible refine ba_ (f := 64) ?_); refine ac_ (aJ_ rfl rfl (c64 (s.grow aD_) hn)) ?_) | ((with_reducible refine aN_ ?_); (refine aW_ rfl rfl rfl rfl (q105 _) rfl rfl ?_; rintro _ _ ⟨rfl, hq⟩; all_goals ((try (have hqn := hq.nx)); (try simp only [bG_] at hqn)))) | ((with_reducible refine cG_ ?_); first | ((with_reducible refine bt_ ?_); refine aj_ rfl rfl rfl (aa_ (o := 9) rfl Tryz.underlying47 rfl zs45 rfl) rfl rfl ?_) | ((with_reducible refine bX_ ?_); refine aj_ rfl rfl rfl (aq_ rfl an_ Tryz.underlying45 rfl rfl) rfl rfl ?_) | ((with_reducible refine bE_ ?_); refine aj_ rfl rfl rfl (bZ_ rfl rfl) rfl rfl ?_) | ((with_reducible refine bW_ ?_); refine aj_ rfl rfl rfl (ax_ rfl Tryz.underlying45) rfl rfl ?_))) | (with_reducible first | refine ah_ ?_ | refine ao_ ?_ | refine ab_ ?_ | refine az_ ?_ | refine aA_ ?_) | refine bs_ rfl ?_ | (refine aK_ rfl (fun hb => aH_ hb) (fun hb => ?_); (try simp only [bj_, reduceCtorEq] at hb)))
     all_goals exact rq1 rfl ⟨rfl, aD_⟩
 | false =>
   rw [if_neg (by simp)]
   refine ar_ 21 [.tmp 2] Tryz.func36 rfl rfl rfl rfl ?_
   repeat' (first | with_reducible refine am_ ?_ | ((with_reducible refine al_ ?_); first | ((with_reducible refine ak_ ?_); refine ac_ (ag_ rfl) ?_) | ((with_reducible refine ae_ ?_); refine ac_ (ad_ rfl) ?_) | ((with_reducible refine bw_ ?_); refine ac_ (aL_ rfl cw_ rfl) ?_) | ((with_reducible refine ap_ ?_); first | refine ac_ (aa_ (o := 0) rfl Tryz.underlying47 rfl zs44 rfl) ?_ | refine ac_ (aa_ (o := 8) rfl Tryz.underlying47 rfl zs4 rfl) ?_ | refine ac_ (aa_ (o := 9) rfl Tryz.underlying47 rfl zs45 rfl) ?_) | ((with_reducible refine au_ ?_); first | refine ac_ (ay_ rfl an_ Tryz.underlying44 rfl zs44 rfl rfl) ?_ | refine ac_ (aq_ rfl an_ Tryz.underlying4 rfl rfl) ?_ | refine ac_ (aq_ rfl an_ Tryz.underlying45 rfl rfl) ?_) | ((with_reducible refine av_ ?_); refine ac_ (bm_ rfl rfl) ?_) | ((with_reducible refine aS_ ?_); refine ac_ (aO_ rfl rfl) ?_) | ((with_reducible refine ba_ (f := 64) ?_); refine ac_ (aJ_ rfl rfl (c64 (s.grow aD_) hn)) ?_) | ((with_reducible refine aN_ ?_); (refine aW_ rfl rfl rfl rfl (q105 _) rfl rfl ?_; rintro _ _ ⟨rfl, hq⟩; all_goals ((try (have hqn := hq.nx)); (try simp only [bG_] at hqn)))) | ((with_reducible refine cG_ ?_); refine bC_ rfl rfl rfl rfl rfl rfl ?_)) | (with_reducible first | refine ah_ ?_ | refine ao_ ?_ | refine ab_ ?_ | refine az_ ?_ | refine aA_ ?_) | refine bs_ rfl ?_)
   all_goals exact rq1 rfl ⟨rfl, aD_⟩
/- Traces: the program's check, offsets, copies. -/
theorem hd_tab (hG : ∀ a v, laidBase a = some v → G a = some v) (h : H) {k : Nat} (hk : k < 8) : acell G h ⟨0, k * 2, none⟩ = some (.int .i64 (hlo k)) ∧ acell G h ⟨0, k * 2 + 1, none⟩ = some (.int .i64 (hhi k)) := by
 match k, hk with
 | 0, _ | 1, _ | 2, _ | 3, _ | 4, _ | 5, _ | 6, _ | 7, _ => exact ⟨hG _ _ rfl, hG _ _ rfl⟩
set_option maxHeartbeats 4000000 in
theorem c40 {t : Trc} (o : TrOk G h t) (hn : t.n < 1000000) (hw : Wf h) (hG : ∀ a v, laidBase a = some v → G a = some v) : Cf (mz G) (.func (.func 40) #[] #[]) [.agg ⟨t.cells⟩] h fun r h' => r = .int .i64 (trE t) ∧ Grow h h' := by
 obtain ⟨hd, hole, sa, n, c, l⟩ := t
 have s := o.sl
 simp only at s hn
 refine ar_ 36 [.tmp 2] Tryz.func40 rfl rfl rfl rfl ?_
 repeat' (first | with_reducible refine am_ ?_ | ((with_reducible refine al_ ?_); first | ((with_reducible refine ak_ ?_); refine ac_ (ag_ rfl) ?_) | ((with_reducible refine ae_ ?_); refine ac_ (ad_ rfl) ?_) | ((with_reducible refine bw_ ?_); refine ac_ (aL_ rfl ch_ rfl) ?_)) | (with_reducible first | refine ah_ ?_ | refine ao_ ?_ | refine ab_ ?_ | refine at_ ?_))
 refine bq_ (fun k => 8 - k) (fun k : Nat => [(1, .pointer (some ⟨h.nx, 0, some 0⟩)), (5, .int .i64 k)]) (fun k h' => (Wf h' ∧ Grow h h' ∧ At h' h.nx (.cells (Trc.cells ⟨hd, hole, sa, n, c, l⟩) 58 10 false)) ∧ k ≤ 8 ∧ firstNZ (((List.range 8).drop k).map (hdE hd)) = hdrE hd) 0 (ai_ ⟨rfl, rfl, trivial⟩) ⟨⟨aZ_, aD_, an_⟩, Nat.zero_le _, rfl⟩ ?_
 rintro k h' ⟨⟨hw', hgr, hat⟩, hk, hi⟩
 by_cases hlt : k < 8
 · obtain ⟨s1, s2⟩ := hdr_step hlt hi
   have hv := tr_get ⟨hd, hole, sa, n, c, l⟩ hlt
   simp only at hv
   obtain ⟨t1, t2⟩ := hd_tab hG h' hlt
   have q91 : ∀ (h : H), Cl (mz G) (.func (.func 91) #[] #[]) [.int .i64 (hd k), .int .i64 (hlo k), .int .i64 (hhi k)] h (.int .i64 (hdE hd k)) h := fun h => c91 (hd k) (hlo k) (hhi k)
   obtain ⟨E, hE⟩ : ∃ E, hdE hd k = E := ⟨_, rfl⟩
   rw [hE] at s1 s2 q91
   repeat' (first | with_reducible refine am_ ?_ | ((with_reducible refine al_ ?_); first | ((with_reducible refine ak_ ?_); refine ac_ (ag_ rfl) ?_) | ((with_reducible refine ae_ ?_); refine ac_ (ad_ rfl) ?_) | ((with_reducible refine av_ ?_); first | refine ac_ (aF_ rfl rfl) ?_ | refine ac_ (bm_ rfl rfl) ?_ | refine ac_ (aR_ rfl rfl (w64 (by omega) (by omega))) ?_)) | ((with_reducible refine bL_ ?_); ((with_reducible refine bK_ ?_); first | ((with_reducible refine bI_ ?_); refine bn_ (af_ rfl) rfl rfl (aE_ rfl (ag_ rfl)) rfl rfl rfl ?_) | ((with_reducible refine ck_ ?_); refine bn_ (af_ rfl) rfl rfl (aE_ rfl (ad_ rfl)) rfl rfl rfl ?_) | ((with_reducible refine bo_ ?_); first | refine bn_ (af_ rfl) rfl rfl (aE_ rfl (op_idxArrO (b := h.nx) (off := 0) (o := k) rfl rfl Tryz.underlying44 zs3 (by omega) (by omega) (by omega))) rfl rfl rfl ?_ | refine bn_ (af_ rfl) rfl rfl (aE_ rfl (op_idxArrO (b := 0) (off := 0) (o := k * 2) rfl rfl Tryz.underlying167 zs166 (by omega) (by omega) (by omega))) rfl rfl rfl ?_) | ((with_reducible refine by_ ?_); first | refine bp_ (af_ rfl) rfl (aE_ rfl (bc_ rfl an_ Tryz.underlying3 rfl hv)) rfl rfl rfl ?_ | refine bp_ (af_ rfl) rfl (aE_ rfl (aI_ rfl Tryz.underlying3 rfl t1)) rfl rfl rfl ?_ | refine bp_ (af_ rfl) rfl (aE_ rfl (aI_ rfl Tryz.underlying3 rfl t2)) rfl rfl rfl ?_) | ((with_reducible refine bh_ ?_); first | refine bn_ (af_ rfl) rfl rfl (aE_ rfl (aa_ (o := 0) rfl Tryz.underlying58 rfl zs44 rfl)) rfl rfl rfl ?_ | refine bn_ (af_ rfl) rfl rfl (aE_ rfl (aa_ (o := 0) rfl Tryz.underlying166 rfl zs3 rfl)) rfl rfl rfl ?_ | refine bn_ (af_ rfl) rfl rfl (aE_ rfl (aa_ (o := 1) rfl Tryz.underlying166 rfl zs3 rfl)) rfl rfl rfl ?_) | ((with_reducible refine bH_ ?_); refine wx_ee (af_ rfl) rfl rfl (aJ_ rfl rfl (q91 _)) rfl rfl ?_) | with_reducible refine bN_ ?_ ?_)) | with_reducible exact bA_ | with_reducible refine bk_ ?_ ?_ | ((with_reducible refine bM_ ?_); first | exact bz_ | refine bx_ rfl ?_ | refine aB_ rfl rfl (aE_ rfl (bc_ rfl an_ Tryz.underlying3 rfl hv)) ?_ | refine aB_ rfl rfl (aE_ rfl (aI_ rfl Tryz.underlying3 rfl t1)) ?_ | refine aB_ rfl rfl (aE_ rfl (aI_ rfl Tryz.underlying3 rfl t2)) ?_) | (with_reducible first | refine ah_ ?_ | refine ao_ ?_ | refine ab_ ?_ | refine az_ ?_ | refine aA_ ?_ | refine at_ ?_ | refine aP_ ?_ | refine bV_ ?_ | refine bd_ ?_ | refine cx_ ?_) | (refine aK_ rfl (fun hb => ?_) (fun hb => ?_) <;> (try simp only [bj_, reduceCtorEq] at hb) <;> (try (exfalso; omega))) | refine br_ (id := 4) 14 [0, 0, 3, 7, 0, 16, 48, 112, 0, 256, 768, 1792, 4095, 8191] [0, 1, 2, 3, 4, 5, 6, 7, 8, 9, 10, 11, 12, 13] (by kernel_rfl) (by kernel_rfl) rfl rfl ?_)
   all_goals first
     | (refine rq1 rfl ⟨?_, aD_⟩; have q := s1 (by assumption); unfold trE; simp only [q]; rw [if_pos (by assumption)])
     | exact aX_ (k + 1) (by omega) (ai_ ⟨rfl, rfl, trivial⟩) ⟨⟨aZ_, aD_, an_⟩, by omega, s2 (by assumption)⟩
 · have hk8 : k = 8 := by omega
   subst hk8
   have h0 := hdr_end hi
   have e0 : trE ⟨hd, hole, sa, n, c, l⟩ = if hole = true ∧ 0 < n then 24 else lchk l := by unfold trE; simp only [h0]; rw [if_neg (by simp)]
   rw [e0]
   clear hi h0 e0
   cases hole with
   | true =>
     by_cases h1 : 0 < n
     · rw [if_pos ⟨rfl, h1⟩]
       repeat' (first | with_reducible refine am_ ?_ | ((with_reducible refine al_ ?_); first | ((with_reducible refine ak_ ?_); refine ac_ (ag_ rfl) ?_) | ((with_reducible refine ae_ ?_); refine ac_ (ad_ rfl) ?_) | ((with_reducible refine av_ ?_); refine ac_ (aF_ rfl rfl) ?_) | ((with_reducible refine ap_ ?_); refine ac_ (aa_ (o := 8) rfl Tryz.underlying58 rfl zs4 rfl) ?_) | ((with_reducible refine au_ ?_); refine ac_ (aq_ rfl an_ Tryz.underlying4 rfl rfl) ?_) | ((with_reducible refine aS_ ?_); refine ac_ (aT_ rfl rfl) ?_) | ((with_reducible refine cG_ ?_); first | ((with_reducible refine bE_ ?_); refine aj_ rfl rfl rfl (bZ_ rfl rfl) rfl rfl ?_) | ((with_reducible refine bt_ ?_); refine aj_ rfl rfl rfl (aa_ (o := 9) rfl Tryz.underlying58 rfl zs45 rfl) rfl rfl ?_) | ((with_reducible refine bX_ ?_); refine aj_ rfl rfl rfl (aq_ rfl an_ Tryz.underlying45 rfl rfl) rfl rfl ?_) | ((with_reducible refine bW_ ?_); refine aj_ rfl rfl rfl (ax_ rfl Tryz.underlying45) rfl rfl ?_))) | (with_reducible first | refine ah_ ?_ | refine ao_ ?_ | refine ab_ ?_ | refine aA_ ?_ | refine be_ ?_ | refine bd_ ?_ | refine bf_ ?_ | refine bi_ ?_) | refine bS_ rfl ?_ | refine bs_ rfl ?_ | (refine aK_ rfl (fun hb => ?_) (fun hb => aH_ hb); (try simp only [bj_, reduceCtorEq] at hb)))
       all_goals exact rq1 rfl ⟨rfl, aD_⟩
     · rw [if_neg (by omega)]
       repeat' (first | with_reducible refine am_ ?_ | ((with_reducible refine al_ ?_); first | ((with_reducible refine ak_ ?_); refine ac_ (ag_ rfl) ?_) | ((with_reducible refine ae_ ?_); refine ac_ (ad_ rfl) ?_) | ((with_reducible refine av_ ?_); refine ac_ (aF_ rfl rfl) ?_) | ((with_reducible refine ap_ ?_); first | refine ac_ (aa_ (o := 8) rfl Tryz.underlying58 rfl zs4 rfl) ?_ | refine ac_ (aa_ (o := 9) rfl Tryz.underlying58 rfl zs45 rfl) ?_) | ((with_reducible refine au_ ?_); first | refine ac_ (aq_ rfl an_ Tryz.underlying4 rfl rfl) ?_ | refine ac_ (aq_ rfl an_ Tryz.underlying45 rfl rfl) ?_) | ((with_reducible refine aS_ ?_); refine ac_ (aT_ rfl rfl) ?_) | ((with_reducible refine ba_ (f := 107) ?_); refine ac_ (aJ_ rfl rfl (c107 (s.grow aD_) hn)) ?_) | ((with_reducible refine cG_ ?_); first | ((with_reducible refine bE_ ?_); refine aj_ rfl rfl rfl (bZ_ rfl rfl) rfl rfl ?_) | ((with_reducible refine bt_ ?_); refine aj_ rfl rfl rfl (aa_ (o := 9) rfl Tryz.underlying58 rfl zs45 rfl) rfl rfl ?_) | ((with_reducible refine bX_ ?_); refine aj_ rfl rfl rfl (aq_ rfl an_ Tryz.underlying45 rfl rfl) rfl rfl ?_) | ((with_reducible refine bW_ ?_); refine aj_ rfl rfl rfl (ax_ rfl Tryz.underlying45) rfl rfl ?_))) | (with_reducible first | refine ah_ ?_ | refine ao_ ?_ | refine ab_ ?_ | refine az_ ?_ | refine aA_ ?_ | refine be_ ?_ | refine bf_ ?_ | refine bi_ ?_) | refine bS_ rfl ?_ | refine bs_ rfl ?_ | (refine aK_ rfl (fun hb => aH_ hb) (fun hb => ?_); (try simp only [bj_, reduceCtorEq] at hb)))
       all_goals exact rq1 rfl ⟨rfl, aD_⟩
   | false =>
     rw [if_neg (by simp)]
     repeat' (first | with_reducible refine am_ ?_ | ((with_reducible refine al_ ?_); first | ((with_reducible refine ak_ ?_); refine ac_ (ag_ rfl) ?_) | ((with_reducible refine ae_ ?_); refine ac_ (ad_ rfl) ?_) | ((with_reducible refine av_ ?_); refine ac_ (aF_ rfl rfl) ?_) | ((with_reducible refine ap_ ?_); first | refine ac_ (aa_ (o := 8) rfl Tryz.underlying58 rfl zs4 rfl) ?_ | refine ac_ (aa_ (o := 9) rfl Tryz.underlying58 rfl zs45 rfl) ?_) | ((with_reducible refine au_ ?_); first | refine ac_ (aq_ rfl an_ Tryz.underlying4 rfl rfl) ?_ | refine ac_ (aq_ rfl an_ Tryz.underlying45 rfl rfl) ?_) | ((with_reducible refine aS_ ?_); refine ac_ (aO_ rfl rfl) ?_) | ((with_reducible refine ba_ (f := 107) ?_); refine ac_ (aJ_ rfl rfl (c107 (s.grow aD_) hn)) ?_) | ((with_reducible refine cG_ ?_); refine bC_ rfl rfl rfl rfl rfl rfl ?_)) | (with_reducible first | refine ah_ ?_ | refine ao_ ?_ | refine ab_ ?_ | refine az_ ?_ | refine aA_ ?_ | refine be_ ?_ | refine bf_ ?_ | refine bi_ ?_) | refine bS_ rfl ?_ | refine bs_ rfl ?_)
     all_goals exact rq1 rfl ⟨rfl, aD_⟩
theorem hdr_ok {hd : Nat → Int} (h : hdrE hd = 0) {i : Nat} (hi : i < 8) : hlo i ≤ hd i ∧ hd i ≤ hhi i := by
 have := firstNZ_zero h (hdE hd i) (List.mem_map_of_mem (List.mem_range.2 hi))
 unfold hdE at this
 rcases rng_cases (hd i) (hlo i) (hhi i) with ⟨_, r1, r2⟩ | ⟨e, _⟩
 · exact ⟨r1, r2⟩
 · rw [e] at this; exact absurd this (by decide)
theorem tr_ok {t : Trc} (h : trE t = 0) : hdrE t.hd = 0 ∧ lchk t.l = 0 ∧ (t.hole = true → t.n = 0) := by
 unfold trE at h
 by_cases h0 : hdrE t.hd ≠ 0
 · rw [if_pos h0] at h; exact absurd h h0
 · rw [if_neg h0] at h
   split at h
   · exact absurd h (by decide)
   · rename_i q
     exact ⟨by simpa using h0, h, fun e => by
       by_cases hn : 0 < t.n
       · exact absurd ⟨e, hn⟩ q
       · omega⟩
def offs (hd : Nat → Int) : Int := (hd 2 - hd 0) * (hd 2 - hd 0) + (hd 3 - hd 1) * (hd 3 - hd 1)
set_option maxHeartbeats 4000000 in
theorem c29 {t : Trc} : Cf (mz G) (.func (.func 29) #[] #[]) [.agg ⟨t.cells⟩] h fun r h' => r = .bool (decide (t.n ≤ 32 ∨ t.n = 1025)) ∧ Grow h h' := by
 obtain ⟨hd, hole, sa, n, c, l⟩ := t
 refine ar_ 6 [.tmp 2] Tryz.func29 rfl rfl rfl rfl ?_
 repeat' (first | with_reducible refine am_ ?_ | ((with_reducible refine al_ ?_); first | ((with_reducible refine ae_ ?_); refine ac_ (ad_ rfl) ?_) | ((with_reducible refine bw_ ?_); refine ac_ (aL_ rfl cw_ rfl) ?_) | ((with_reducible refine ap_ ?_); refine ac_ (aa_ (o := 9) rfl Tryz.underlying47 rfl zs45 rfl) ?_) | ((with_reducible refine au_ ?_); refine ac_ (aq_ rfl an_ Tryz.underlying45 rfl rfl) ?_) | ((with_reducible refine ba_ (f := 57) ?_); refine ac_ (aJ_ rfl rfl (c57)) ?_)) | (with_reducible first | refine ah_ ?_ | refine ao_ ?_ | refine ab_ ?_ | refine aA_ ?_))
 all_goals exact rq1 rfl ⟨rfl, aD_⟩
structure TrAt (h : H) (lo : Nat) (t : Trc) : Prop where
 at' : ∃ b sf, t.sa = some ⟨b, 0, some 0⟩ ∧ lo ≤ b ∧ At h b (.cells (t.l.map (.float .f32)) 23 1 sf)
 len : t.l.length = t.n
 cap : t.c = t.n
theorem TrAt.grow {h h' : H} {lo : Nat} {t : Trc} (o : TrAt h lo t) (g : Grow h h') : TrAt h' lo t := by
 obtain ⟨b, sf, e1, e2, e3⟩ := o.at'
 exact ⟨⟨b, sf, e1, e2, e3.grow g⟩, o.len, o.cap⟩
theorem TrAt.set {h : H} {lo B : Nat} {t : Trc} (o : TrAt h lo t) (hB : B < lo) (ob : AObj) : TrAt (h.set B ob) lo t := by
 obtain ⟨b, sf, e1, e2, e3⟩ := o.at'
 exact ⟨⟨b, sf, e1, e2, e3.set_ne (by omega) _⟩, o.len, o.cap⟩
theorem TrAt.le {h : H} {lo lo' : Nat} {t : Trc} (o : TrAt h lo t) (hl : lo' ≤ lo) : TrAt h lo' t := by
 obtain ⟨b, sf, e1, e2, e3⟩ := o.at'
 exact ⟨⟨b, sf, e1, by omega, e3⟩, o.len, o.cap⟩
theorem TrAt.ok {h : H} {lo : Nat} {t : Trc} (o : TrAt h lo t) : TrOk G h t := by
 obtain ⟨b, sf, e1, e2, e3⟩ := o.at'
 refine ⟨?_⟩
 rw [e1, o.cap]
 exact Sl.ofAt e3 (by simp [o.len]) (Nat.le_refl _)
set_option maxHeartbeats 4000000 in
theorem c59o {v : Value} {n : Nat} {l : List Nat} (s : Sl G h 1 v n (l.map (.float .f32))) (hn : n < 1000000) : Cf (mz G) (.func (.func 59) #[] #[]) [v] h fun r h' => (∃ b sf, r = .slice (some ⟨b, 0, some 0⟩) n n ∧ h.nx ≤ b ∧ At h' b (.cells (l.map (.float .f32)) 23 1 sf)) ∧ Grow h h' := by
 obtain ⟨a, c, rfl⟩ := s.form
 obtain ⟨r, h2, hap, s2, hg, hw⟩ := append_copy2 (M := mz G) (st := 45) (xt := 45) (h := h.push (.cells [] 23 1 false)) Tryz.underlying45 Tryz.underlying45 rfl zs23 zb23 zz23 rfl (At.new _ _) (s.grow ((Grow.refl _).push _)) (all_one_map (fun _ => rfl) l) (by omega)
 refine ar_ 6 [.tmp 2] Tryz.func59 rfl rfl rfl rfl ?_
 repeat' (first | with_reducible refine am_ ?_ | ((with_reducible refine al_ ?_); first | ((with_reducible refine ak_ ?_); refine ac_ (ag_ rfl) ?_) | ((with_reducible refine ae_ ?_); refine ac_ (ad_ rfl) ?_) | ((with_reducible refine aC_ ?_); refine ac_ (cJ_ rfl rfl hap) ?_) | ((with_reducible refine ca_ ?_); refine ac_ (cl_ rfl Tryz.underlying45 zs23 zz23 rfl rfl) ?_)) | (with_reducible first | refine ah_ ?_ | refine ao_ ?_ | refine ab_ ?_ | refine aA_ ?_))
 exact rq1 rfl ⟨s2, Grow.trans ((Grow.refl _).push _) hg⟩
set_option maxHeartbeats 4000000 in
theorem c34 {t : Trc} (o : TrOk G h t) (hn : t.n < 1000000) (hw : Wf h) : Cf (mz G) (.func (.func 34) #[] #[]) [.agg ⟨t.cells⟩] h fun r h' => (∃ a c, r = .agg ⟨Trc.cells ⟨t.hd, t.hole, a, t.n, c, t.l⟩⟩ ∧ TrAt h' h.nx ⟨t.hd, t.hole, a, t.n, c, t.l⟩) ∧ Grow h h' := by
 obtain ⟨hd, hole, sa, n, c, l⟩ := t
 have s := o.sl
 simp only at s hn
 have hl := s.length
 simp at hl
 dsimp only [Trc.cells]
 refine ar_ 11 [.cell 2 58] Tryz.func34 rfl rfl rfl rfl ?_
 repeat' (first | with_reducible refine am_ ?_ | ((with_reducible refine al_ ?_); first | ((with_reducible refine bw_ ?_); refine ac_ (aL_ rfl cw_ rfl) ?_) | ((with_reducible refine aU_ ?_); refine ac_ (aQ_ zz58 ch_ rfl rfl rfl) ?_)) | ((with_reducible refine bL_ ?_); ((with_reducible refine bK_ ?_); first | ((with_reducible refine bh_ ?_); first | refine bn_ (af_ rfl) rfl rfl (aE_ rfl (aa_ (o := 0) rfl Tryz.underlying47 rfl zs44 rfl)) rfl rfl rfl ?_ | refine bn_ (af_ rfl) rfl rfl (aE_ rfl (aa_ (o := 8) rfl Tryz.underlying47 rfl zs4 rfl)) rfl rfl rfl ?_ | refine bn_ (af_ rfl) rfl rfl (aE_ rfl (aa_ (o := 9) rfl Tryz.underlying47 rfl zs45 rfl)) rfl rfl rfl ?_) | ((with_reducible refine by_ ?_); first | refine bp_ (af_ rfl) rfl (aE_ rfl (ay_ rfl an_ Tryz.underlying44 rfl zs44 rfl rfl)) rfl rfl rfl ?_ | refine bp_ (af_ rfl) rfl (aE_ rfl (aq_ rfl an_ Tryz.underlying4 rfl rfl)) rfl rfl rfl ?_ | refine bp_ (af_ rfl) rfl (aE_ rfl (aq_ rfl an_ Tryz.underlying45 rfl rfl)) rfl rfl rfl ?_) | ((with_reducible refine xk_build ?_); refine bn_ (af_ rfl) rfl rfl (aE_ rfl (cz_ rfl zz58 zp58 rfl rfl)) rfl rfl rfl ?_) | ((with_reducible refine cf_ ?_); refine wx_ee0 (af_ rfl) rfl rfl (aM_ rfl rfl an_ ch_ rfl rfl rfl rfl) rfl ?_) | ((with_reducible refine xk_callF (f := 59) ?_); (refine aV_ (af_ rfl) rfl rfl rfl rfl (c59o (s.grow aD_) hn) rfl rfl ?_; rintro _ _ ⟨⟨b1, sf1, rfl, hb1, hat1⟩, hq⟩; all_goals ((try (have hqn := hq.nx)); (try simp only [bG_] at hqn)))) | with_reducible refine bN_ ?_ ?_)) | with_reducible exact bA_ | with_reducible refine bk_ ?_ ?_ | ((with_reducible refine bM_ ?_); first | exact bz_ | refine bx_ rfl ?_ | refine aB_ rfl rfl (aE_ rfl (ay_ rfl an_ Tryz.underlying44 rfl zs44 (by rfl) rfl)) ?_ | refine aB_ rfl rfl (aE_ rfl (aq_ rfl an_ Tryz.underlying4 rfl (by rfl))) ?_ | refine aB_ rfl rfl (aE_ rfl (aq_ rfl an_ Tryz.underlying45 rfl (by rfl))) ?_) | (with_reducible first | refine ah_ ?_ | refine ao_ ?_ | refine ab_ ?_ | refine aA_ ?_) | refine br_ (id := 1) 9 [0, 1, 0, 4, 0, 16, 48, 127, 255] [0, 1, 2, 3, 4, 5, 6, 7, 8] (by kernel_rfl) (by kernel_rfl) rfl rfl ?_)
 all_goals
   simp only [bG_] at hb1
   exact rqc1 rfl (ldAgg an_ Tryz.underlying58 rfl ch_ rfl rfl) ⟨⟨_, _, rfl, ⟨⟨b1, sf1, rfl, by omega, At.set_ne hat1 z4_A _⟩, hl, rfl⟩⟩, aD_⟩
end Go.Proofs.YthnnndkfpamacaaGreatDoor
/- Lists of traces. -/
namespace Go.Proofs.YthnnndkfpamacaaGreatDoor
open Go Go.Ab Go.Fl
attribute [local irreducible] SeqQ BlkQ LpQ RetQ Wc Wo WD WX Op1 Op1q Op1a Cf Cl From
attribute [local irreducible] Ieee.Format.order Ieee.Format.read Ieee.Format.nearest Ieee.Format.write Ieee.Format.mul Ieee.Format.div Ieee.Datum.order Ieee.Datum.integral smpE smp smpW K J U trE hdrE lchk firstNZ
set_option maxRecDepth 10000
variable {G : Base} {h : H}
structure SlT (G : Base) (h : H) (v : Value) (n : Nat) (ts : List Trc) : Prop where
 sl : Sl G h 10 v n (ts.flatMap Trc.cells)
 len : ts.length = n
 ok : ∀ t ∈ ts, TrOk G h t
theorem SlT.grow {h h' : H} {v : Value} {n : Nat} {ts : List Trc} (s : SlT G h v n ts) (g : Grow h h') : SlT G h' v n ts := ⟨s.sl.grow g, s.len, fun t ht => (s.ok t ht).grow g⟩
theorem flat_drop : ∀ (ts : List Trc) (k : Nat) (hk : k < ts.length), (ts.flatMap Trc.cells).drop (k * 10) = (ts[k]).cells ++ (ts.drop (k + 1)).flatMap Trc.cells
 | t :: ts, 0, _ => by simp
 | t :: ts, k + 1, hk => by
   have ih := flat_drop ts k (by simpa using hk)
   have e : ((t :: ts).flatMap Trc.cells).drop ((k + 1) * 10) = (ts.flatMap Trc.cells).drop (k * 10) := by
     rw [List.flatMap_cons, show (k + 1) * 10 = t.cells.length + k * 10 by simp; omega, List.drop_append]
     simp
   rw [e, ih]; rfl
theorem cells_left {G : Base} {h : H} {a : Addr} {x y : List Value} (c : Cells G h a (x ++ y)) : Cells G h a x := ⟨c.lt, fun i v q => c.get i v (by rw [List.getElem?_append_left (List.getElem?_eq_some_iff.1 q).1]; exact q), c.spot, c.own⟩
theorem cA_ {v : Value} {n : Nat} {ts : List Trc} (s : SlT G h v n ts) {st et : TypeId} (hu : Tryz.prog.underlying st = some (.slice et)) (hz : tsz Tryz.prog et = some 10) {i : Int} {q : Nat} (hq : q < n) (hi : i = (q : Int)) :
   ∃ ad, aindexAddr Tryz.prog st v (.int .i64 i) = some (.pointer (some ad)) ∧ Cells G h ad (ts[q]'(by rw [s.len]; exact hq)).cells := by
 have hl := s.len
 obtain ⟨ad, h1, h2⟩ := s.sl.addr (M := mz G) hu (es := 10) hz (i := i) (k := .i64) (by omega) (by omega)
 rw [show i.toNat * 10 = q * 10 by omega, flat_drop ts q (by omega)] at h2
 exact ⟨ad, h1, cells_left h2⟩
theorem bJ_ {M : Mc} {l : KL} {h : H} {t : TypeId} {x : Operand} {a : Addr} {c : List Value} {d : TypeDesc} {n : Nat} (hx : val l x = some (.pointer (some a))) (hu : M.P.underlying t = some d) (hd : isAggD d = true) (hn : tsz M.P t = some n) (hc : acells M.G h n a = some c) : Op1 M (.load t x) l h (.agg ⟨c⟩) h :=
 op_load hx (ld_agg hu hd hn hc)
set_option maxHeartbeats 4000000 in
theorem c108 {v : Value} {n : Nat} {ts : List Trc} (s : SlT G h v n ts) (hn : n < 1000000) (hl : ∀ t ∈ ts, t.n < 1000000) (hw : Wf h) (hG : ∀ a v, laidBase a = some v → G a = some v) : Cf (mz G) (.func (.func 108) #[] #[]) [v, .func (.func 40) #[] #[]] h fun r h' => r = .int .i64 (firstNZ (ts.map trE)) ∧ Grow h h' := by
 obtain ⟨a, c, rfl⟩ := s.sl.form
 have hlen := s.len
 refine ar_ 21 [.tmp 4] Tryz.func108 rfl rfl rfl rfl ?_
 repeat' (first | with_reducible refine am_ ?_ | ((with_reducible refine al_ ?_); first | ((with_reducible refine ak_ ?_); refine ac_ (ag_ rfl) ?_) | ((with_reducible refine ae_ ?_); refine ac_ (ad_ rfl) ?_) | ((with_reducible refine aC_ ?_); refine ac_ (ax_ rfl Tryz.underlying52) ?_)) | (with_reducible first | refine ah_ ?_ | refine ao_ ?_ | refine ab_ ?_ | refine at_ ?_))
 refine bq_ (fun k => n - k) (fun k : Nat => [(1, .func (.func 40) #[] #[]), (8, .slice a n c), (9, .int .i64 n), (10, .int .i64 k)]) (fun k h' => (Wf h' ∧ Grow h h') ∧ k ≤ n ∧ firstNZ ((ts.drop k).map trE) = firstNZ (ts.map trE)) 0 (ai_ ⟨rfl, rfl, rfl, rfl, trivial⟩) ⟨⟨hw, .refl _⟩, Nat.zero_le _, rfl⟩ ?_
 rintro k h' ⟨⟨hw', hgr⟩, hk, hi⟩
 have hgn := hgr.nx
 by_cases hlt : k < n
 · obtain ⟨ad, h1, h3⟩ := cA_ (s.grow hgr) Tryz.underlying52 ch_ (i := (k : Int)) hlt rfl
   have hm : ts[k]'(by omega) ∈ ts := List.getElem_mem _
   rw [List.drop_eq_getElem_cons (by omega), List.map_cons, firstNZ] at hi
   obtain ⟨t, ht⟩ : ∃ t, ts[k]'(by omega) = t := ⟨_, rfl⟩
   rw [ht] at h3 hm hi
   have q40 := fun (h2 : H) (g : Grow h h2) (hw2 : Wf h2) => c40 ((s.ok t hm).grow g) (hl t hm) hw2 hG
   obtain ⟨E, hE⟩ : ∃ E, trE t = E := ⟨_, rfl⟩
   rw [hE] at q40 hi
   clear hE ht hm
   obtain ⟨hd, hole, sa, tn, tc, tl⟩ := t
   dsimp only [Trc.cells] at h3
   repeat' (first | with_reducible refine am_ ?_ | ((with_reducible refine al_ ?_); first | ((with_reducible refine ak_ ?_); refine ac_ (ag_ rfl) ?_) | ((with_reducible refine ae_ ?_); refine ac_ (ad_ rfl) ?_) | ((with_reducible refine aw_ ?_); refine ac_ (as_ rfl rfl h1) ?_) | ((with_reducible refine au_ ?_); first | refine ac_ (bJ_ rfl Tryz.underlying58 rfl ch_ h3.all) ?_ | refine ac_ (ay_ rfl an_ Tryz.underlying58 rfl ch_ rfl rfl) ?_) | ((with_reducible refine av_ ?_); first | refine ac_ (aF_ rfl rfl) ?_ | refine ac_ (bm_ rfl rfl) ?_ | refine ac_ (aR_ rfl rfl (w64 (by omega) (by omega))) ?_) | ((with_reducible refine aU_ ?_); refine ac_ (aQ_ zz58 ch_ rfl rfl rfl) ?_) | ((with_reducible refine aG_ ?_); refine ci_ (aM_ rfl rfl an_ ch_ rfl rfl rfl rfl) ?_) | ((with_reducible refine aN_ ?_); (refine aW_ rfl rfl rfl rfl ((q40 _ aD_ aZ_)) rfl rfl ?_; rintro _ _ ⟨rfl, hq⟩; all_goals ((try (have hqn := hq.nx)); (try simp only [bG_] at hqn))))) | (with_reducible first | refine ah_ ?_ | refine ao_ ?_ | refine ab_ ?_ | refine az_ ?_ | refine aA_ ?_ | refine at_ ?_ | refine aP_ ?_ | refine bV_ ?_ | refine bd_ ?_ | refine cx_ ?_) | (refine aK_ rfl (fun hb => ?_) (fun hb => ?_) <;> (try simp only [bj_, reduceCtorEq] at hb) <;> (try (exfalso; omega))))
   · refine rq1 rfl ⟨?_, aD_⟩
     rw [if_neg hb] at hi; rw [hi]
   · refine aX_ (k + 1) (by omega) (ai_ ⟨rfl, rfl, rfl, rfl, trivial⟩) ⟨⟨aZ_, aD_⟩, by omega, ?_⟩
     rw [if_pos hb] at hi; exact hi
 · repeat' (first | with_reducible refine am_ ?_ | ((with_reducible refine al_ ?_); first | ((with_reducible refine ae_ ?_); refine ac_ (ad_ rfl) ?_) | ((with_reducible refine av_ ?_); refine ac_ (aF_ rfl rfl) ?_)) | (with_reducible first | refine ah_ ?_ | refine ao_ ?_ | refine ab_ ?_ | refine aA_ ?_ | refine be_ ?_ | refine bf_ ?_ | refine bi_ ?_) | refine bS_ rfl ?_ | (refine aK_ rfl (fun hb => ?_) (fun hb => ?_) <;> (try simp only [bj_, reduceCtorEq] at hb) <;> (try (exfalso; omega))))
   refine rq1 rfl ⟨?_, hgr⟩
   rw [List.drop_eq_nil_of_le (by omega)] at hi
   rw [← hi]; unfold firstNZ; rfl
def wid : List Trc → Nat
 | [] => 0
 | t :: ts => if t.hole then wid ts else t.n
def anyW : List Trc → Bool
 | [] => false
 | t :: ts => if t.hole then anyW ts else true
@[reducible] def shC (nm : ByteArray) (a : Option Addr) (n c : Nat) : List Value := [.string nm, .slice a n c]
set_option maxHeartbeats 4000000 in
theorem c105 {nm : ByteArray} {a : Option Addr} {n c : Nat} {ts : List Trc} (s : SlT G h (.slice a n c) n ts) (hn : n < 1000000) (hw : Wf h) : Cf (mz G) (.func (.func 105) #[] #[]) [.agg ⟨shC nm a n c⟩] h fun r h' => r = .tuple #[.int .i64 (wid ts : Nat), .bool (anyW ts)] ∧ Grow h h' := by
 have hlen := s.len
 refine ar_ 26 [.tmp 2, .tmp 3] Tryz.func105 rfl rfl rfl rfl ?_
 repeat' (first | with_reducible refine am_ ?_ | ((with_reducible refine al_ ?_); first | ((with_reducible refine ae_ ?_); refine ac_ (ad_ rfl) ?_) | ((with_reducible refine bw_ ?_); refine ac_ (aL_ rfl ce_ rfl) ?_)) | (with_reducible first | refine ah_ ?_ | refine ao_ ?_ | refine ab_ ?_ | refine at_ ?_))
 refine bq_ (fun k => n - k) (fun k : Nat => [(1, .pointer (some ⟨h.nx, 0, some 0⟩)), (4, .int .i64 k)]) (fun k h' => (Wf h' ∧ Grow h h' ∧ At h' h.nx (.cells (shC nm a n c) 43 2 false)) ∧ k ≤ n ∧ wid (ts.drop k) = wid ts ∧ anyW (ts.drop k) = anyW ts) 0 (ai_ ⟨rfl, rfl, trivial⟩) ⟨⟨aZ_, aD_, an_⟩, Nat.zero_le _, rfl, rfl⟩ ?_
 rintro k h' ⟨⟨hw', hgr, hat⟩, hk, hi, hi2⟩
 have hgn := hgr.nx
 by_cases hlt : k < n
 · obtain ⟨ad, h1, h3⟩ := cA_ (s.grow hgr) Tryz.underlying41 cw_ (i := (k : Int)) hlt rfl
   rw [List.drop_eq_getElem_cons (by omega)] at hi hi2
   obtain ⟨t, ht⟩ : ∃ t, ts[k]'(by omega) = t := ⟨_, rfl⟩
   rw [ht] at h3 hi hi2
   obtain ⟨hd, hole, sa, tn, tc, tl⟩ := t
   dsimp only [Trc.cells] at h3
   have f1 := h3.get 8 _ rfl
   have f2 := h3.get 9 _ rfl
   simp only [wid, anyW] at hi hi2
   cases hole with
   | true =>
     repeat' (first | with_reducible refine am_ ?_ | ((with_reducible refine al_ ?_); first | ((with_reducible refine ak_ ?_); refine ac_ (ag_ rfl) ?_) | ((with_reducible refine ae_ ?_); refine ac_ (ad_ rfl) ?_) | ((with_reducible refine aw_ ?_); refine ac_ (as_ rfl rfl h1) ?_) | ((with_reducible refine au_ ?_); first | refine ac_ (aI_ rfl Tryz.underlying4 rfl f1) ?_ | refine ac_ (aq_ rfl an_ Tryz.underlying41 rfl rfl) ?_) | ((with_reducible refine ap_ ?_); first | refine ac_ (aa_ (o := 1) rfl Tryz.underlying43 rfl cL_ rfl) ?_ | refine ac_ (aa_ (o := 8) rfl Tryz.underlying47 rfl zs4 rfl) ?_) | ((with_reducible refine aC_ ?_); refine ac_ (ax_ rfl Tryz.underlying41) ?_) | ((with_reducible refine av_ ?_); first | refine ac_ (aF_ rfl rfl) ?_ | refine ac_ (aR_ rfl rfl (w64 (by omega) (by omega))) ?_) | ((with_reducible refine cj_ ?_); refine ac_ (bv_ rfl) ?_)) | (with_reducible first | refine ah_ ?_ | refine ao_ ?_ | refine ab_ ?_ | refine az_ ?_ | refine at_ ?_ | refine aP_ ?_) | refine bs_ rfl ?_ | (refine aK_ rfl (fun hb => ?_) (fun hb => aH_ hb); (try simp only [bj_, reduceCtorEq] at hb)))
     all_goals exact aX_ (k + 1) (by omega) (ai_ ⟨rfl, rfl, trivial⟩) ⟨⟨aZ_, aD_, an_⟩, by omega, by simpa using hi, by simpa using hi2⟩
   | false =>
     repeat' (first | with_reducible refine am_ ?_ | ((with_reducible refine al_ ?_); first | ((with_reducible refine ak_ ?_); refine ac_ (ag_ rfl) ?_) | ((with_reducible refine ae_ ?_); refine ac_ (ad_ rfl) ?_) | ((with_reducible refine aw_ ?_); refine ac_ (as_ rfl rfl h1) ?_) | ((with_reducible refine au_ ?_); first | refine ac_ (aI_ rfl Tryz.underlying4 rfl f1) ?_ | refine ac_ (aI_ rfl Tryz.underlying45 rfl f2) ?_ | refine ac_ (aq_ rfl an_ Tryz.underlying41 rfl rfl) ?_) | ((with_reducible refine ap_ ?_); first | refine ac_ (aa_ (o := 1) rfl Tryz.underlying43 rfl cL_ rfl) ?_ | refine ac_ (aa_ (o := 8) rfl Tryz.underlying47 rfl zs4 rfl) ?_ | refine ac_ (aa_ (o := 9) rfl Tryz.underlying47 rfl zs45 rfl) ?_) | ((with_reducible refine aC_ ?_); first | refine ac_ (ax_ rfl Tryz.underlying41) ?_ | refine ac_ (ax_ rfl Tryz.underlying45) ?_) | ((with_reducible refine av_ ?_); refine ac_ (aF_ rfl rfl) ?_) | ((with_reducible refine cj_ ?_); refine ac_ (bv_ rfl) ?_)) | (with_reducible first | refine ah_ ?_ | refine ao_ ?_ | refine ab_ ?_ | refine az_ ?_ | refine aA_ ?_ | refine at_ ?_ | refine bV_ ?_ | refine bd_ ?_ | refine cx_ ?_) | refine bP_ rfl ?_ | (refine aK_ rfl (fun hb => ?_) (fun hb => aH_ hb); (try simp only [bj_, reduceCtorEq] at hb)))
     all_goals
       refine rq2 rfl rfl ⟨?_, aD_⟩
       simp only [Bool.false_eq_true, if_false] at hi hi2
       rw [← hi, ← hi2]
       try rfl
 · repeat' (first | with_reducible refine am_ ?_ | ((with_reducible refine al_ ?_); first | ((with_reducible refine ak_ ?_); refine ac_ (ag_ rfl) ?_) | ((with_reducible refine ae_ ?_); refine ac_ (ad_ rfl) ?_) | ((with_reducible refine ap_ ?_); refine ac_ (aa_ (o := 1) rfl Tryz.underlying43 rfl cL_ rfl) ?_) | ((with_reducible refine au_ ?_); refine ac_ (aq_ rfl an_ Tryz.underlying41 rfl rfl) ?_) | ((with_reducible refine aC_ ?_); refine ac_ (ax_ rfl Tryz.underlying41) ?_) | ((with_reducible refine av_ ?_); refine ac_ (aF_ rfl rfl) ?_)) | (with_reducible first | refine ah_ ?_ | refine ao_ ?_ | refine ab_ ?_ | refine aA_ ?_ | refine be_ ?_ | refine bf_ ?_ | refine bi_ ?_) | refine bS_ rfl ?_ | (refine aK_ rfl (fun hb => ?_) (fun hb => ?_) <;> (try simp only [bj_, reduceCtorEq] at hb) <;> (try (exfalso; omega))))
   refine rq2 rfl rfl ⟨?_, hgr⟩
   rw [List.drop_eq_nil_of_le (by omega)] at hi hi2
   rw [← hi, ← hi2]; rfl
set_option maxHeartbeats 4000000 in
theorem c37 {nm : ByteArray} {a : Option Addr} {n c : Nat} {ts : List Trc} (s : SlT G h (.slice a n c) n ts) (hn : n < 1000000) (hw : Wf h) : Cf (mz G) (.func (.func 37) #[] #[]) [.agg ⟨shC nm a n c⟩] h fun r h' => r = .int .i64 (wid ts : Nat) ∧ Grow h h' := by
 refine ar_ 11 [.tmp 2] Tryz.func37 rfl rfl rfl rfl ?_
 repeat' (first | with_reducible refine am_ ?_ | ((with_reducible refine al_ ?_); first | ((with_reducible refine ak_ ?_); refine ac_ (ag_ rfl) ?_) | ((with_reducible refine ae_ ?_); refine ac_ (ad_ rfl) ?_) | ((with_reducible refine bw_ ?_); refine ac_ (aL_ rfl ce_ rfl) ?_) | ((with_reducible refine au_ ?_); refine ac_ (ay_ rfl an_ Tryz.underlying43 rfl ce_ rfl rfl) ?_) | ((with_reducible refine bR_ ?_); refine ac_ (bD_ rfl rfl) ?_) | ((with_reducible refine ba_ (f := 105) ?_); (refine aW_ rfl rfl rfl rfl (c105 (s.grow aD_) hn aZ_) rfl rfl ?_; rintro _ _ ⟨rfl, hq⟩; all_goals ((try (have hqn := hq.nx)); (try simp only [bG_] at hqn))))) | (with_reducible first | refine ah_ ?_ | refine ao_ ?_ | refine ab_ ?_ | refine aA_ ?_))
 all_goals exact rq1 rfl ⟨rfl, aD_⟩
def holL : Nat → List Trc → List Int
 | _, [] => []
 | k, t :: ts => if t.hole then (k : Int) :: holL (k + 1) ts else holL (k + 1) ts
theorem holL_len : ∀ (ts : List Trc) (k : Nat), (holL k ts).length ≤ ts.length
 | [], _ => by simp [holL]
 | t :: ts, k => by
   have := holL_len ts (k + 1)
   unfold holL
   split <;> simp <;> omega
def mism (w : Nat) (ts : List Trc) : Bool := ts.any fun t => !t.hole && decide (t.n ≠ w)
def shE (nm : ByteArray) (ts : List Trc) : Int := if isNameB nm = false then 8 else if ts.length = 0 then 12 else if 64 < ts.length then 5 else if firstNZ (ts.map trE) ≠ 0 then firstNZ (ts.map trE) else if mism (wid ts) ts = true then 2 else 0
end Go.Proofs.YthnnndkfpamacaaGreatDoor
