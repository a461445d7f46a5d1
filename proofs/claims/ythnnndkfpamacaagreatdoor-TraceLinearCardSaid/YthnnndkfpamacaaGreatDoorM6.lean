/- Short shots; cuts of shots, told as lists of traces. -/
import Derived.Test.YthnnndkfpamacaaGreatDoorM4
set_option linter.all false
/- What short shots are. -/
namespace Go.Proofs.YthnnndkfpamacaaGreatDoor
open Go Go.Ab Go.Fl
variable {G : Base} {h : H}
theorem short_facts {nm : ByteArray} {v : Value} {n : Nat} {ts : List Trc} (s : SlT G h v n ts) (h1 : shortB nm ts = true) : n ≤ 65 ∧ (∀ t ∈ ts, t.n < 1000000) ∧ nm.size ≤ 1000000 := by
 unfold shortB at h1
 simp only [Bool.and_eq_true, decide_eq_true_eq, List.all_eq_true] at h1
 obtain ⟨⟨z1, z2⟩, z3⟩ := h1
 have hlen := s.len
 refine ⟨by omega, fun u hu => ?_, by omega⟩
 have := z3 u hu
 unfold shortT at this
 have := of_decide_eq_true this
 omega
/- Shots with small samples. -/
attribute [local irreducible] SeqQ BlkQ LpQ RetQ Wc Wo WD WX Op1 Op1q Op1a Cf Cl From
attribute [local irreducible] Ieee.Format.order Ieee.Format.read Ieee.Format.nearest Ieee.Format.write Ieee.Format.mul Ieee.Format.div Ieee.Datum.order Ieee.Datum.integral smpE smp smpW K J U trE hdrE lchk firstNZ isNameB wid mism shE offs shortB
set_option maxRecDepth 10000
def bigU (x : Nat) : Bool := Ieee.single.order x 1120403456 == some .gt
def bigD (x : Nat) : Bool := Ieee.single.order x 3267887104 == some .lt
def bigS (x : Nat) : Bool := bigU x || bigD x
def bigT (t : Trc) : Bool := t.l.any bigS
def smallB (nm : ByteArray) (ts : List Trc) : Bool := shortB nm ts && (decide (shE nm ts = 0) && (decide (wid ts ≤ 24) && !(ts.any bigT)))
set_option maxHeartbeats 4000000 in
theorem c80 {nm : ByteArray} {a : Option Addr} {n c : Nat} {ts : List Trc} (s : SlT G h (.slice a n c) n ts) (hw : Wf h) : Cf (mz G) (.func (.func 80) #[] #[]) [.agg ⟨shC nm a n c⟩] h fun r h' => r = .bool (smallB nm ts) ∧ Grow h h' := by
 have hlen := s.len
 have q28 := fun (h' : H) (g : Grow h h') (w : Wf h') => c28 (nm := nm) (s.grow g) w
 by_cases hS : shortB nm ts = false
 · have hr : smallB nm ts = false := by unfold smallB; rw [hS]; rfl
   rw [hS] at q28
   rw [hr]
   refine ar_ 42 [.tmp 2] Tryz.func80 rfl rfl rfl rfl ?_
   repeat' (first | with_reducible refine am_ ?_ | ((with_reducible refine al_ ?_); first | ((with_reducible refine ak_ ?_); refine ac_ (ag_ rfl) ?_) | ((with_reducible refine ae_ ?_); refine ac_ (ad_ rfl) ?_) | ((with_reducible refine bw_ ?_); refine ac_ (aL_ rfl ce_ rfl) ?_) | ((with_reducible refine au_ ?_); refine ac_ (ay_ rfl an_ Tryz.underlying43 rfl ce_ rfl rfl) ?_) | ((with_reducible refine cj_ ?_); refine ac_ (bv_ rfl) ?_) | ((with_reducible refine aS_ ?_); refine ac_ (aT_ rfl rfl) ?_) | ((with_reducible refine aN_ ?_); (refine aW_ rfl rfl rfl rfl (q28 _ aD_ aZ_) rfl rfl ?_; rintro _ _ ⟨rfl, hq⟩; all_goals ((try (have hqn := hq.nx)); (try simp only [bG_] at hqn)))) | ((with_reducible refine cG_ ?_); refine bC_ rfl rfl rfl rfl rfl rfl ?_)) | (with_reducible first | refine ah_ ?_ | refine ao_ ?_ | refine ab_ ?_ | refine aA_ ?_ | refine bd_ ?_) | refine bP_ rfl ?_)
   all_goals exact rq1 rfl ⟨rfl, aD_⟩
 have hS : shortB nm ts = true := by simpa using hS
 obtain ⟨a1, a2, a3⟩ := short_facts s hS
 rw [hS] at q28
 have q35 := fun (h' : H) (g : Grow h h') (w : Wf h') => c35 (nm := nm) (s.grow g) (by omega) a2 a3 w
 have q37 := fun (h' : H) (g : Grow h h') (w : Wf h') => c37 (nm := nm) (s.grow g) (by omega) w
 have hr : smallB nm ts = (decide (shE nm ts = 0) && (decide (wid ts ≤ 24) && !(ts.any bigT))) := by unfold smallB; rw [hS]; rfl
 rw [hr]
 clear hr hS a3
 obtain ⟨E, hE⟩ : ∃ E, shE nm ts = E := ⟨_, rfl⟩
 obtain ⟨W, hW⟩ : ∃ E, wid ts = E := ⟨_, rfl⟩
 rw [hE] at q35 ⊢
 rw [hW] at q37 ⊢
 by_cases hE0 : E ≠ 0
 · rw [decide_eq_false hE0]
   refine ar_ 42 [.tmp 2] Tryz.func80 rfl rfl rfl rfl ?_
   repeat' (first | with_reducible refine am_ ?_ | ((with_reducible refine al_ ?_); first | ((with_reducible refine ak_ ?_); refine ac_ (ag_ rfl) ?_) | ((with_reducible refine ae_ ?_); refine ac_ (ad_ rfl) ?_) | ((with_reducible refine bw_ ?_); refine ac_ (aL_ rfl ce_ rfl) ?_) | ((with_reducible refine au_ ?_); refine ac_ (ay_ rfl an_ Tryz.underlying43 rfl ce_ rfl rfl) ?_) | ((with_reducible refine cj_ ?_); refine ac_ (bv_ rfl) ?_) | ((with_reducible refine aS_ ?_); first | refine ac_ (aT_ rfl rfl) ?_ | refine ac_ (aO_ rfl rfl) ?_) | ((with_reducible refine aN_ ?_); (refine aW_ rfl rfl rfl rfl (q28 _ aD_ aZ_) rfl rfl ?_; rintro _ _ ⟨rfl, hq⟩; all_goals ((try (have hqn := hq.nx)); (try simp only [bG_] at hqn)))) | ((with_reducible refine cG_ ?_); first | refine bC_ rfl rfl rfl rfl rfl rfl ?_ | ((with_reducible refine bX_ ?_); refine aj_ rfl rfl rfl (ay_ rfl an_ Tryz.underlying43 rfl ce_ rfl rfl) rfl rfl ?_) | ((with_reducible refine bE_ ?_); refine aj_ rfl rfl rfl (bm_ rfl rfl) rfl rfl ?_) | ((with_reducible refine ig_callv ?_); (refine cq_ rfl rfl rfl rfl rfl rfl (q35 _ aD_ aZ_) rfl rfl ?_; rintro _ _ ⟨rfl, hq⟩; all_goals ((try (have hqn := hq.nx)); (try simp only [bG_] at hqn)))) | (refine bb_ rfl rfl rfl (fun hb => ?_) (fun hb => aH_ hb); (try simp only [bj_, reduceCtorEq] at hb)))) | (with_reducible first | refine ah_ ?_ | refine ao_ ?_ | refine ab_ ?_ | refine aA_ ?_ | refine bd_ ?_) | refine bP_ rfl ?_)
   all_goals exact rq1 rfl ⟨rfl, aD_⟩
 have hE0 : E = 0 := by simpa using hE0
 subst hE0
 by_cases hW0 : 24 < W
 · rw [decide_eq_false (by omega : ¬ W ≤ 24)]
   refine ar_ 42 [.tmp 2] Tryz.func80 rfl rfl rfl rfl ?_
   repeat' (first | with_reducible refine am_ ?_ | ((with_reducible refine al_ ?_); first | ((with_reducible refine ak_ ?_); refine ac_ (ag_ rfl) ?_) | ((with_reducible refine ae_ ?_); refine ac_ (ad_ rfl) ?_) | ((with_reducible refine bw_ ?_); refine ac_ (aL_ rfl ce_ rfl) ?_) | ((with_reducible refine au_ ?_); refine ac_ (ay_ rfl an_ Tryz.underlying43 rfl ce_ rfl rfl) ?_) | ((with_reducible refine cj_ ?_); refine ac_ (bv_ rfl) ?_) | ((with_reducible refine aS_ ?_); refine ac_ (aO_ rfl rfl) ?_) | ((with_reducible refine aN_ ?_); (refine aW_ rfl rfl rfl rfl (q28 _ aD_ aZ_) rfl rfl ?_; rintro _ _ ⟨rfl, hq⟩; all_goals ((try (have hqn := hq.nx)); (try simp only [bG_] at hqn)))) | ((with_reducible refine cG_ ?_); first | ((with_reducible refine bX_ ?_); refine aj_ rfl rfl rfl (ay_ rfl an_ Tryz.underlying43 rfl ce_ rfl rfl) rfl rfl ?_) | ((with_reducible refine bE_ ?_); first | refine aj_ rfl rfl rfl (bm_ rfl rfl) rfl rfl ?_ | refine aj_ rfl rfl rfl (bZ_ rfl rfl) rfl rfl ?_) | ((with_reducible refine ig_callv ?_); first | (refine cq_ rfl rfl rfl rfl rfl rfl (q35 _ aD_ aZ_) rfl rfl ?_; rintro _ _ ⟨rfl, hq⟩; all_goals ((try (have hqn := hq.nx)); (try simp only [bG_] at hqn))) | (refine cq_ rfl rfl rfl rfl rfl rfl (q37 _ aD_ aZ_) rfl rfl ?_; rintro _ _ ⟨rfl, hq⟩; all_goals ((try (have hqn := hq.nx)); (try simp only [bG_] at hqn)))))) | (with_reducible first | refine ah_ ?_ | refine ao_ ?_ | refine ab_ ?_ | refine aA_ ?_ | refine bd_ ?_) | (refine aK_ rfl (fun hb => ?_) (fun hb => aH_ hb); (try simp only [bj_, reduceCtorEq] at hb)))
   all_goals exact rq1 rfl ⟨rfl, aD_⟩
 rw [decide_eq_true (by omega : W ≤ 24), show (decide ((0 : Int) = 0) && (true && !ts.any bigT)) = !ts.any bigT from rfl]
 refine ar_ 42 [.tmp 2] Tryz.func80 rfl rfl rfl rfl ?_
 repeat' (first | with_reducible refine am_ ?_ | ((with_reducible refine al_ ?_); first | ((with_reducible refine ak_ ?_); refine ac_ (ag_ rfl) ?_) | ((with_reducible refine ae_ ?_); refine ac_ (ad_ rfl) ?_) | ((with_reducible refine bw_ ?_); refine ac_ (aL_ rfl ce_ rfl) ?_) | ((with_reducible refine au_ ?_); first | refine ac_ (ay_ rfl an_ Tryz.underlying43 rfl ce_ rfl rfl) ?_ | refine ac_ (aq_ rfl an_ Tryz.underlying41 rfl rfl) ?_) | ((with_reducible refine cj_ ?_); refine ac_ (bv_ rfl) ?_) | ((with_reducible refine aS_ ?_); refine ac_ (aO_ rfl rfl) ?_) | ((with_reducible refine ap_ ?_); refine ac_ (aa_ (o := 1) rfl Tryz.underlying43 rfl cL_ rfl) ?_) | ((with_reducible refine aC_ ?_); refine ac_ (ax_ rfl Tryz.underlying41) ?_) | ((with_reducible refine aN_ ?_); (refine aW_ rfl rfl rfl rfl (q28 _ aD_ aZ_) rfl rfl ?_; rintro _ _ ⟨rfl, hq⟩; all_goals ((try (have hqn := hq.nx)); (try simp only [bG_] at hqn)))) | ((with_reducible refine cG_ ?_); first | ((with_reducible refine bX_ ?_); refine aj_ rfl rfl rfl (ay_ rfl an_ Tryz.underlying43 rfl ce_ rfl rfl) rfl rfl ?_) | ((with_reducible refine bE_ ?_); first | refine aj_ rfl rfl rfl (bm_ rfl rfl) rfl rfl ?_ | refine aj_ rfl rfl rfl (bZ_ rfl rfl) rfl rfl ?_) | ((with_reducible refine ig_callv ?_); first | (refine cq_ rfl rfl rfl rfl rfl rfl (q35 _ aD_ aZ_) rfl rfl ?_; rintro _ _ ⟨rfl, hq⟩; all_goals ((try (have hqn := hq.nx)); (try simp only [bG_] at hqn))) | (refine cq_ rfl rfl rfl rfl rfl rfl (q37 _ aD_ aZ_) rfl rfl ?_; rintro _ _ ⟨rfl, hq⟩; all_goals ((try (have hqn := hq.nx)); (try simp only [bG_] at hqn)))))) | (with_reducible first | refine ah_ ?_ | refine ao_ ?_ | refine ab_ ?_ | refine az_ ?_ | refine at_ ?_) | (refine aK_ rfl (fun hb => aH_ hb) (fun hb => ?_); (try simp only [bj_, reduceCtorEq] at hb)))
 refine bq_ (fun k => n - k) (fun k : Nat => [(1, .pointer (some ⟨h.nx, 0, some 0⟩)), (21, .slice a n c), (22, .int .i64 n), (23, .int .i64 k)]) (fun k h1 => (Wf h1 ∧ Grow h h1 ∧ h.nx + 1 ≤ h1.nx) ∧ k ≤ n ∧ (ts.drop k).any bigT = ts.any bigT) 0 (ai_ ⟨rfl, rfl, rfl, rfl, trivial⟩) ⟨⟨aZ_, aD_, (by first | omega | (simp only [H.nx_push] at hqn; omega))⟩, Nat.zero_le _, rfl⟩ ?_
 clear hqn hq q28 q35 q37
 rintro k h1 ⟨⟨w1, g1, n1⟩, hk, hi⟩
 by_cases hlt : k < n
 · obtain ⟨ad, f1, f3⟩ := cA_ (s.grow g1) Tryz.underlying41 cw_ (i := (k : Int)) hlt rfl
   rw [List.drop_eq_getElem_cons (by omega), List.any_cons] at hi
   have ot := s.ok _ (List.getElem_mem (show k < ts.length by omega))
   have otn := a2 _ (List.getElem_mem (show k < ts.length by omega))
   obtain ⟨t, ht⟩ : ∃ t, ts[k]'(by omega) = t := ⟨_, rfl⟩
   rw [ht] at f3 hi ot otn
   clear ht
   obtain ⟨hd, hole, sa, tn, tc, tl⟩ := t
   have qf := f3.all
   dsimp only [Trc.cells] at qf
   have osl := ot.sl
   have oll := osl.length
   simp at oll otn
   simp only at osl
   rw [show bigT ⟨hd, hole, sa, tn, tc, tl⟩ = tl.any bigS from rfl] at hi
   repeat' (first | with_reducible refine am_ ?_ | ((with_reducible refine al_ ?_); first | ((with_reducible refine ak_ ?_); refine ac_ (ag_ rfl) ?_) | ((with_reducible refine aw_ ?_); refine ac_ (as_ rfl rfl f1) ?_) | ((with_reducible refine au_ ?_); first | refine ac_ (bJ_ rfl Tryz.underlying47 rfl cw_ qf) ?_ | refine ac_ (aq_ rfl an_ Tryz.underlying45 rfl rfl) ?_) | ((with_reducible refine av_ ?_); refine ac_ (aF_ rfl rfl) ?_) | ((with_reducible refine ap_ ?_); refine ac_ (aa_ (o := 9) rfl Tryz.underlying47 rfl zs45 rfl) ?_) | ((with_reducible refine aC_ ?_); refine ac_ (ax_ rfl Tryz.underlying45) ?_) | ((with_reducible refine aU_ ?_); refine ac_ (aQ_ zz47 cw_ rfl rfl rfl) ?_) | ((with_reducible refine aG_ ?_); refine ci_ (aM_ rfl rfl an_ cw_ rfl rfl rfl rfl) ?_)) | (with_reducible first | refine ah_ ?_ | refine ao_ ?_ | refine ab_ ?_ | refine az_ ?_ | refine at_ ?_) | (refine aK_ rfl (fun hb => ?_) (fun hb => aH_ hb); (try simp only [bj_, reduceCtorEq] at hb)))
   refine bq_ (fun j => tn - j) (fun j : Nat => [(1, .pointer (some ⟨h.nx, 0, some 0⟩)), (21, .slice a n c), (22, .int .i64 n), (23, .int .i64 k), (28, .slice sa tn tc), (29, .int .i64 tn), (30, .int .i64 j)]) (fun j h2 => (Wf h2 ∧ Grow h h2 ∧ h.nx + 1 ≤ h2.nx) ∧ j ≤ tn ∧ (tl.drop j).any bigS = tl.any bigS) 0 (ai_ ⟨rfl, rfl, rfl, rfl, rfl, rfl, rfl, trivial⟩) ⟨⟨aZ_, aD_, (by simp only [H.nx_push, H.nx_set]; omega)⟩, Nat.zero_le _, rfl⟩ ?_
   clear w1 g1 n1 f1 f3 qf
   rintro j h2 ⟨⟨w2, g2, n2⟩, hj, hi2⟩
   by_cases hjt : j < tn
   · obtain ⟨bd, e1, e2⟩ := sl_at (osl.grow g2) (i := (j : Int)) hjt rfl
     rw [List.drop_eq_getElem_cons (by omega), List.any_cons] at hi2
     obtain ⟨x, hx⟩ : ∃ x, tl[j]'(by omega) = x := ⟨_, rfl⟩
     rw [hx] at e2 hi2
     obtain ⟨u, hu⟩ : ∃ u, bigU x = u := ⟨_, rfl⟩
     obtain ⟨d, hd'⟩ : ∃ u, bigD x = u := ⟨_, rfl⟩
     rw [show bigS x = (bigU x || bigD x) from rfl, hu, hd'] at hi2
     unfold bigU at hu
     unfold bigD at hd'
     cases u with
     | true =>
       rw [show (true || d || (tl.drop (j + 1)).any bigS) = true from rfl] at hi2
       repeat' (first | with_reducible refine am_ ?_ | ((with_reducible refine al_ ?_); first | ((with_reducible refine ak_ ?_); refine ac_ (ag_ rfl) ?_) | ((with_reducible refine ae_ ?_); refine ac_ (ad_ rfl) ?_) | ((with_reducible refine aw_ ?_); refine ac_ (as_ rfl rfl e1) ?_) | ((with_reducible refine au_ ?_); refine ac_ (aI_ rfl Tryz.underlying23 rfl e2) ?_) | ((with_reducible refine av_ ?_); first | refine ac_ (op_fgtr rfl rfl hu) ?_ | refine ac_ (aF_ rfl rfl) ?_) | ((with_reducible refine aS_ ?_); refine ac_ (aT_ rfl rfl) ?_) | ((with_reducible refine cG_ ?_); refine bC_ rfl rfl rfl rfl rfl rfl ?_)) | (with_reducible first | refine ah_ ?_ | refine ao_ ?_ | refine ab_ ?_ | refine az_ ?_ | refine aA_ ?_ | refine at_ ?_ | refine bV_ ?_ | refine bd_ ?_ | refine cx_ ?_) | refine bP_ rfl ?_ | (refine aK_ rfl (fun hb => ?_) (fun hb => aH_ hb); (try simp only [bj_, reduceCtorEq] at hb)))
       all_goals
         refine rq1 rfl ⟨?_, aD_⟩
         rw [← hi, ← hi2]
         rfl
     | false =>
       cases d with
       | true =>
         rw [show (false || true || (tl.drop (j + 1)).any bigS) = true from rfl] at hi2
         repeat' (first | with_reducible refine am_ ?_ | ((with_reducible refine al_ ?_); first | ((with_reducible refine ak_ ?_); refine ac_ (ag_ rfl) ?_) | ((with_reducible refine ae_ ?_); refine ac_ (ad_ rfl) ?_) | ((with_reducible refine aw_ ?_); refine ac_ (as_ rfl rfl e1) ?_) | ((with_reducible refine au_ ?_); refine ac_ (aI_ rfl Tryz.underlying23 rfl e2) ?_) | ((with_reducible refine av_ ?_); first | refine ac_ (op_fgtr rfl rfl hu) ?_ | refine ac_ (aF_ rfl rfl) ?_) | ((with_reducible refine aS_ ?_); refine ac_ (aO_ rfl rfl) ?_) | ((with_reducible refine cG_ ?_); first | ((with_reducible refine bB_ ?_); refine aj_ rfl rfl rfl (ag_ rfl) rfl rfl ?_) | ((with_reducible refine bE_ ?_); refine aj_ rfl rfl rfl (op_flss rfl rfl hd') rfl rfl ?_))) | (with_reducible first | refine ah_ ?_ | refine ao_ ?_ | refine ab_ ?_ | refine az_ ?_ | refine aA_ ?_ | refine at_ ?_ | refine bV_ ?_ | refine bd_ ?_ | refine cx_ ?_) | refine bP_ rfl ?_ | (refine aK_ rfl (fun hb => ?_) (fun hb => aH_ hb); (try simp only [bj_, reduceCtorEq] at hb)))
         all_goals
           refine rq1 rfl ⟨?_, aD_⟩
           rw [← hi, ← hi2]
           rfl
       | false =>
         rw [show (false || false || (tl.drop (j + 1)).any bigS) = (tl.drop (j + 1)).any bigS from rfl] at hi2
         repeat' (first | with_reducible refine am_ ?_ | ((with_reducible refine al_ ?_); first | ((with_reducible refine ak_ ?_); refine ac_ (ag_ rfl) ?_) | ((with_reducible refine ae_ ?_); refine ac_ (ad_ rfl) ?_) | ((with_reducible refine aw_ ?_); refine ac_ (as_ rfl rfl e1) ?_) | ((with_reducible refine au_ ?_); refine ac_ (aI_ rfl Tryz.underlying23 rfl e2) ?_) | ((with_reducible refine av_ ?_); first | refine ac_ (op_fgtr rfl rfl hu) ?_ | refine ac_ (aF_ rfl rfl) ?_ | refine ac_ (aR_ rfl rfl (w64 (by omega) (by omega))) ?_) | ((with_reducible refine aS_ ?_); refine ac_ (aO_ rfl rfl) ?_) | ((with_reducible refine cG_ ?_); first | ((with_reducible refine bB_ ?_); refine aj_ rfl rfl rfl (ag_ rfl) rfl rfl ?_) | ((with_reducible refine bE_ ?_); refine aj_ rfl rfl rfl (op_flss rfl rfl hd') rfl rfl ?_))) | (with_reducible first | refine ah_ ?_ | refine ao_ ?_ | refine ab_ ?_ | refine az_ ?_ | refine at_ ?_ | refine aP_ ?_) | refine bs_ rfl ?_ | (refine aK_ rfl (fun hb => ?_) (fun hb => aH_ hb); (try simp only [bj_, reduceCtorEq] at hb)))
         all_goals exact aX_ (j + 1) (by omega) (ai_ ⟨rfl, rfl, rfl, rfl, rfl, rfl, rfl, trivial⟩) ⟨⟨aZ_, aD_, (by omega)⟩, by omega, hi2⟩
   · have hjm : j = tn := by omega
     subst hjm
     rw [List.drop_eq_nil_of_le (by omega)] at hi2
     rw [← hi2] at hi
     rw [show (([] : List Nat).any bigS || (ts.drop (k + 1)).any bigT) = (ts.drop (k + 1)).any bigT from rfl] at hi
     repeat' (first | with_reducible refine am_ ?_ | ((with_reducible refine al_ ?_); first | ((with_reducible refine ak_ ?_); refine ac_ (ag_ rfl) ?_) | ((with_reducible refine av_ ?_); first | refine ac_ (aF_ rfl rfl) ?_ | refine ac_ (aR_ rfl rfl (w64 (by omega) (by omega))) ?_)) | (with_reducible first | refine ah_ ?_ | refine ao_ ?_ | refine ab_ ?_ | refine be_ ?_ | refine aP_ ?_ | refine bf_ ?_ | refine bi_ ?_) | refine bS_ rfl ?_ | (refine aK_ rfl (fun hb => aH_ hb) (fun hb => ?_); (try simp only [bj_, reduceCtorEq] at hb)))
     all_goals exact aX_ (k + 1) (by omega) (ai_ ⟨rfl, rfl, rfl, rfl, trivial⟩) ⟨⟨aZ_, aD_, (by omega)⟩, by omega, hi⟩
 · have hkn : k = n := by omega
   subst hkn
   rw [List.drop_eq_nil_of_le (by omega)] at hi
   rw [← hi]
   repeat' (first | with_reducible refine am_ ?_ | ((with_reducible refine al_ ?_); first | ((with_reducible refine ae_ ?_); refine ac_ (ad_ rfl) ?_) | ((with_reducible refine av_ ?_); refine ac_ (aF_ rfl rfl) ?_)) | (with_reducible first | refine ah_ ?_ | refine ao_ ?_ | refine ab_ ?_ | refine aA_ ?_ | refine be_ ?_ | refine bf_ ?_ | refine bi_ ?_) | refine bS_ rfl ?_ | (refine aK_ rfl (fun hb => aH_ hb) (fun hb => ?_); (try simp only [bj_, reduceCtorEq] at hb)))
   all_goals exact rq1 rfl ⟨rfl, aD_⟩
end Go.Proofs.YthnnndkfpamacaaGreatDoor
/- Cuts of shots, told as lists of traces: facts without a machine. -/
namespace Go.Proofs.YthnnndkfpamacaaGreatDoor
open Go Go.Ab Go.Fl
variable {G : Base} {h : H}
theorem smpW_ok {n : Int} (h : n.natAbs ≤ 16384) : smpE (smpW n) = 0 ∧ smp (smpW n) = n := by
 obtain ⟨_, v, ⟨s, m, e, hr, _, hv⟩, h2⟩ := div16 h
 have hu := U_pos
 have h3 : 16 * Ieee.signed s m (e + 1074).toNat = n * U := by rw [← hv] at h2; exact h2
 constructor
 · unfold smpE
   rw [hr]
   simp only [h3]
   rw [if_pos]
   refine ⟨Int.mul_emod_left _ _, ?_, ?_⟩
   · rw [← Int.neg_mul]; exact Int.mul_le_mul_of_nonneg_right (by omega) (by omega)
   · exact Int.mul_le_mul_of_nonneg_right (by omega) (by omega)
 · unfold smp
   rw [hr]
   simp only [h3]
   exact Int.mul_tdiv_cancel _ (by omega)
attribute [local irreducible] smpE smp smpW isNameB
theorem firstNZ_all {l : List Int} (h : ∀ e ∈ l, e = 0) : firstNZ l = 0 := by
 induction l with
 | nil => rfl
 | cons a l ih =>
   unfold firstNZ
   rw [h a List.mem_cons_self, if_pos rfl]
   exact ih fun e he => h e (List.mem_cons_of_mem _ he)
theorem hdr_of {hd : Nat → Int} (h : ∀ i, i < 8 → hlo i ≤ hd i ∧ hd i ≤ hhi i) : hdrE hd = 0 := by
 unfold hdrE
 refine firstNZ_all fun e he => ?_
 obtain ⟨i, hi, rfl⟩ := List.mem_map.1 he
 have := h i (List.mem_range.1 hi)
 unfold hdE
 rcases rng_cases (hd i) (hlo i) (hhi i) with ⟨e, _, _⟩ | ⟨_, q⟩
 · exact e
 · omega
theorem hdr_ltr {hd : Nat → Int} {x : Int} (h : hdrE hd = 0) (h1 : 0 ≤ hd 4 + x) (h2 : hd 4 + x ≤ 100000) : hdrE (ltr hd x) = 0 := by
 refine hdr_of fun i hi => ?_
 have := hdr_ok h hi
 unfold ltr
 split
 · subst i
   exact ⟨by rw [show hlo 4 = 0 from rfl]; exact h1, by rw [show hhi 4 = 100000 from rfl]; exact h2⟩
 · exact this
theorem lchk_of {l : List Nat} (h1 : l.length ≤ 1024) (h2 : ∀ x ∈ l, smpE x = 0) : lchk l = 0 := by
 unfold lchk
 rw [if_neg (by omega)]
 refine firstNZ_all fun e he => ?_
 obtain ⟨x, hx, rfl⟩ := List.mem_map.1 he
 exact h2 x hx
theorem trE_of {t : Trc} (h1 : hdrE t.hd = 0) (h2 : t.hole = true → t.n = 0) (h3 : lchk t.l = 0) : trE t = 0 := by
 unfold trE
 rw [if_neg (by simp [h1])]
 by_cases hh : t.hole = true ∧ 0 < t.n
 · have := h2 hh.1; omega
 · rw [if_neg hh]; exact h3
structure Val (nm : ByteArray) (ts : List Trc) : Prop where
 name : isNameB nm = true
 pos : 0 < ts.length
 most : ts.length ≤ 64
 tr : ∀ t ∈ ts, hdrE t.hd = 0 ∧ (t.hole = true → t.n = 0) ∧ t.l.length = t.n ∧ t.n ≤ 1024 ∧ ∀ x ∈ t.l, smpE x = 0
 wide : ∀ t ∈ ts, t.hole = false → t.n = wid ts
theorem Val.err {nm : ByteArray} {ts : List Trc} (v : Val nm ts) : shE nm ts = 0 := by
 unfold shE
 rw [if_neg (by rw [v.name]; simp), if_neg (by have := v.pos; omega), if_neg (by have := v.most; omega)]
 have h : firstNZ (ts.map trE) = 0 := firstNZ_all fun e he => by
   obtain ⟨t, ht, rfl⟩ := List.mem_map.1 he
   obtain ⟨a, b, c, d, e⟩ := v.tr t ht
   exact trE_of a b (lchk_of (by omega) e)
 rw [h, if_neg (by decide)]
 have : mism (wid ts) ts = false := by
   unfold mism
   rw [List.any_eq_false]
   intro t ht
   cases hh : t.hole with
   | true => simp
   | false => simp [v.wide t ht hh]
 rw [this]
 rfl
theorem val_of {nm : ByteArray} {v : Value} {n : Nat} {ts : List Trc} (s : SlT G h v n ts) (hE : shE nm ts = 0) : Val nm ts := by
 obtain ⟨k1, k2, k3, k4, k5⟩ := shE_ok hE
 obtain ⟨v1, v2, v3, v4, v5⟩ := valid_facts s hE
 exact ⟨k1, k2, k3, fun t ht => ⟨(tr_ok (k4 t ht)).1, v5 t ht, v2 t ht, v3 t ht, v4 t ht⟩, k5⟩
theorem wid_hole : ∀ {ts : List Trc}, (∀ t ∈ ts, t.hole = true) → wid ts = 0
 | [], _ => rfl
 | t :: ts, q => by
   unfold wid
   rw [q t List.mem_cons_self]
   exact wid_hole fun t ht => q t (List.mem_cons_of_mem _ ht)
theorem wid_same : ∀ {ts : List Trc} {w : Nat}, (∀ t ∈ ts, t.hole = false → t.n = w) → (∃ t ∈ ts, t.hole = false) → wid ts = w
 | [], _, _, ⟨_, q, _⟩ => by cases q
 | t :: ts, w, q, ⟨u, hu, hh⟩ => by
   unfold wid
   cases ht : t.hole with
   | true =>
     rw [if_pos rfl]
     rcases List.mem_cons.1 hu with rfl | hu
     · rw [ht] at hh; cases hh
     · exact wid_same (fun t ht => q t (List.mem_cons_of_mem _ ht)) ⟨u, hu, hh⟩
   | false => rw [if_neg (by simp)]; exact q t List.mem_cons_self ht
def ofKey (k : Key) : Trc := ⟨k.1, k.2.1, none, k.2.2.1, 0, k.2.2.2⟩
def cutT (lo hi : Nat) (t : Trc) : Trc := ofKey (cutKey lo hi 0 t)
def cutTs (lo hi : Nat) (ts : List Trc) : List Trc := ts.map (cutT lo hi)
theorem cutT_hole {lo hi : Nat} {t : Trc} (hh : t.hole = true) : cutT lo hi t = ⟨ltr t.hd lo, true, none, 0, 0, []⟩ := by
 unfold cutT ofKey cutKey chKey
 rw [if_pos hh]
theorem cutT_live {lo hi : Nat} {t : Trc} (hh : t.hole = false) : cutT lo hi t = ⟨ltr t.hd lo, false, none, (((t.l.map smp).drop lo).take (hi - lo)).length, 0, (((t.l.map smp).drop lo).take (hi - lo)).map smpW⟩ := by
 unfold cutT ofKey cutKey chKey
 rw [if_neg (by simp [hh])]
 rfl
theorem cutT_holes {lo hi : Nat} {t : Trc} : (cutT lo hi t).hole = t.hole := by
 cases hh : t.hole with
 | true => rw [cutT_hole hh]
 | false => rw [cutT_live hh]
theorem cutT_hd {lo hi : Nat} {t : Trc} : (cutT lo hi t).hd = ltr t.hd lo := by
 cases hh : t.hole with
 | true => rw [cutT_hole hh]
 | false => rw [cutT_live hh]
theorem Val.smp_le {nm : ByteArray} {ts : List Trc} (v : Val nm ts) {t : Trc} (ht : t ∈ ts) {z : Int} (hz : z ∈ t.l.map smp) : z.natAbs ≤ 16384 := by
 obtain ⟨x, hx, rfl⟩ := List.mem_map.1 hz
 exact Go.Proofs.YthnnndkfpamacaaGreatDoor.smp_le ((v.tr t ht).2.2.2.2 x hx)
theorem cut_wid {nm : ByteArray} {ts : List Trc} {lo hi : Nat} (v : Val nm ts) (h1 : lo ≤ hi) (h2 : hi ≤ wid ts) : (∀ t ∈ cutTs lo hi ts, t.hole = false → t.n = hi - lo) ∧ wid (cutTs lo hi ts) = hi - lo := by
 have key : ∀ t ∈ cutTs lo hi ts, t.hole = false → t.n = hi - lo := by
   intro t ht hh
   obtain ⟨u, hu, rfl⟩ := List.mem_map.1 ht
   rw [cutT_holes] at hh
   have e1 := v.wide u hu hh
   have e2 := (v.tr u hu).2.2.1
   rw [cutT_live hh]
   simp
   omega
 refine ⟨key, ?_⟩
 by_cases hx : ∃ t ∈ cutTs lo hi ts, t.hole = false
 · exact wid_same key hx
 · have : ∀ t ∈ ts, t.hole = true := fun t ht => by
     cases hh : t.hole with
     | true => rfl
     | false => exact absurd ⟨cutT lo hi t, List.mem_map_of_mem ht, by rw [cutT_holes, hh]⟩ hx
   have e0 := wid_hole this
   rw [wid_hole]
   · omega
   · intro t ht
     obtain ⟨u, hu, rfl⟩ := List.mem_map.1 ht
     rw [cutT_holes, this u hu]
theorem Val.cut {nm : ByteArray} {ts : List Trc} {lo hi : Nat} (v : Val nm ts) (h1 : lo ≤ hi) (h2 : hi ≤ wid ts) (hl : ∀ t ∈ ts, t.hd 4 + lo ≤ 100000) : Val nm (cutTs lo hi ts) := by
 obtain ⟨w1, w2⟩ := cut_wid v h1 h2
 refine ⟨v.name, by simpa [cutTs] using v.pos, by simpa [cutTs] using v.most, fun t ht => ?_, by rw [w2]; exact w1⟩
 obtain ⟨u, hu, rfl⟩ := List.mem_map.1 ht
 obtain ⟨a, b, c, d, e⟩ := v.tr u hu
 have hh4 := hdr_ok a (i := 4) (by omega)
 rw [show hlo 4 = 0 from rfl] at hh4
 have hlu := hl u hu
 refine ⟨by rw [cutT_hd]; exact hdr_ltr a (by omega) (by omega), ?_⟩
 cases hh : u.hole with
 | true => rw [cutT_hole hh]; simp
 | false =>
   rw [cutT_live hh]
   refine ⟨fun q => (by cases q), by simp, (by simp; omega), fun x hx => ?_⟩
   obtain ⟨z, hz, rfl⟩ := List.mem_map.1 hx
   exact (smpW_ok (v.smp_le hu (List.mem_of_mem_drop (List.mem_of_mem_take hz)))).1
theorem map_smp_W {l : List Int} (h : ∀ z ∈ l, z.natAbs ≤ 16384) : (l.map smpW).map smp = l := by
 rw [List.map_map]
 conv => rhs; rw [← List.map_id l]
 exact List.map_congr_left fun z hz => (smpW_ok (h z hz)).2
/- Cuts joined, told as lists of traces: facts without a machine. -/
theorem feq_self {x : Nat} (h : smpE x = 0) : (Ieee.single.order x x == some .eq) = true := by
 obtain ⟨s, m, e, hr, hv, hlo, hhi⟩ := smp_read h
 exact num_self ⟨s, m, e, hr, by have := (cs_ hr).2.1; omega, rfl⟩
theorem feqL_self {l : List Nat} (h : ∀ x ∈ l, smpE x = 0) : fEqL l l := ⟨rfl, fun i q q' => feq_self (h _ (List.getElem_mem q))⟩
theorem trs_self {ts us : List Trc} (q : us.map Trc.key = ts.map Trc.key) (hv : ∀ t ∈ ts, ∀ x ∈ t.l, smpE x = 0) : TrsS us ts := by
 have hl : us.length = ts.length := by simpa using congrArg List.length q
 refine ⟨hl, fun i h1 h2 => ?_⟩
 obtain ⟨e1, e2, e3, e4⟩ := cD_ (keys_at q h1 h2)
 refine ⟨fun j _ => by rw [e1], e2, e3, ?_⟩
 rw [e4]
 exact feqL_self (hv _ (List.getElem_mem h2))
theorem trs_keys {ts us ts' us' : List Trc} (q : us.map Trc.key = ts.map Trc.key) (q' : us'.map Trc.key = ts'.map Trc.key) (h : TrsS ts ts') : TrsS us us' := by
 have hl : us.length = ts.length := by simpa using congrArg List.length q
 have hl' : us'.length = ts'.length := by simpa using congrArg List.length q'
 refine ⟨by rw [hl, hl', h.1], fun i h1 h2 => ?_⟩
 obtain ⟨e1, e2, e3, e4⟩ := cD_ (keys_at q h1 (by omega))
 obtain ⟨f1, f2, f3, f4⟩ := cD_ (keys_at q' h2 (by omega))
 obtain ⟨a, b, c, d⟩ := h.2 i (by omega) (by omega)
 exact ⟨fun j hj => by rw [e1, f1]; exact a j hj, by rw [e2, f2]; exact b, by rw [e3, f3]; exact c, by rw [e4, f4]; exact d⟩
theorem hdB_refl (x : Nat → Int) : hdB x x = true := by simp [hdB]
end Go.Proofs.YthnnndkfpamacaaGreatDoor
