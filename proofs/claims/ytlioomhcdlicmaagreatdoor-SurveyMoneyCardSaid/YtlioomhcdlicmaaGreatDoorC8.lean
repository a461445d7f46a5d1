/- Survey: spans by the program and by the reference; windows; what is less strict leaves no less. -/
import Derived.Test.YtlioomhcdlicmaaGreatDoorC4
import Derived.Test.YtlioomhcdlicmaaGreatDoorC6
set_option linter.all false
/- Survey: what is less strict leaves no less; what is moved alike is alike; where a run of good ticks ends. -/
namespace Go.Proofs.YtlioomhcdlicmaaGreatDoor
open Go Go.Ab Go.Fl
attribute [local irreducible] SeqQ BlkQ LpQ RetQ Wc Wo WD WX Op1 Op1q Op1a Cf Cl From
attribute [local irreducible] Ieee.Format.order Ieee.Format.read Ieee.Format.nearest Ieee.Format.write Ieee.Format.mul Ieee.Format.div Ieee.Format.sqrt Ieee.Datum.order Ieee.Datum.integral K U rngE errN ptE firstNZ vesE watE sgE sgsE allE
set_option maxRecDepth 10000
variable {G : Base} {h : H}
end Go.Proofs.YtlioomhcdlicmaaGreatDoor
/- Survey: spans by the program. -/
namespace Go.Proofs.YtlioomhcdlicmaaGreatDoor
open Go Go.Ab Go.Fl
attribute [local irreducible] SeqQ BlkQ LpQ RetQ Wc Wo WD WX Op1 Op1q Op1a Cf Cl From
attribute [local irreducible] Ieee.Format.order Ieee.Format.read Ieee.Format.nearest Ieee.Format.write Ieee.Format.mul Ieee.Format.div Ieee.Format.sqrt Ieee.Datum.order Ieee.Datum.integral K U rngE errN ptE firstNZ vesE watE sgE sgsE allE hitB sqD insB qsL lvl rn rl
set_option maxRecDepth 10000
variable {G : Base} {h : H}
def spC (s : Spn) : Int := if 0 ≤ s.f ∧ s.f ≤ s.t ∧ s.t ≤ 100000 then 0 else 14
def spE (s : Spn) : Int := if 0 ≤ s.f ∧ s.f < s.t ∧ s.t ≤ 100000 then 0 else 14
def spO (x y : Spn) : Bool := decide (y.t ≤ x.f)
def spsE (l : List Spn) : Int := if 256 < l.length then 5 else errN (sucA ⟨0, 0⟩ spE spO l) l.length
def inP (k : Int) (s : Spn) : Bool := decide (s.f ≤ k ∧ k < s.t)
theorem c193 {s : Spn} (hw : Wf h) : Cf (mz G) (.func (.func 193) #[] #[]) [.agg ⟨s.cells⟩, .int .i64 100000] h fun r h' => r = .int .i64 (spC s) ∧ Grow h h' := by
 obtain ⟨f, t⟩ := s
 dsimp only [Spn.cells]
 unfold spC
 dsimp only
 by_cases h1 : f < 0
 · rw [if_neg (by omega)]
   refine ak_ 21 [.tmp 4] Tryz.func193 rfl rfl rfl rfl ?_
   repeat' (first | with_reducible refine ad_ ?_ | ((with_reducible refine ac_ ?_); first | ((with_reducible refine al_ ?_); refine aq_ (ae_ rfl ah_ Tryz.underlying3 rfl rfl) ?_) | ((with_reducible refine cC_ ?_); first | refine bn_ rfl rfl rfl rfl rfl rfl ?_ | (refine aY_ rfl rfl rfl (fun hb => ?_) (fun hb => aw_ hb); (try simp only [aX_, reduceCtorEq] at hb))) | refine ao_ ?_) | refine ap_ ?_)
   exact rq1 rfl ⟨rfl, au_⟩
 by_cases h2 : t < f
 · rw [if_neg (by omega)]
   refine ak_ 21 [.tmp 4] Tryz.func193 rfl rfl rfl rfl ?_
   repeat' (first | with_reducible refine ad_ ?_ | ((with_reducible refine ac_ ?_); first | ((with_reducible refine al_ ?_); refine aq_ (ae_ rfl ah_ Tryz.underlying3 rfl rfl) ?_) | ((with_reducible refine cC_ ?_); first | refine bn_ rfl rfl rfl rfl rfl rfl ?_ | ((with_reducible refine bc_ ?_); first | refine ai_ rfl rfl rfl (ab_ (o := 0) rfl Tryz.underlying79 rfl zs3 rfl) rfl rfl ?_ | refine ai_ rfl rfl rfl (ab_ (o := 1) rfl Tryz.underlying79 rfl zs3 rfl) rfl rfl ?_) | ((with_reducible refine bF_ ?_); refine ai_ rfl rfl rfl (ae_ rfl ah_ Tryz.underlying3 rfl rfl) rfl rfl ?_) | ((with_reducible refine bB_ ?_); refine ai_ rfl rfl rfl (bM_ rfl rfl) rfl rfl ?_) | (refine aY_ rfl rfl rfl (fun hb => aw_ hb) (fun hb => ?_); (try simp only [aX_, reduceCtorEq] at hb)) | (refine aY_ rfl rfl rfl (fun hb => ?_) (fun hb => aw_ hb); (try simp only [aX_, reduceCtorEq] at hb))) | refine ao_ ?_) | refine ap_ ?_)
   exact rq1 rfl ⟨rfl, au_⟩
 by_cases h3 : 100000 < t
 · rw [if_neg (by omega)]
   refine ak_ 21 [.tmp 4] Tryz.func193 rfl rfl rfl rfl ?_
   repeat' (first | with_reducible refine ad_ ?_ | ((with_reducible refine ac_ ?_); first | ((with_reducible refine al_ ?_); refine aq_ (ae_ rfl ah_ Tryz.underlying3 rfl rfl) ?_) | ((with_reducible refine cC_ ?_); first | ((with_reducible refine bH_ ?_); refine ai_ rfl rfl rfl (aD_ rfl) rfl rfl ?_) | ((with_reducible refine bc_ ?_); first | refine ai_ rfl rfl rfl (ab_ (o := 0) rfl Tryz.underlying79 rfl zs3 rfl) rfl rfl ?_ | refine ai_ rfl rfl rfl (ab_ (o := 1) rfl Tryz.underlying79 rfl zs3 rfl) rfl rfl ?_) | ((with_reducible refine bF_ ?_); refine ai_ rfl rfl rfl (ae_ rfl ah_ Tryz.underlying3 rfl rfl) rfl rfl ?_) | ((with_reducible refine bB_ ?_); refine ai_ rfl rfl rfl (bM_ rfl rfl) rfl rfl ?_) | (refine aY_ rfl rfl rfl (fun hb => aw_ hb) (fun hb => ?_); (try simp only [aX_, reduceCtorEq] at hb))) | refine ao_ ?_) | refine ap_ ?_ | (refine aG_ rfl (fun hb => ?_) (fun hb => aw_ hb); (try simp only [aX_, reduceCtorEq] at hb)))
   exact rq1 rfl ⟨rfl, au_⟩
 · rw [if_pos (by omega)]
   refine ak_ 21 [.tmp 4] Tryz.func193 rfl rfl rfl rfl ?_
   repeat' (first | with_reducible refine ad_ ?_ | ((with_reducible refine ac_ ?_); first | ((with_reducible refine al_ ?_); refine aq_ (ae_ rfl ah_ Tryz.underlying3 rfl rfl) ?_) | ((with_reducible refine cC_ ?_); first | ((with_reducible refine bH_ ?_); refine ai_ rfl rfl rfl (aD_ rfl) rfl rfl ?_) | ((with_reducible refine bc_ ?_); first | refine ai_ rfl rfl rfl (ab_ (o := 0) rfl Tryz.underlying79 rfl zs3 rfl) rfl rfl ?_ | refine ai_ rfl rfl rfl (ab_ (o := 1) rfl Tryz.underlying79 rfl zs3 rfl) rfl rfl ?_) | ((with_reducible refine bF_ ?_); refine ai_ rfl rfl rfl (ae_ rfl ah_ Tryz.underlying3 rfl rfl) rfl rfl ?_) | ((with_reducible refine bB_ ?_); refine ai_ rfl rfl rfl (bM_ rfl rfl) rfl rfl ?_) | (refine aY_ rfl rfl rfl (fun hb => aw_ hb) (fun hb => ?_); (try simp only [aX_, reduceCtorEq] at hb))) | refine ao_ ?_) | refine ap_ ?_ | (refine aG_ rfl (fun hb => aw_ hb) (fun hb => ?_); (try simp only [aX_, reduceCtorEq] at hb)))
   exact rq1 rfl ⟨rfl, au_⟩
theorem c183 {s : Spn} (hw : Wf h) : Cf (mz G) (.func (.func 183) #[] #[]) [.agg ⟨s.cells⟩, .int .i64 100000] h fun r h' => r = .int .i64 (spE s) ∧ Grow h h' := by
 have q1 := fun (h' : H) (w' : Wf h') => c193 (G := G) (h := h') (s := s) w'
 obtain ⟨f, t⟩ := s
 by_cases h1 : f = t
 · have e : spE ⟨f, t⟩ = 14 := by unfold spE; dsimp only; rw [if_neg (by omega)]
   rw [e]
   dsimp only [Spn.cells]
   subst h1
   refine ak_ 13 [.tmp 4] Tryz.func183 rfl rfl rfl rfl ?_
   repeat' (first | with_reducible refine ad_ ?_ | ((with_reducible refine ac_ ?_); first | ((with_reducible refine al_ ?_); refine aq_ (ae_ rfl ah_ Tryz.underlying3 rfl rfl) ?_) | refine ao_ ?_) | refine ap_ ?_ | (refine aG_ rfl (fun hb => ?_) (fun hb => (of_decide_eq_false hb rfl).elim); (try simp only [aX_, reduceCtorEq] at hb)))
   exact rq1 rfl ⟨rfl, au_⟩
 · have e : spE ⟨f, t⟩ = spC ⟨f, t⟩ := by unfold spE spC; dsimp only; congr 1; simp only [eq_iff_iff]; omega
   rw [e]
   dsimp only [Spn.cells] at q1 ⊢
   generalize spC ⟨f, t⟩ = E at q1 ⊢
   refine ak_ 13 [.tmp 4] Tryz.func183 rfl rfl rfl rfl ?_
   repeat' (first | with_reducible refine ad_ ?_ | ((with_reducible refine ac_ ?_); first | ((with_reducible refine al_ ?_); first | refine aq_ (ae_ rfl ah_ Tryz.underlying3 rfl rfl) ?_ | refine aq_ (aj_ rfl ah_ Tryz.underlying79 rfl zs79 rfl rfl) ?_) | ((with_reducible refine at_ ?_); (refine as_ rfl rfl rfl rfl (q1 _ aA_) rfl rfl ?_; rintro _ _ ⟨rfl, hq⟩; all_goals (try (have hqn := hq.nx); try simp only [aU_] at hqn))) | refine ao_ ?_) | refine ap_ ?_ | (refine aG_ rfl (fun hb => aw_ hb) (fun hb => ?_); (try simp only [aX_, reduceCtorEq] at hb)))
   exact rq1 rfl ⟨rfl, au_⟩
theorem c166 {s : Spn} (hw : Wf h) : Cf (mz G) (.func (.func 166) #[] #[]) [.agg ⟨s.cells⟩] h fun r h' => r = .int .i64 (spE s) ∧ Grow h h' := by
 have q1 := fun (h' : H) (w' : Wf h') => c183 (G := G) (h := h') (s := s) w'
 generalize spE s = E at q1 ⊢
 obtain ⟨f, t⟩ := s
 dsimp only [Spn.cells] at q1 ⊢
 refine ak_ 5 [.tmp 2] Tryz.func166 rfl rfl rfl rfl ?_
 repeat' (first | with_reducible refine ad_ ?_ | ((with_reducible refine ac_ ?_); first | ((with_reducible refine al_ ?_); refine aq_ (aj_ rfl ah_ Tryz.underlying241 rfl cv_ rfl rfl) ?_) | ((with_reducible refine at_ ?_); (refine as_ rfl rfl rfl rfl (q1 _ aA_) rfl rfl ?_; rintro _ _ ⟨rfl, hq⟩; all_goals (try (have hqn := hq.nx); try simp only [aU_] at hqn))) | refine ao_ ?_) | refine ap_ ?_)
 exact rq1 rfl ⟨rfl, au_⟩
theorem c165 {x y : Spn} (hw : Wf h) : Cf (mz G) (.func (.func 165) #[] #[]) [.agg ⟨x.cells⟩, .agg ⟨y.cells⟩] h fun r h' => r = .bool (spO x y) ∧ Grow h h' := by
 obtain ⟨f, t⟩ := x
 obtain ⟨g, u⟩ := y
 unfold spO
 dsimp only [Spn.cells]
 refine ak_ 10 [.tmp 4] Tryz.func165 rfl rfl rfl rfl ?_
 repeat' (first | with_reducible refine ad_ ?_ | ((with_reducible refine ac_ ?_); first | ((with_reducible refine al_ ?_); refine aq_ (ae_ rfl ah_ Tryz.underlying3 rfl rfl) ?_) | refine ao_ ?_) | refine ap_ ?_)
 exact rq1 rfl ⟨rfl, au_⟩
set_option maxHeartbeats 4000000 in
theorem c171 {v : Value}  {n : Nat} {l : List Spn} (e : Spn → Int) (ok : Spn → Spn → Bool) (s : Sl G h 2 v n (l.flatMap Spn.cells)) (hl : l.length = n) (hn : n < 1000000) (hw : Wf h) (hq1 : ∀ h' x, Wf h' → Cf (mz G) (.func (.func 166) #[] #[]) [.agg ⟨Spn.cells x⟩] h' fun r h2 => r = .int .i64 (e x) ∧ Grow h' h2) (hq2 : ∀ h' x y, Wf h' → Cf (mz G) (.func (.func 165) #[] #[]) [.agg ⟨Spn.cells x⟩, .agg ⟨Spn.cells y⟩] h' fun r h2 => r = .bool (ok x y) ∧ Grow h' h2) :
   Cf (mz G) (.func (.func 171) #[] #[]) [v, .func (.func 165) #[] #[], .func (.func 166) #[] #[]] h fun r h' => r = .int .i64 (errN (sucA ⟨0, 0⟩ e ok l) n) ∧ Grow h h' := by
 obtain ⟨a, c, rfl⟩ := s.form
 refine ak_ 37 [.tmp 6] Tryz.func171 rfl rfl rfl rfl ?_
 repeat' (first | with_reducible refine ad_ ?_ | ((with_reducible refine ac_ ?_); first | ((with_reducible refine av_ ?_); refine aq_ (ax_ rfl Tryz.underlying221) ?_) | refine ao_ ?_) | refine ap_ ?_)
 refine bo_ (fun k => n - k) (fun k : Nat => [(0, .slice a n c), (1, .func (.func 165) #[] #[]), (2, .func (.func 166) #[] #[]), (10, .slice a n c), (11, .int .i64 n), (12, .int .i64 k)]) (fun k h' => (Wf h' ∧ Grow h h') ∧ k ≤ n ∧ errN (sucA ⟨0, 0⟩ e ok l) k = 0) 0 (af_ ⟨rfl, rfl, rfl, rfl, rfl, rfl, trivial⟩) ⟨⟨aA_, au_⟩, Nat.zero_le _, cM_ _⟩ ?_
 rintro k h1 ⟨⟨w1, g1⟩, hk, hz⟩
 have n1 := g1.nx
 by_cases hlt : k < n
 · obtain ⟨id, i1, i3⟩ := cw_ Spn.len ⟨0, 0⟩ (s.grow g1) hl Tryz.underlying221 cv_ (i := (k : Int)) hlt rfl
   have nxt := cB_ hz
   have hit := fun (q : (sucA ⟨0, 0⟩ e ok l) k ≠ 0) => (errN_hit (f := (sucA ⟨0, 0⟩ e ok l)) (k := k + 1) (n := n) (by omega) (by rw [nxt]; exact q)).trans nxt
   obtain ⟨x0, hx⟩ : ∃ x, l.getD k ⟨0, 0⟩ = x := ⟨_, rfl⟩
   have hF : (sucA ⟨0, 0⟩ e ok l) k = if e x0 ≠ 0 then e x0 else if 0 < k ∧ ok x0 (l.getD (k - 1) ⟨0, 0⟩) = false then 11 else 0 := by unfold sucA; rw [hx]
   rw [hx] at i3
   have q1 := fun (h' : H) (w' : Wf h') => hq1 h' x0 w'
   obtain ⟨E, hE⟩ : ∃ E, e x0 = E := ⟨_, rfl⟩
   rw [hE] at q1 hF
   by_cases he : E = 0
   · rw [he] at q1
     rw [if_neg (by omega)] at hF
     by_cases hk0 : 0 < k
     · obtain ⟨jd, j1, j3⟩ := cw_ Spn.len ⟨0, 0⟩ (s.grow g1) hl Tryz.underlying221 cv_ (i := (k : Int) - 1) (q := k - 1) (by omega) (by omega)
       obtain ⟨y0, hy⟩ : ∃ y, l.getD (k - 1) ⟨0, 0⟩ = y := ⟨_, rfl⟩
       rw [hy] at j3 hF
       have q2 := fun (h' : H) (w' : Wf h') => hq2 h' x0 y0 w'
       obtain ⟨B, hB⟩ : ∃ B, ok x0 y0 = B := ⟨_, rfl⟩
       rw [hB] at q2 hF
       clear hx hy hE
       obtain ⟨f, t⟩ := x0
       dsimp only [Spn.cells] at i3 j3 q1 q2
       cases B with
       | false =>
         rw [if_pos ⟨hk0, rfl⟩] at hF
         rw [hit (by rw [hF]; decide), hF]
         clear hF hit nxt
         repeat' (first | with_reducible refine ad_ ?_ | ((with_reducible refine ac_ ?_); first | ((with_reducible refine an_ ?_); refine aq_ (ag_ rfl rfl i1) ?_) | ((with_reducible refine al_ ?_); first | refine aq_ (aN_ rfl Tryz.underlying241 rfl cv_ (i3 _ au_).all) ?_ | refine aq_ (aj_ rfl ah_ Tryz.underlying241 rfl cv_ rfl rfl) ?_) | ((with_reducible refine ay_ ?_); refine bQ_ (aB_ rfl rfl ah_ cv_ rfl rfl rfl rfl) ?_) | ((with_reducible refine at_ ?_); (refine as_ rfl rfl rfl rfl (q1 _ aA_) rfl rfl ?_; rintro _ _ ⟨rfl, hq⟩; all_goals (try (have hqn := hq.nx); try simp only [aU_] at hqn))) | refine ao_ ?_) | ((with_reducible refine bb_ ?_); ((with_reducible refine bd_ ?_); first | ((with_reducible refine ba_ ?_); refine aH_ (aa_ rfl) rfl rfl (ar_ rfl (aD_ rfl)) rfl rfl rfl ?_) | ((with_reducible refine bD_ ?_); refine aH_ (aa_ rfl) rfl rfl (ar_ rfl (bM_ rfl rfl)) rfl rfl rfl ?_) | ((with_reducible refine cj_ ?_); refine aH_ (aa_ rfl) rfl rfl (ar_ rfl (cb_ rfl rfl)) rfl rfl rfl ?_) | ((with_reducible refine xk_g ?_); first | ((with_reducible refine cJ_ ?_); refine aH_ (aL_ rfl rfl rfl) rfl rfl (ar_ rfl (aD_ rfl)) rfl rfl rfl ?_) | ((with_reducible refine bJ_ ?_); refine aH_ (aL_ rfl rfl rfl) rfl rfl (ar_ rfl (ag_ rfl rfl j1)) rfl rfl rfl ?_) | ((with_reducible refine cK_ ?_); first | refine aO_ (aL_ rfl rfl rfl) rfl (ar_ rfl (aN_ rfl Tryz.underlying241 rfl cv_ (j3 _ au_).all)) rfl rfl rfl ?_ | refine aO_ (aL_ rfl rfl rfl) rfl (ar_ rfl (aj_ rfl ah_ Tryz.underlying241 rfl cv_ rfl rfl)) rfl rfl rfl ?_) | ((with_reducible refine xg_bin ?_); refine aH_ (aL_ rfl rfl rfl) rfl rfl (ar_ rfl (bY_ rfl rfl (w64 (by omega) (by omega)))) rfl rfl rfl ?_) | ((with_reducible refine xg_un ?_); refine aH_ (aL_ rfl rfl rfl) rfl rfl (ar_ rfl (cG_ rfl)) rfl rfl rfl ?_) | ((with_reducible refine xg_callv ?_); (refine aM_ (aL_ rfl rfl rfl) rfl rfl rfl rfl (q2 _ aA_) rfl rfl ?_; rintro _ _ ⟨rfl, hq⟩; all_goals (try (have hqn := hq.nx); try simp only [aU_] at hqn))) | (refine bO_ rfl rfl rfl (fun hb => ?_) (fun hb => aw_ hb); (try simp only [aX_, reduceCtorEq] at hb))) | with_reducible refine bj_ ?_ ?_)) | with_reducible exact aP_ | with_reducible refine aJ_ ?_ ?_ | ((with_reducible refine bi_ ?_); first | exact aS_ | refine aQ_ rfl ?_ | refine am_ rfl rfl (ar_ rfl (aN_ rfl Tryz.underlying241 rfl cv_ (j3 _ au_).all)) ?_ | refine am_ rfl rfl (ar_ rfl (aj_ rfl ah_ Tryz.underlying241 rfl cv_ (by rfl) rfl)) ?_) | refine ap_ ?_ | (refine aG_ rfl (fun hb => ?_) (fun hb => aw_ hb); (try simp only [aX_, reduceCtorEq] at hb)) | refine aF_ (id := 7) 13 [0, 1, 3, 7, 7, 7, 7, 71, 231, 487, 1023, 2047, 4095] [0, 1, 2, 3, 4, 5, 6, 7, 8, 9, 10, 11, 12] (by kernel_rfl) (by kernel_rfl) rfl rfl ?_)
         all_goals exact rq1 rfl ⟨rfl, au_⟩
       | true =>
         rw [if_neg (by simp)] at hF
         rw [hF] at nxt
         clear hF hit
         repeat' (first | with_reducible refine ad_ ?_ | ((with_reducible refine ac_ ?_); first | ((with_reducible refine an_ ?_); refine aq_ (ag_ rfl rfl i1) ?_) | ((with_reducible refine al_ ?_); first | refine aq_ (aN_ rfl Tryz.underlying241 rfl cv_ (i3 _ au_).all) ?_ | refine aq_ (aj_ rfl ah_ Tryz.underlying241 rfl cv_ rfl rfl) ?_) | ((with_reducible refine ay_ ?_); refine bQ_ (aB_ rfl rfl ah_ cv_ rfl rfl rfl rfl) ?_) | ((with_reducible refine at_ ?_); (refine as_ rfl rfl rfl rfl (q1 _ aA_) rfl rfl ?_; rintro _ _ ⟨rfl, hq⟩; all_goals (try (have hqn := hq.nx); try simp only [aU_] at hqn))) | refine ao_ ?_) | ((with_reducible refine bb_ ?_); ((with_reducible refine bd_ ?_); first | ((with_reducible refine ba_ ?_); refine aH_ (aa_ rfl) rfl rfl (ar_ rfl (aD_ rfl)) rfl rfl rfl ?_) | ((with_reducible refine bD_ ?_); refine aH_ (aa_ rfl) rfl rfl (ar_ rfl (bM_ rfl rfl)) rfl rfl rfl ?_) | ((with_reducible refine cj_ ?_); refine aH_ (aa_ rfl) rfl rfl (ar_ rfl (cb_ rfl rfl)) rfl rfl rfl ?_) | ((with_reducible refine xk_g ?_); first | ((with_reducible refine cJ_ ?_); refine aH_ (aL_ rfl rfl rfl) rfl rfl (ar_ rfl (aD_ rfl)) rfl rfl rfl ?_) | ((with_reducible refine bJ_ ?_); refine aH_ (aL_ rfl rfl rfl) rfl rfl (ar_ rfl (ag_ rfl rfl j1)) rfl rfl rfl ?_) | ((with_reducible refine cK_ ?_); first | refine aO_ (aL_ rfl rfl rfl) rfl (ar_ rfl (aN_ rfl Tryz.underlying241 rfl cv_ (j3 _ au_).all)) rfl rfl rfl ?_ | refine aO_ (aL_ rfl rfl rfl) rfl (ar_ rfl (aj_ rfl ah_ Tryz.underlying241 rfl cv_ rfl rfl)) rfl rfl rfl ?_) | ((with_reducible refine xg_bin ?_); refine aH_ (aL_ rfl rfl rfl) rfl rfl (ar_ rfl (bY_ rfl rfl (w64 (by omega) (by omega)))) rfl rfl rfl ?_) | ((with_reducible refine xg_un ?_); refine aH_ (aL_ rfl rfl rfl) rfl rfl (ar_ rfl (cG_ rfl)) rfl rfl rfl ?_) | ((with_reducible refine xg_callv ?_); (refine aM_ (aL_ rfl rfl rfl) rfl rfl rfl rfl (q2 _ aA_) rfl rfl ?_; rintro _ _ ⟨rfl, hq⟩; all_goals (try (have hqn := hq.nx); try simp only [aU_] at hqn))) | (refine bO_ rfl rfl rfl (fun hb => ?_) (fun hb => aw_ hb); (try simp only [aX_, reduceCtorEq] at hb))) | with_reducible refine bj_ ?_ ?_)) | with_reducible exact aP_ | with_reducible refine aJ_ ?_ ?_ | ((with_reducible refine bi_ ?_); first | exact aS_ | refine aQ_ rfl ?_ | refine am_ rfl rfl (ar_ rfl (aN_ rfl Tryz.underlying241 rfl cv_ (j3 _ au_).all)) ?_ | refine am_ rfl rfl (ar_ rfl (aj_ rfl ah_ Tryz.underlying241 rfl cv_ (by rfl) rfl)) ?_) | refine ap_ ?_ | (refine aG_ rfl (fun hb => ?_) (fun hb => aw_ hb); (try simp only [aX_, reduceCtorEq] at hb)) | refine aF_ (id := 7) 13 [0, 1, 3, 7, 7, 7, 7, 71, 231, 487, 1023, 2047, 4095] [0, 1, 2, 3, 4, 5, 6, 7, 8, 9, 10, 11, 12] (by kernel_rfl) (by kernel_rfl) rfl rfl ?_)
         all_goals exact aI_ (k + 1) (by omega) (af_ ⟨rfl, rfl, rfl, rfl, rfl, rfl, trivial⟩) ⟨⟨aA_, au_⟩, by omega, nxt⟩
     · rw [if_neg (by omega)] at hF
       rw [hF] at nxt
       clear hx hE hF hit
       obtain ⟨f, t⟩ := x0
       dsimp only [Spn.cells] at i3 q1
       repeat' (first | with_reducible refine ad_ ?_ | ((with_reducible refine ac_ ?_); first | ((with_reducible refine an_ ?_); refine aq_ (ag_ rfl rfl i1) ?_) | ((with_reducible refine al_ ?_); first | refine aq_ (aN_ rfl Tryz.underlying241 rfl cv_ (i3 _ au_).all) ?_ | refine aq_ (aj_ rfl ah_ Tryz.underlying241 rfl cv_ rfl rfl) ?_) | ((with_reducible refine ay_ ?_); refine bQ_ (aB_ rfl rfl ah_ cv_ rfl rfl rfl rfl) ?_) | ((with_reducible refine at_ ?_); (refine as_ rfl rfl rfl rfl (q1 _ aA_) rfl rfl ?_; rintro _ _ ⟨rfl, hq⟩; all_goals (try (have hqn := hq.nx); try simp only [aU_] at hqn))) | refine ao_ ?_) | ((with_reducible refine bb_ ?_); ((with_reducible refine bd_ ?_); first | ((with_reducible refine ba_ ?_); refine aH_ (aa_ rfl) rfl rfl (ar_ rfl (aD_ rfl)) rfl rfl rfl ?_) | ((with_reducible refine bD_ ?_); refine aH_ (aa_ rfl) rfl rfl (ar_ rfl (bM_ rfl rfl)) rfl rfl rfl ?_) | ((with_reducible refine cj_ ?_); refine aH_ (aa_ rfl) rfl rfl (ar_ rfl (ct_ rfl rfl)) rfl rfl rfl ?_) | ((with_reducible refine xk_g ?_); first | refine wx_s (wt_skip rfl rfl rfl rfl) rfl rfl ?_ | (refine bO_ rfl rfl rfl (fun hb => aw_ hb) (fun hb => ?_); (try simp only [aX_, reduceCtorEq] at hb))) | with_reducible refine bj_ ?_ ?_)) | with_reducible exact aP_ | refine ap_ ?_ | (refine aG_ rfl (fun hb => ?_) (fun hb => aw_ hb); (try simp only [aX_, reduceCtorEq] at hb)) | refine aF_ (id := 7) 13 [0, 1, 3, 7, 7, 7, 7, 71, 231, 487, 1023, 2047, 4095] [0, 1, 2, 3, 4, 5, 6, 7, 8, 9, 10, 11, 12] (by kernel_rfl) (by kernel_rfl) rfl rfl ?_)
       all_goals exact aI_ (k + 1) (by omega) (af_ ⟨rfl, rfl, rfl, rfl, rfl, rfl, trivial⟩) ⟨⟨aA_, au_⟩, by omega, nxt⟩
   · rw [if_pos he] at hF
     rw [hit (by rw [hF]; exact he), hF]
     clear hF hit nxt hx hE
     obtain ⟨f, t⟩ := x0
     dsimp only [Spn.cells] at i3 q1
     repeat' (first | with_reducible refine ad_ ?_ | ((with_reducible refine ac_ ?_); first | ((with_reducible refine an_ ?_); refine aq_ (ag_ rfl rfl i1) ?_) | ((with_reducible refine al_ ?_); first | refine aq_ (aN_ rfl Tryz.underlying241 rfl cv_ (i3 _ au_).all) ?_ | refine aq_ (aj_ rfl ah_ Tryz.underlying241 rfl cv_ rfl rfl) ?_) | ((with_reducible refine ay_ ?_); refine bQ_ (aB_ rfl rfl ah_ cv_ rfl rfl rfl rfl) ?_) | ((with_reducible refine at_ ?_); (refine as_ rfl rfl rfl rfl (q1 _ aA_) rfl rfl ?_; rintro _ _ ⟨rfl, hq⟩; all_goals (try (have hqn := hq.nx); try simp only [aU_] at hqn))) | refine ao_ ?_) | refine ap_ ?_ | (refine aG_ rfl (fun hb => ?_) (fun hb => aw_ hb); (try simp only [aX_, reduceCtorEq] at hb)))
     all_goals exact rq1 rfl ⟨rfl, au_⟩
 · have : k = n := by omega
   subst this
   rw [hz]
   repeat' (first | with_reducible refine ad_ ?_ | ((with_reducible refine ac_ ?_); refine ao_ ?_) | refine ap_ ?_ | (refine aG_ rfl (fun hb => ?_) (fun hb => ?_) <;> (try simp only [aX_, reduceCtorEq] at hb) <;> (try (exfalso; omega))))
   exact rq1 rfl ⟨rfl, au_⟩
theorem c173 {s : Spn} (hw : Wf h) : Cf (mz G) (.func (.func 173) #[] #[]) [.agg ⟨s.cells⟩] h fun r h' => r = .agg ⟨s.cells⟩ ∧ Grow h h' := by
 obtain ⟨f, t⟩ := s
 dsimp only [Spn.cells]
 refine ak_ 4 [.cell 2 241] Tryz.func173 rfl rfl rfl rfl ?_
 repeat' (first | with_reducible refine ad_ ?_ | ((with_reducible refine ac_ ?_); first | ((with_reducible refine al_ ?_); refine aq_ (aj_ rfl ah_ Tryz.underlying79 rfl zs79 rfl rfl) ?_) | ((with_reducible refine ay_ ?_); refine bQ_ (aB_ rfl rfl ah_ cv_ rfl rfl rfl rfl) ?_) | refine ao_ ?_) | refine ap_ ?_)
 exact rqc1 rfl (ldAgg ah_ Tryz.underlying241 rfl cv_ rfl rfl) ⟨rfl, au_⟩
set_option maxHeartbeats 4000000 in
theorem c172 {v : Value} {n : Nat} {l : List Spn} (s : Sl G h 2 v n (l.flatMap Spn.cells)) (hl : l.length = n) (hn : n < 1000000) (hw : Wf h) :
   Cf (mz G) (.func (.func 172) #[] #[]) [v, .func (.func 173) #[] #[]] h fun r h' => r = .slice (some ⟨h.nx, 0, some 0⟩) n n ∧ At h' h.nx (.cells (l.flatMap Spn.cells) 241 2 false) ∧ Grow h h' := by
 obtain ⟨a, c, rfl⟩ := s.form
 refine ak_ 26 [.tmp 4] Tryz.func172 rfl rfl rfl rfl ?_
 repeat' (first | with_reducible refine ad_ ?_ | ((with_reducible refine ac_ ?_); first | ((with_reducible refine ik_makeSlice ?_); refine aq_ (op_mkAgg rfl rfl Tryz.underlying221 cv_ zb241 zz241 rfl (by omega) (by omega) rfl) ?_) | ((with_reducible refine av_ ?_); refine aq_ (ax_ rfl Tryz.underlying52) ?_) | refine ao_ ?_) | refine ap_ ?_)
 refine bo_ (fun k => n - k) (fun k : Nat => [(1, .func (.func 173) #[] #[]), (5, .slice (some ⟨h.nx, 0, some 0⟩) n n), (11, .slice a n c), (12, .int .i64 n), (13, .int .i64 k)]) (fun k h' => (Wf h' ∧ Grow h h') ∧ At h' h.nx (.cells ((l.take k).flatMap Spn.cells ++ repeatCells (n - k) [.int .i64 0, .int .i64 0]) 241 2 false) ∧ k ≤ n) 0 (af_ ⟨rfl, rfl, rfl, rfl, rfl, trivial⟩) ⟨⟨aA_, au_⟩, At.new h _, Nat.zero_le _⟩ ?_
 rintro k h1 ⟨⟨w1, g1⟩, hat, hk⟩
 have n1 := g1.nx
 have l1 := hat.lt
 by_cases hlt : k < n
 · obtain ⟨id, i1, i3⟩ := cw_ Spn.len ⟨0, 0⟩ (s.grow g1) hl Tryz.underlying52 zs79 (i := (k : Int)) hlt rfl
   have q1 := fun (h' : H) (x : Spn) (w' : Wf h') => c173 (G := G) (h := h') (s := x) w'
   have fr := fill_rec Spn.len ⟨0, 0⟩ (Z := [.int .i64 0, .int .i64 0]) rfl (l := l) (k := k) (v := (l.getD k ⟨0, 0⟩).cells) hl hlt rfl
   have hlen : ((l.take k).flatMap Spn.cells ++ repeatCells (n - k) [.int .i64 0, .int .i64 0]).length = n * 2 := by
     rw [List.length_append, Spn.flat, rep_len, List.length_take, Nat.min_eq_left (by omega)]; simp only [List.length_cons, List.length_nil]; omega
   obtain ⟨x0, hx⟩ : ∃ x, l.getD k ⟨0, 0⟩ = x := ⟨_, rfl⟩
   rw [hx] at i3 fr
   have q1 := fun (h' : H) (w' : Wf h') => q1 h' x0 w'
   obtain ⟨L, hL⟩ : ∃ L, (l.take k).flatMap Spn.cells ++ repeatCells (n - k) [.int .i64 0, .int .i64 0] = L := ⟨_, rfl⟩
   rw [hL] at hat fr hlen
   obtain ⟨L2, hL2⟩ : ∃ L, (l.take (k + 1)).flatMap Spn.cells ++ repeatCells (n - (k + 1)) [.int .i64 0, .int .i64 0] = L := ⟨_, rfl⟩
   rw [hL2] at fr
   clear hL hx
   obtain ⟨f, t⟩ := x0
   dsimp only [Spn.cells] at i3 q1 fr
   repeat' (first | with_reducible refine ad_ ?_ | ((with_reducible refine ac_ ?_); first | ((with_reducible refine an_ ?_); first | refine aq_ (ag_ rfl rfl i1) ?_ | refine aq_ (op_idxSl (o := k * 2) rfl rfl Tryz.underlying221 cv_ (by omega) (by omega) (by omega)) ?_) | ((with_reducible refine al_ ?_); first | refine aq_ (aN_ rfl Tryz.underlying79 rfl zs79 (i3 _ au_).all) ?_ | refine aq_ (aj_ rfl ah_ Tryz.underlying79 rfl zs79 rfl rfl) ?_) | ((with_reducible refine ay_ ?_); first | refine bQ_ (op_stRec rfl rfl ah_ cv_ rfl (by omega) rfl fr) ?_ | refine bQ_ (aB_ rfl rfl ah_ zs79 rfl rfl rfl rfl) ?_) | ((with_reducible refine at_ ?_); (refine as_ rfl rfl rfl rfl (q1 _ aA_) rfl rfl ?_; rintro _ _ ⟨rfl, hq⟩; all_goals (try (have hqn := hq.nx); try simp only [aU_] at hqn))) | refine ao_ ?_) | refine ap_ ?_ | (refine aG_ rfl (fun hb => ?_) (fun hb => aw_ hb); (try simp only [aX_, reduceCtorEq] at hb)))
   exact aI_ (k + 1) (by omega) (af_ ⟨rfl, rfl, rfl, rfl, rfl, trivial⟩) ⟨⟨aA_, au_⟩, by rw [hL2]; exact ah_, by omega⟩
 · have hkn : k = n := by omega
   subst hkn
   have fe : (l.take k).flatMap Spn.cells ++ repeatCells (k - k) [.int .i64 0, .int .i64 0] = l.flatMap Spn.cells := by
     rw [List.take_of_length_le (by omega), Nat.sub_self]; simp [repeatCells]
   rw [fe] at hat
   repeat' (first | with_reducible refine ad_ ?_ | ((with_reducible refine ac_ ?_); refine ao_ ?_) | refine ap_ ?_ | (refine aG_ rfl (fun hb => ?_) (fun hb => ?_) <;> (try simp only [aX_, reduceCtorEq] at hb) <;> (try (exfalso; omega))))
   exact rq1 rfl ⟨rfl, ah_, au_⟩
theorem c135 {v : Value} {n : Nat} {l : List Spn} (s : Sl G h 2 v n (l.flatMap Spn.cells)) (hl : l.length = n) (hn : n < 1000000) (hw : Wf h) :
   Cf (mz G) (.func (.func 135) #[] #[]) [v] h fun r h' => (∃ b, r = .slice (some ⟨b, 0, some 0⟩) n n ∧ At h' b (.cells (l.flatMap Spn.cells) 241 2 false)) ∧ Grow h h' := by
 have q1 := fun (h' : H) (g : Grow h h') (w' : Wf h') => c172 (s.grow g) hl hn w'
 obtain ⟨a, c, rfl⟩ := s.form
 refine ak_ 5 [.tmp 2] Tryz.func135 rfl rfl rfl rfl ?_
 repeat' (first | with_reducible refine ad_ ?_ | ((with_reducible refine ac_ ?_); first | ((with_reducible refine at_ ?_); (refine as_ rfl rfl rfl rfl (q1 _ au_ aA_) rfl rfl ?_; rintro _ _ ⟨rfl, hat, hq⟩; all_goals (try (have hqn := hq.nx); try simp only [aU_] at hqn))) | refine ao_ ?_) | refine ap_ ?_)
 exact rq1 rfl ⟨⟨_, rfl, ah_⟩, au_⟩
theorem c134 {v : Value} {n : Nat} {l : List Spn} (s : Sl G h 2 v n (l.flatMap Spn.cells)) (hl : l.length = n) (hn : n < 1000000) (hw : Wf h) :
   Cf (mz G) (.func (.func 134) #[] #[]) [v] h fun r h' => r = .int .i64 (spsE l) ∧ Grow h h' := by
 have q1 := fun (h' : H) (g : Grow h h') (w' : Wf h') => c135 (s.grow g) hl hn w'
 have q2 := fun (h' : H) (b : Nat) (hat : At h' b (.cells (l.flatMap Spn.cells) 241 2 false)) (w' : Wf h') => c171 spE spO (Sl.ofAt (G := G) hat (by rw [Spn.flat, hl]) (Nat.le_refl n)) hl hn w' (fun h2 x w2 => c166 w2) (fun h2 x y w2 => c165 w2)
 have hE : spsE l = if 256 < n then 5 else errN (sucA ⟨0, 0⟩ spE spO l) n := by unfold spsE; rw [hl]
 rw [hE]
 obtain ⟨a, c, rfl⟩ := s.form
 by_cases h6 : 256 < n
 · rw [if_pos h6]
   refine ak_ 9 [.tmp 2] Tryz.func134 rfl rfl rfl rfl ?_
   repeat' (first | with_reducible refine ad_ ?_ | ((with_reducible refine ac_ ?_); first | ((with_reducible refine av_ ?_); refine aq_ (ax_ rfl Tryz.underlying52) ?_) | refine ao_ ?_) | refine ap_ ?_ | (refine aG_ rfl (fun hb => ?_) (fun hb => aw_ hb); (try simp only [aX_, reduceCtorEq] at hb)))
   exact rq1 rfl ⟨rfl, au_⟩
 · rw [if_neg h6]
   refine ak_ 9 [.tmp 2] Tryz.func134 rfl rfl rfl rfl ?_
   repeat' (first | with_reducible refine ad_ ?_ | ((with_reducible refine ac_ ?_); first | ((with_reducible refine av_ ?_); refine aq_ (ax_ rfl Tryz.underlying52) ?_) | ((with_reducible refine at_ ?_); first | (refine as_ rfl rfl rfl rfl (q1 _ au_ aA_) rfl rfl ?_; rintro _ _ ⟨⟨b, rfl, hat⟩, hq⟩; all_goals (try (have hqn := hq.nx); try simp only [aU_] at hqn)) | (refine as_ rfl rfl rfl rfl (q2 _ _ ah_ aA_) rfl rfl ?_; rintro _ _ ⟨rfl, hq⟩; all_goals (try (have hqn := hq.nx); try simp only [aU_] at hqn))) | refine ao_ ?_) | refine ap_ ?_ | (refine aG_ rfl (fun hb => aw_ hb) (fun hb => ?_); (try simp only [aX_, reduceCtorEq] at hb)))
   exact rq1 rfl ⟨rfl, au_⟩
theorem c176 {k : Int} {s : Spn} (hw : Wf h) : Cf (mz G) (.func (.func 176) #[] #[]) [.agg ⟨s.cells⟩, .int .i64 k] h fun r h' => r = .bool (inP k s) ∧ Grow h h' := by
 obtain ⟨f, t⟩ := s
 unfold inP
 dsimp only [Spn.cells]
 by_cases h1 : f ≤ k
 · by_cases h2 : k < t
   · rw [decide_eq_true ⟨h1, h2⟩]
     refine ak_ 15 [.tmp 4] Tryz.func176 rfl rfl rfl rfl ?_
     repeat' (first | with_reducible refine ad_ ?_ | ((with_reducible refine ac_ ?_); first | ((with_reducible refine al_ ?_); refine aq_ (ae_ rfl ah_ Tryz.underlying3 rfl rfl) ?_) | ((with_reducible refine cC_ ?_); first | ((with_reducible refine bH_ ?_); refine ai_ rfl rfl rfl (aD_ rfl) rfl rfl ?_) | ((with_reducible refine bc_ ?_); refine ai_ rfl rfl rfl (ab_ (o := 1) rfl Tryz.underlying241 rfl zs3 rfl) rfl rfl ?_) | ((with_reducible refine bF_ ?_); refine ai_ rfl rfl rfl (ae_ rfl ah_ Tryz.underlying3 rfl rfl) rfl rfl ?_) | ((with_reducible refine bB_ ?_); refine ai_ rfl rfl rfl (cI_ rfl rfl) rfl rfl ?_) | (refine aY_ rfl rfl rfl (fun hb => ?_) (fun hb => aw_ hb); (try simp only [aX_, reduceCtorEq] at hb))) | refine ao_ ?_) | refine ap_ ?_)
     all_goals first
       | exact rq1 rfl ⟨rfl, au_⟩
       | exact rq1 rfl ⟨by rw [decide_eq_true h2], au_⟩
   · rw [decide_eq_false (fun q => h2 q.2)]
     refine ak_ 15 [.tmp 4] Tryz.func176 rfl rfl rfl rfl ?_
     repeat' (first | with_reducible refine ad_ ?_ | ((with_reducible refine ac_ ?_); first | ((with_reducible refine al_ ?_); refine aq_ (ae_ rfl ah_ Tryz.underlying3 rfl rfl) ?_) | ((with_reducible refine cC_ ?_); first | ((with_reducible refine bH_ ?_); refine ai_ rfl rfl rfl (aD_ rfl) rfl rfl ?_) | ((with_reducible refine bc_ ?_); refine ai_ rfl rfl rfl (ab_ (o := 1) rfl Tryz.underlying241 rfl zs3 rfl) rfl rfl ?_) | ((with_reducible refine bF_ ?_); refine ai_ rfl rfl rfl (ae_ rfl ah_ Tryz.underlying3 rfl rfl) rfl rfl ?_) | ((with_reducible refine bB_ ?_); refine ai_ rfl rfl rfl (cI_ rfl rfl) rfl rfl ?_) | (refine aY_ rfl rfl rfl (fun hb => ?_) (fun hb => aw_ hb); (try simp only [aX_, reduceCtorEq] at hb))) | refine ao_ ?_) | refine ap_ ?_)
     all_goals first
       | exact rq1 rfl ⟨rfl, au_⟩
       | exact rq1 rfl ⟨by rw [decide_eq_false h2], au_⟩
 · rw [decide_eq_false (fun q => h1 q.1)]
   refine ak_ 15 [.tmp 4] Tryz.func176 rfl rfl rfl rfl ?_
   repeat' (first | with_reducible refine ad_ ?_ | ((with_reducible refine ac_ ?_); first | ((with_reducible refine al_ ?_); refine aq_ (ae_ rfl ah_ Tryz.underlying3 rfl rfl) ?_) | ((with_reducible refine cC_ ?_); first | refine bn_ rfl rfl rfl rfl rfl rfl ?_ | (refine aY_ rfl rfl rfl (fun hb => aw_ hb) (fun hb => ?_); (try simp only [aX_, reduceCtorEq] at hb))) | refine ao_ ?_) | refine ap_ ?_)
   exact rq1 rfl ⟨rfl, au_⟩
theorem c175 {A : Nat} {k : Int} {s : Spn} (hA : At h A (.cells [.int .i64 k] 3 1 false)) (hw : Wf h) : Cf (mz G) (.func (.func 175) #[] #[.pointer (some ⟨A, 0, some 0⟩)]) [.agg ⟨s.cells⟩] h fun r h' => r = .bool (inP k s) ∧ Grow h h' := by
 have qc := fun (h' : H) (w' : Wf h') => c176 (G := G) (h := h') (k := k) (s := s) w'
 obtain ⟨f, t⟩ := s
 dsimp only [Spn.cells] at qc ⊢
 have lA := hA.lt
 refine ch_ (sz := 7) (rs := [.tmp 3]) (all := [.agg ⟨[.int .i64 f, .int .i64 t]⟩, .pointer (some ⟨A, 0, some 0⟩)]) Tryz.func175 rfl rfl rfl rfl rfl ?_
 repeat' (first | with_reducible refine ad_ ?_ | ((with_reducible refine ac_ ?_); first | ((with_reducible refine al_ ?_); first | refine aq_ (aj_ rfl ah_ Tryz.underlying241 rfl cv_ rfl rfl) ?_ | refine aq_ (ae_ rfl ah_ Tryz.underlying3 rfl rfl) ?_) | ((with_reducible refine at_ ?_); (refine as_ rfl rfl rfl rfl (qc _ aA_) rfl rfl ?_; rintro _ _ ⟨rfl, hq⟩; all_goals (try (have hqn := hq.nx); try simp only [aU_] at hqn))) | refine ao_ ?_) | refine ap_ ?_)
 exact rq1 rfl ⟨rfl, au_⟩
set_option maxHeartbeats 4000000 in
theorem c188 {v : Value} {A : Nat} {n : Nat} {l : List Spn} (p : Spn → Bool) (s : Sl G h 2 v n (l.flatMap Spn.cells)) (hl : l.length = n) (hn : n < 1000000) (hw : Wf h) (hq : ∀ h' x, Grow h h' → Wf h' → x ∈ l → Cf (mz G) (.func (.func 175) #[] #[.pointer (some ⟨A, 0, some 0⟩)]) [.agg ⟨Spn.cells x⟩] h' fun r h2 => r = .bool (p x) ∧ Grow h' h2) :
   Cf (mz G) (.func (.func 188) #[] #[]) [v, .func (.func 175) #[] #[.pointer (some ⟨A, 0, some 0⟩)]] h fun r h' => r = .int .i64 (idxR p l 0) ∧ Grow h h' := by
 obtain ⟨a, c, rfl⟩ := s.form
 refine ak_ 19 [.tmp 4] Tryz.func188 rfl rfl rfl rfl ?_
 repeat' (first | with_reducible refine ad_ ?_ | ((with_reducible refine ac_ ?_); first | ((with_reducible refine av_ ?_); refine aq_ (ax_ rfl Tryz.underlying221) ?_) | refine ao_ ?_) | refine ap_ ?_)
 refine bo_ (fun k => n - k) (fun k : Nat => [(0, .slice a n c), (1, .func (.func 175) #[] #[.pointer (some ⟨A, 0, some 0⟩)]), (7, .int .i64 n), (8, .int .i64 k)]) (fun k h' => (Wf h' ∧ Grow h h') ∧ k ≤ n ∧ idxR p (l.drop k) k = idxR p l 0) 0 (af_ ⟨rfl, rfl, rfl, rfl, trivial⟩) ⟨⟨aA_, au_⟩, Nat.zero_le _, rfl⟩ ?_
 rintro k h1 ⟨⟨w1, g1⟩, hk, hi⟩
 have n1 := g1.nx
 by_cases hlt : k < n
 · obtain ⟨id, i1, i3⟩ := cw_ Spn.len ⟨0, 0⟩ (s.grow g1) hl Tryz.underlying221 cv_ (i := (k : Int)) hlt rfl
   rw [drop_next ⟨0, 0⟩ (by omega), idxR] at hi
   have hm : l.getD k ⟨0, 0⟩ ∈ l := by simp [List.getD, List.getElem?_eq_getElem (show k < l.length by omega)]
   obtain ⟨x0, hx⟩ : ∃ x, l.getD k ⟨0, 0⟩ = x := ⟨_, rfl⟩
   rw [hx] at i3 hi hm
   have q1 := fun (h' : H) (g' : Grow h1 h') (w' : Wf h') => hq h' x0 (g1.trans g') w' hm
   clear hx hm
   cases hp : p x0 with
   | true =>
     rw [hp] at q1
     rw [if_pos hp] at hi
     clear hp
     obtain ⟨f, t⟩ := x0
     dsimp only [Spn.cells] at i3 q1
     repeat' (first | with_reducible refine ad_ ?_ | ((with_reducible refine ac_ ?_); first | ((with_reducible refine an_ ?_); refine aq_ (ag_ rfl rfl i1) ?_) | ((with_reducible refine al_ ?_); refine aq_ (aN_ rfl Tryz.underlying241 rfl cv_ (i3 _ au_).all) ?_) | ((with_reducible refine at_ ?_); (refine as_ rfl rfl rfl rfl (q1 _ au_ aA_) rfl rfl ?_; rintro _ _ ⟨rfl, hq⟩; all_goals (try (have hqn := hq.nx); try simp only [aU_] at hqn))) | refine ao_ ?_) | refine ap_ ?_ | (refine aG_ rfl (fun hb => ?_) (fun hb => aw_ hb); (try simp only [aX_, reduceCtorEq] at hb)))
     exact rq1 rfl ⟨by rw [hi], au_⟩
   | false =>
     rw [hp] at q1
     rw [if_neg (by rw [hp]; decide)] at hi
     clear hp
     obtain ⟨f, t⟩ := x0
     dsimp only [Spn.cells] at i3 q1
     repeat' (first | with_reducible refine ad_ ?_ | ((with_reducible refine ac_ ?_); first | ((with_reducible refine an_ ?_); refine aq_ (ag_ rfl rfl i1) ?_) | ((with_reducible refine al_ ?_); refine aq_ (aN_ rfl Tryz.underlying241 rfl cv_ (i3 _ au_).all) ?_) | ((with_reducible refine at_ ?_); (refine as_ rfl rfl rfl rfl (q1 _ au_ aA_) rfl rfl ?_; rintro _ _ ⟨rfl, hq⟩; all_goals (try (have hqn := hq.nx); try simp only [aU_] at hqn))) | refine ao_ ?_) | refine ap_ ?_ | (refine aG_ rfl (fun hb => ?_) (fun hb => aw_ hb); (try simp only [aX_, reduceCtorEq] at hb)))
     exact aI_ (k + 1) (by omega) (af_ ⟨rfl, rfl, rfl, rfl, trivial⟩) ⟨⟨aA_, au_⟩, by omega, hi⟩
 · repeat' (first | with_reducible refine ad_ ?_ | ((with_reducible refine ac_ ?_); refine ao_ ?_) | refine ap_ ?_ | (refine aG_ rfl (fun hb => ?_) (fun hb => ?_) <;> (try simp only [aX_, reduceCtorEq] at hb) <;> (try (exfalso; omega))))
   refine rq1 rfl ⟨?_, au_⟩
   rw [List.drop_eq_nil_of_le (by omega)] at hi
   rw [← hi]; rfl
theorem c174 {v : Value} {A : Nat} {n : Nat} {l : List Spn} (p : Spn → Bool) (s : Sl G h 2 v n (l.flatMap Spn.cells)) (hl : l.length = n) (hn : n < 1000000) (hw : Wf h) (hq : ∀ h' x, Grow h h' → Wf h' → x ∈ l → Cf (mz G) (.func (.func 175) #[] #[.pointer (some ⟨A, 0, some 0⟩)]) [.agg ⟨Spn.cells x⟩] h' fun r h2 => r = .bool (p x) ∧ Grow h' h2) :
   Cf (mz G) (.func (.func 174) #[] #[]) [v, .func (.func 175) #[] #[.pointer (some ⟨A, 0, some 0⟩)]] h fun r h' => r = .bool (l.any p) ∧ Grow h h' := by
 have q1 := fun (h' : H) (g' : Grow h h') (w' : Wf h') => c188 p (s.grow g') hl hn w' (fun h2 x g2 w2 m => hq h2 x (g'.trans g2) w2 m)
 rw [← idxR_any p l 0]
 generalize idxR p l 0 = I at q1
 obtain ⟨a, c, rfl⟩ := s.form
 refine ak_ 9 [.tmp 4] Tryz.func174 rfl rfl rfl rfl ?_
 repeat' (first | with_reducible refine ad_ ?_ | ((with_reducible refine ac_ ?_); first | ((with_reducible refine at_ ?_); (refine as_ rfl rfl rfl rfl (q1 _ au_ aA_) rfl rfl ?_; rintro _ _ ⟨rfl, hq⟩; all_goals (try (have hqn := hq.nx); try simp only [aU_] at hqn))) | refine ao_ ?_) | refine ap_ ?_)
 exact rq1 rfl ⟨rfl, au_⟩
theorem c141 {k : Int} {v : Value} {n : Nat} {l : List Spn} (s : Sl G h 2 v n (l.flatMap Spn.cells)) (hl : l.length = n) (hn : n < 1000000) (hw : Wf h) :
   Cf (mz G) (.func (.func 141) #[] #[]) [.int .i64 k, v] h fun r h' => r = .bool (l.any (inP k)) ∧ Grow h h' := by
 have q1 := fun (h' : H) (A : Nat) (hA : At h' A (.cells [.int .i64 k] 3 1 false)) (g : Grow h h') (w' : Wf h') => c174 (A := A) (inP k) (s.grow g) hl hn w' (fun h2 x g2 w2 m => c175 (hA.grow g2) w2)
 generalize l.any (inP k) = B at q1 ⊢
 obtain ⟨a, c, rfl⟩ := s.form
 refine ak_ 8 [.tmp 4] Tryz.func141 rfl rfl rfl rfl ?_
 repeat' (first | with_reducible refine ad_ ?_ | ((with_reducible refine ac_ ?_); first | ((with_reducible refine cE_ ?_); refine aq_ (co_ (fun _ q => by cases q) rfl rfl) ?_) | ((with_reducible refine cF_ ?_); refine aq_ (op_box1 rfl rfl zs3) ?_) | ((with_reducible refine at_ ?_); (refine as_ rfl rfl rfl rfl (q1 _ _ ah_ au_ aA_) rfl rfl ?_; rintro _ _ ⟨rfl, hq⟩; all_goals (try (have hqn := hq.nx); try simp only [aU_] at hqn))) | refine ao_ ?_) | refine ap_ ?_)
 exact rq1 rfl ⟨rfl, au_⟩
theorem spn_one (l : List Spn) : (l.flatMap Spn.cells).all one = true := by
 simp only [List.all_flatMap, List.all_eq_true]
 intro x _ y hy
 obtain ⟨f, t⟩ := x
 simp only [Spn.cells, List.mem_cons, List.not_mem_nil, or_false] at hy
 rcases hy with rfl | rfl <;> rfl
theorem c68 {v : Value} {n : Nat} {l : List Spn} (s : Sl G h 2 v n (l.flatMap Spn.cells)) (hn : n < 1000000) (hw : Wf h) :
   Cf (mz G) (.func (.func 68) #[] #[]) [v] h fun r h' => Sl G h' 2 r n (l.flatMap Spn.cells) ∧ Grow h h' := by
 obtain ⟨r, h2, hap, s2, hg, hw2⟩ := append_copy (M := mz G) (st := 52) (xt := 52) (h := h.push (.cells [] 79 2 false)) Tryz.underlying52 Tryz.underlying52 rfl zs79 zb79 zz79 rfl (At.new _ _) (s.grow ((Grow.refl _).push _)) (spn_one l) (by omega)
 obtain ⟨a, c, rfl⟩ := s.form
 refine ak_ 6 [.tmp 2] Tryz.func68 rfl rfl rfl rfl ?_
 repeat' (first | with_reducible refine ad_ ?_ | ((with_reducible refine ac_ ?_); first | ((with_reducible refine av_ ?_); refine aq_ (bl_ rfl rfl hap) ?_) | ((with_reducible refine aE_ ?_); refine aq_ (aR_ rfl Tryz.underlying52 zs79 zz79 rfl rfl) ?_) | refine ao_ ?_) | refine ap_ ?_)
 exact rq1 rfl ⟨s2, ((Grow.refl _).push _).trans hg⟩
/- Survey: spans by the reference; windows by the program. -/
theorem spE_two (s : Spn) : spE s = 0 ∨ spE s = 14 := by unfold spE; split <;> simp
theorem c111 {s : Spn} (hw : Wf h) : Cf (mz G) (.func (.func 111) #[] #[]) [.agg ⟨s.cells⟩] h fun r h' => r = .bool (decide (¬spE s = 0)) ∧ Grow h h' := by
 obtain ⟨f, t⟩ := s
 dsimp only [Spn.cells]
 unfold spE
 dsimp only
 by_cases h1 : f < 0
 · rw [if_neg (by omega)]
   refine ak_ 18 [.tmp 2] Tryz.func111 rfl rfl rfl rfl ?_
   repeat' (first | with_reducible refine ad_ ?_ | ((with_reducible refine ac_ ?_); first | ((with_reducible refine al_ ?_); refine aq_ (ae_ rfl ah_ Tryz.underlying3 rfl rfl) ?_) | ((with_reducible refine cC_ ?_); first | refine bn_ rfl rfl rfl rfl rfl rfl ?_ | (refine aY_ rfl rfl rfl (fun hb => ?_) (fun hb => aw_ hb); (try simp only [aX_, reduceCtorEq] at hb))) | refine ao_ ?_) | refine ap_ ?_)
   exact rq1 rfl ⟨rfl, au_⟩
 by_cases h2 : t ≤ f
 · rw [if_neg (by omega)]
   refine ak_ 18 [.tmp 2] Tryz.func111 rfl rfl rfl rfl ?_
   repeat' (first | with_reducible refine ad_ ?_ | ((with_reducible refine ac_ ?_); first | ((with_reducible refine al_ ?_); refine aq_ (ae_ rfl ah_ Tryz.underlying3 rfl rfl) ?_) | ((with_reducible refine cC_ ?_); first | refine bn_ rfl rfl rfl rfl rfl rfl ?_ | ((with_reducible refine bc_ ?_); first | refine ai_ rfl rfl rfl (ab_ (o := 0) rfl Tryz.underlying79 rfl zs3 rfl) rfl rfl ?_ | refine ai_ rfl rfl rfl (ab_ (o := 1) rfl Tryz.underlying79 rfl zs3 rfl) rfl rfl ?_) | ((with_reducible refine bF_ ?_); refine ai_ rfl rfl rfl (ae_ rfl ah_ Tryz.underlying3 rfl rfl) rfl rfl ?_) | ((with_reducible refine bB_ ?_); refine ai_ rfl rfl rfl (op_geq rfl rfl) rfl rfl ?_) | (refine aY_ rfl rfl rfl (fun hb => aw_ hb) (fun hb => ?_); (try simp only [aX_, reduceCtorEq] at hb)) | (refine aY_ rfl rfl rfl (fun hb => ?_) (fun hb => aw_ hb); (try simp only [aX_, reduceCtorEq] at hb))) | refine ao_ ?_) | refine ap_ ?_)
   exact rq1 rfl ⟨rfl, au_⟩
 by_cases h3 : 100000 < t
 · rw [if_neg (by omega)]
   refine ak_ 18 [.tmp 2] Tryz.func111 rfl rfl rfl rfl ?_
   repeat' (first | with_reducible refine ad_ ?_ | ((with_reducible refine ac_ ?_); first | ((with_reducible refine al_ ?_); refine aq_ (ae_ rfl ah_ Tryz.underlying3 rfl rfl) ?_) | ((with_reducible refine cC_ ?_); first | ((with_reducible refine bc_ ?_); first | refine ai_ rfl rfl rfl (ab_ (o := 0) rfl Tryz.underlying79 rfl zs3 rfl) rfl rfl ?_ | refine ai_ rfl rfl rfl (ab_ (o := 1) rfl Tryz.underlying79 rfl zs3 rfl) rfl rfl ?_) | ((with_reducible refine bF_ ?_); refine ai_ rfl rfl rfl (ae_ rfl ah_ Tryz.underlying3 rfl rfl) rfl rfl ?_) | ((with_reducible refine bB_ ?_); first | refine ai_ rfl rfl rfl (op_geq rfl rfl) rfl rfl ?_ | refine ai_ rfl rfl rfl (bM_ rfl rfl) rfl rfl ?_) | (refine aY_ rfl rfl rfl (fun hb => aw_ hb) (fun hb => ?_); (try simp only [aX_, reduceCtorEq] at hb))) | refine ao_ ?_) | refine ap_ ?_)
   all_goals first
     | exact rq1 rfl ⟨rfl, au_⟩
     | exact rq1 rfl ⟨by rw [decide_eq_true h3]; rfl, au_⟩
 · rw [if_pos (by omega)]
   refine ak_ 18 [.tmp 2] Tryz.func111 rfl rfl rfl rfl ?_
   repeat' (first | with_reducible refine ad_ ?_ | ((with_reducible refine ac_ ?_); first | ((with_reducible refine al_ ?_); refine aq_ (ae_ rfl ah_ Tryz.underlying3 rfl rfl) ?_) | ((with_reducible refine cC_ ?_); first | ((with_reducible refine bc_ ?_); first | refine ai_ rfl rfl rfl (ab_ (o := 0) rfl Tryz.underlying79 rfl zs3 rfl) rfl rfl ?_ | refine ai_ rfl rfl rfl (ab_ (o := 1) rfl Tryz.underlying79 rfl zs3 rfl) rfl rfl ?_) | ((with_reducible refine bF_ ?_); refine ai_ rfl rfl rfl (ae_ rfl ah_ Tryz.underlying3 rfl rfl) rfl rfl ?_) | ((with_reducible refine bB_ ?_); first | refine ai_ rfl rfl rfl (op_geq rfl rfl) rfl rfl ?_ | refine ai_ rfl rfl rfl (bM_ rfl rfl) rfl rfl ?_) | (refine aY_ rfl rfl rfl (fun hb => aw_ hb) (fun hb => ?_); (try simp only [aX_, reduceCtorEq] at hb))) | refine ao_ ?_) | refine ap_ ?_)
   all_goals first
     | exact rq1 rfl ⟨rfl, au_⟩
     | exact rq1 rfl ⟨by rw [decide_eq_false h3]; rfl, au_⟩
set_option maxHeartbeats 8000000 in
theorem c66 {v : Value} {n : Nat} {l : List Spn} (s : Sl G h 2 v n (l.flatMap Spn.cells)) (hl : l.length = n) (hn : n < 1000000) (hw : Wf h) : Cf (mz G) (.func (.func 66) #[] #[]) [v] h fun r h' => r = .int .i64 (spsE l) ∧ Grow h h' := by
 obtain ⟨a, c, rfl⟩ := s.form
 have hE : spsE l = if 256 < n then 5 else errN (sucA ⟨0, 0⟩ spE spO l) n := by unfold spsE; rw [hl]
 rw [hE]
 by_cases h64 : 256 < n
 · rw [if_pos h64]
   refine ak_ 34 [.tmp 2] Tryz.func66 rfl rfl rfl rfl ?_
   repeat' (first | with_reducible refine ad_ ?_ | ((with_reducible refine ac_ ?_); first | ((with_reducible refine av_ ?_); refine aq_ (ax_ rfl Tryz.underlying52) ?_) | refine ao_ ?_) | refine ap_ ?_ | (refine aG_ rfl (fun hb => ?_) (fun hb => aw_ hb); (try simp only [aX_, reduceCtorEq] at hb)))
   exact rq1 rfl ⟨rfl, au_⟩
 · rw [if_neg h64]
   refine ak_ 34 [.tmp 2] Tryz.func66 rfl rfl rfl rfl ?_
   repeat' (first | with_reducible refine ad_ ?_ | ((with_reducible refine ac_ ?_); first | ((with_reducible refine av_ ?_); refine aq_ (ax_ rfl Tryz.underlying52) ?_) | refine ao_ ?_) | refine ap_ ?_ | (refine aG_ rfl (fun hb => aw_ hb) (fun hb => ?_); (try simp only [aX_, reduceCtorEq] at hb)))
   refine bo_ (fun k => n - k) (fun k : Nat => [(0, .slice a n c), (3, .int .i64 k)]) (fun k h' => (Wf h' ∧ Grow h h') ∧ k ≤ n ∧ errN (sucA ⟨0, 0⟩ spE spO l) k = 0) 0 (af_ ⟨rfl, rfl, trivial⟩) ⟨⟨aA_, au_⟩, Nat.zero_le _, cM_ _⟩ ?_
   rintro k h1 ⟨⟨w1, g1⟩, hk, hz⟩
   have n1 := g1.nx
   by_cases hlt : k < n
   · obtain ⟨id, i1, i3⟩ := cw_ Spn.len ⟨0, 0⟩ (s.grow g1) hl Tryz.underlying52 zs79 (i := (k : Int)) hlt rfl
     have nxt := cB_ hz
     have hit := fun (q : (sucA ⟨0, 0⟩ spE spO l) k ≠ 0) => (errN_hit (f := (sucA ⟨0, 0⟩ spE spO l)) (k := k + 1) (n := n) (by omega) (by rw [nxt]; exact q)).trans nxt
     obtain ⟨x0, hx⟩ : ∃ x, l.getD k ⟨0, 0⟩ = x := ⟨_, rfl⟩
     have hF : (sucA ⟨0, 0⟩ spE spO l) k = if spE x0 ≠ 0 then spE x0 else if 0 < k ∧ spO x0 (l.getD (k - 1) ⟨0, 0⟩) = false then 11 else 0 := by unfold sucA; rw [hx]
     rw [hx] at i3
     have qf := fun (h' : H) (w' : Wf h') => c111 (G := G) (h := h') (s := x0) w'
     have two := spE_two x0
     clear hx
     obtain ⟨f, t⟩ := x0
     have hO : ∀ y, spO ⟨f, t⟩ y = decide (y.t ≤ f) := fun y => rfl
     have jf := fun (h' : H) (g' : Grow h1 h') => (show acell G h' (aadd id 0) = some (.int .i64 f) from (i3 h' g').get 0 _ rfl)
     generalize spE ⟨f, t⟩ = E at qf hF two
     dsimp only [Spn.cells] at i3 qf
     rw [hO] at hF
     clear hO
     by_cases he : E = 0
     · subst he
       rw [if_neg (by decide)] at hF
       rw [decide_eq_false (by decide)] at qf
       by_cases hk0 : 0 < k
       · obtain ⟨jd, j1, j3⟩ := cw_ Spn.len ⟨0, 0⟩ (s.grow g1) hl Tryz.underlying52 zs79 (i := (k : Int) - 1) (q := k - 1) (by omega) (by omega)
         obtain ⟨y0, hy⟩ : ∃ y, l.getD (k - 1) ⟨0, 0⟩ = y := ⟨_, rfl⟩
         rw [hy] at j3 hF
         clear hy
         obtain ⟨g, u⟩ := y0
         have ju := fun (h' : H) (g' : Grow h1 h') => (show acell G h' (aadd jd 1) = some (.int .i64 u) from (j3 h' g').get 1 _ rfl)
         clear j3
         dsimp only at hF
         by_cases hut : u ≤ f
         · rw [decide_eq_true hut, if_neg (by simp)] at hF
           rw [hF] at nxt
           clear hF hit
           repeat' (first | with_reducible refine ad_ ?_ | ((with_reducible refine ac_ ?_); first | ((with_reducible refine an_ ?_); refine aq_ (ag_ rfl rfl i1) ?_) | ((with_reducible refine al_ ?_); refine aq_ (aN_ rfl Tryz.underlying79 rfl zs79 (i3 _ au_).all) ?_) | ((with_reducible refine av_ ?_); refine aq_ (ax_ rfl Tryz.underlying52) ?_) | ((with_reducible refine at_ ?_); (refine as_ rfl rfl rfl rfl (qf _ aA_) rfl rfl ?_; rintro _ _ ⟨rfl, hq⟩; all_goals (try (have hqn := hq.nx); try simp only [aU_] at hqn))) | refine ao_ ?_) | ((with_reducible refine bb_ ?_); ((with_reducible refine bd_ ?_); first | ((with_reducible refine ba_ ?_); refine aH_ (aa_ rfl) rfl rfl (ar_ rfl (aD_ rfl)) rfl rfl rfl ?_) | ((with_reducible refine bD_ ?_); refine aH_ (aa_ rfl) rfl rfl (ar_ rfl (bM_ rfl rfl)) rfl rfl rfl ?_) | ((with_reducible refine cj_ ?_); refine aH_ (aa_ rfl) rfl rfl (ar_ rfl (cb_ rfl rfl)) rfl rfl rfl ?_) | ((with_reducible refine xk_g ?_); first | ((with_reducible refine cJ_ ?_); refine aH_ (aL_ rfl rfl rfl) rfl rfl (ar_ rfl (aD_ rfl)) rfl rfl rfl ?_) | ((with_reducible refine bJ_ ?_); first | refine aH_ (aL_ rfl rfl rfl) rfl rfl (ar_ rfl (ag_ rfl rfl i1)) rfl rfl rfl ?_ | refine aH_ (aL_ rfl rfl rfl) rfl rfl (ar_ rfl (ag_ rfl rfl j1)) rfl rfl rfl ?_) | ((with_reducible refine cK_ ?_); first | refine aO_ (aL_ rfl rfl rfl) rfl (ar_ rfl (az_ rfl Tryz.underlying3 rfl (jf _ au_))) rfl rfl rfl ?_ | refine aO_ (aL_ rfl rfl rfl) rfl (ar_ rfl (az_ rfl Tryz.underlying3 rfl (ju _ au_))) rfl rfl rfl ?_) | ((with_reducible refine xg_bin ?_); first | refine aH_ (aL_ rfl rfl rfl) rfl rfl (ar_ rfl (cI_ rfl rfl)) rfl rfl rfl ?_ | refine aH_ (aL_ rfl rfl rfl) rfl rfl (ar_ rfl (bY_ rfl rfl (w64 (by omega) (by omega)))) rfl rfl rfl ?_) | ((with_reducible refine cl_ ?_); first | refine aH_ (aL_ rfl rfl rfl) rfl rfl (ar_ rfl (ab_ (o := 0) rfl Tryz.underlying79 rfl zs3 rfl)) rfl rfl rfl ?_ | refine aH_ (aL_ rfl rfl rfl) rfl rfl (ar_ rfl (ab_ (o := 1) rfl Tryz.underlying79 rfl zs3 rfl)) rfl rfl rfl ?_) | (refine bO_ rfl rfl rfl (fun hb => ?_) (fun hb => aw_ hb); (try simp only [aX_, reduceCtorEq] at hb))) | with_reducible refine bj_ ?_ ?_)) | with_reducible exact aP_ | with_reducible refine aJ_ ?_ ?_ | ((with_reducible refine bi_ ?_); first | exact aS_ | refine am_ rfl rfl (ar_ rfl (az_ rfl Tryz.underlying3 rfl (jf _ au_))) ?_ | refine am_ rfl rfl (ar_ rfl (az_ rfl Tryz.underlying3 rfl (ju _ au_))) ?_) | refine ap_ ?_ | (refine aG_ rfl (fun hb => aw_ hb) (fun hb => ?_); (try simp only [aX_, reduceCtorEq] at hb)) | (refine aG_ rfl (fun hb => ?_) (fun hb => aw_ hb); (try simp only [aX_, reduceCtorEq] at hb)) | refine aF_ (id := 8) 16 [0, 1, 3, 7, 7, 31, 63, 127, 7, 7, 519, 1799, 3847, 7943, 16383, 32767] [0, 1, 2, 3, 4, 5, 6, 7, 8, 9, 10, 11, 12, 13, 14, 15] (by kernel_rfl) (by kernel_rfl) rfl rfl ?_)
           all_goals exact aI_ (k + 1) (by omega) (af_ ⟨rfl, rfl, trivial⟩) ⟨⟨aA_, au_⟩, by omega, nxt⟩
         · rw [decide_eq_false hut, if_pos ⟨hk0, rfl⟩] at hF
           rw [hit (by rw [hF]; decide), hF]
           clear hF hit nxt
           repeat' (first | with_reducible refine ad_ ?_ | ((with_reducible refine ac_ ?_); first | ((with_reducible refine an_ ?_); refine aq_ (ag_ rfl rfl i1) ?_) | ((with_reducible refine al_ ?_); refine aq_ (aN_ rfl Tryz.underlying79 rfl zs79 (i3 _ au_).all) ?_) | ((with_reducible refine av_ ?_); refine aq_ (ax_ rfl Tryz.underlying52) ?_) | ((with_reducible refine at_ ?_); (refine as_ rfl rfl rfl rfl (qf _ aA_) rfl rfl ?_; rintro _ _ ⟨rfl, hq⟩; all_goals (try (have hqn := hq.nx); try simp only [aU_] at hqn))) | refine ao_ ?_) | ((with_reducible refine bb_ ?_); ((with_reducible refine bd_ ?_); first | ((with_reducible refine ba_ ?_); refine aH_ (aa_ rfl) rfl rfl (ar_ rfl (aD_ rfl)) rfl rfl rfl ?_) | ((with_reducible refine bD_ ?_); refine aH_ (aa_ rfl) rfl rfl (ar_ rfl (bM_ rfl rfl)) rfl rfl rfl ?_) | ((with_reducible refine cj_ ?_); refine aH_ (aa_ rfl) rfl rfl (ar_ rfl (cb_ rfl rfl)) rfl rfl rfl ?_) | ((with_reducible refine xk_g ?_); first | ((with_reducible refine cJ_ ?_); refine aH_ (aL_ rfl rfl rfl) rfl rfl (ar_ rfl (aD_ rfl)) rfl rfl rfl ?_) | ((with_reducible refine bJ_ ?_); first | refine aH_ (aL_ rfl rfl rfl) rfl rfl (ar_ rfl (ag_ rfl rfl i1)) rfl rfl rfl ?_ | refine aH_ (aL_ rfl rfl rfl) rfl rfl (ar_ rfl (ag_ rfl rfl j1)) rfl rfl rfl ?_) | ((with_reducible refine cK_ ?_); first | refine aO_ (aL_ rfl rfl rfl) rfl (ar_ rfl (az_ rfl Tryz.underlying3 rfl (jf _ au_))) rfl rfl rfl ?_ | refine aO_ (aL_ rfl rfl rfl) rfl (ar_ rfl (az_ rfl Tryz.underlying3 rfl (ju _ au_))) rfl rfl rfl ?_) | ((with_reducible refine xg_bin ?_); first | refine aH_ (aL_ rfl rfl rfl) rfl rfl (ar_ rfl (cI_ rfl rfl)) rfl rfl rfl ?_ | refine aH_ (aL_ rfl rfl rfl) rfl rfl (ar_ rfl (bY_ rfl rfl (w64 (by omega) (by omega)))) rfl rfl rfl ?_) | ((with_reducible refine cl_ ?_); first | refine aH_ (aL_ rfl rfl rfl) rfl rfl (ar_ rfl (ab_ (o := 0) rfl Tryz.underlying79 rfl zs3 rfl)) rfl rfl rfl ?_ | refine aH_ (aL_ rfl rfl rfl) rfl rfl (ar_ rfl (ab_ (o := 1) rfl Tryz.underlying79 rfl zs3 rfl)) rfl rfl rfl ?_) | (refine bO_ rfl rfl rfl (fun hb => ?_) (fun hb => aw_ hb); (try simp only [aX_, reduceCtorEq] at hb))) | with_reducible refine bj_ ?_ ?_)) | with_reducible exact aP_ | with_reducible refine aJ_ ?_ ?_ | ((with_reducible refine bi_ ?_); first | exact aS_ | refine am_ rfl rfl (ar_ rfl (az_ rfl Tryz.underlying3 rfl (jf _ au_))) ?_ | refine am_ rfl rfl (ar_ rfl (az_ rfl Tryz.underlying3 rfl (ju _ au_))) ?_) | refine ap_ ?_ | (refine aG_ rfl (fun hb => ?_) (fun hb => aw_ hb); (try simp only [aX_, reduceCtorEq] at hb)) | refine aF_ (id := 8) 16 [0, 1, 3, 7, 7, 31, 63, 127, 7, 7, 519, 1799, 3847, 7943, 16383, 32767] [0, 1, 2, 3, 4, 5, 6, 7, 8, 9, 10, 11, 12, 13, 14, 15] (by kernel_rfl) (by kernel_rfl) rfl rfl ?_)
           all_goals exact rq1 rfl ⟨rfl, au_⟩
       · rw [if_neg (by omega)] at hF
         rw [hF] at nxt
         clear hF hit
         repeat' (first | with_reducible refine ad_ ?_ | ((with_reducible refine ac_ ?_); first | ((with_reducible refine an_ ?_); refine aq_ (ag_ rfl rfl i1) ?_) | ((with_reducible refine al_ ?_); refine aq_ (aN_ rfl Tryz.underlying79 rfl zs79 (i3 _ au_).all) ?_) | ((with_reducible refine av_ ?_); refine aq_ (ax_ rfl Tryz.underlying52) ?_) | ((with_reducible refine at_ ?_); (refine as_ rfl rfl rfl rfl (qf _ aA_) rfl rfl ?_; rintro _ _ ⟨rfl, hq⟩; all_goals (try (have hqn := hq.nx); try simp only [aU_] at hqn))) | refine ao_ ?_) | ((with_reducible refine bb_ ?_); ((with_reducible refine bd_ ?_); first | ((with_reducible refine ba_ ?_); refine aH_ (aa_ rfl) rfl rfl (ar_ rfl (aD_ rfl)) rfl rfl rfl ?_) | ((with_reducible refine bD_ ?_); refine aH_ (aa_ rfl) rfl rfl (ar_ rfl (bM_ rfl rfl)) rfl rfl rfl ?_) | ((with_reducible refine cj_ ?_); refine aH_ (aa_ rfl) rfl rfl (ar_ rfl (ct_ rfl rfl)) rfl rfl rfl ?_) | ((with_reducible refine xk_g ?_); first | refine wx_s (wt_skip rfl rfl rfl rfl) rfl rfl ?_ | (refine bO_ rfl rfl rfl (fun hb => aw_ hb) (fun hb => ?_); (try simp only [aX_, reduceCtorEq] at hb))) | with_reducible refine bj_ ?_ ?_)) | with_reducible exact aP_ | refine ap_ ?_ | (refine aG_ rfl (fun hb => ?_) (fun hb => aw_ hb); (try simp only [aX_, reduceCtorEq] at hb)) | refine aF_ (id := 8) 16 [0, 1, 3, 7, 7, 31, 63, 127, 7, 7, 519, 1799, 3847, 7943, 16383, 32767] [0, 1, 2, 3, 4, 5, 6, 7, 8, 9, 10, 11, 12, 13, 14, 15] (by kernel_rfl) (by kernel_rfl) rfl rfl ?_)
         all_goals exact aI_ (k + 1) (by omega) (af_ ⟨rfl, rfl, trivial⟩) ⟨⟨aA_, au_⟩, by omega, nxt⟩
     · rw [if_pos he] at hF
       have h14 : E = 14 := by omega
       subst h14
       rw [hit (by rw [hF]; exact he), hF]
       rw [decide_eq_true (by decide)] at qf
       clear hF hit nxt
       repeat' (first | with_reducible refine ad_ ?_ | ((with_reducible refine ac_ ?_); first | ((with_reducible refine an_ ?_); refine aq_ (ag_ rfl rfl i1) ?_) | ((with_reducible refine al_ ?_); refine aq_ (aN_ rfl Tryz.underlying79 rfl zs79 (i3 _ au_).all) ?_) | ((with_reducible refine av_ ?_); refine aq_ (ax_ rfl Tryz.underlying52) ?_) | ((with_reducible refine at_ ?_); (refine as_ rfl rfl rfl rfl (qf _ aA_) rfl rfl ?_; rintro _ _ ⟨rfl, hq⟩; all_goals (try (have hqn := hq.nx); try simp only [aU_] at hqn))) | refine ao_ ?_) | refine ap_ ?_ | (refine aG_ rfl (fun hb => ?_) (fun hb => aw_ hb); (try simp only [aX_, reduceCtorEq] at hb)))
       all_goals exact rq1 rfl ⟨rfl, au_⟩
   · have hkn : k = n := by omega
     subst hkn
     rw [hz]
     repeat' (first | with_reducible refine ad_ ?_ | ((with_reducible refine ac_ ?_); first | ((with_reducible refine av_ ?_); refine aq_ (ax_ rfl Tryz.underlying52) ?_) | refine ao_ ?_) | refine ap_ ?_ | (refine aG_ rfl (fun hb => aw_ hb) (fun hb => ?_); (try simp only [aX_, reduceCtorEq] at hb)))
     exact rq1 rfl ⟨rfl, au_⟩
theorem c65 {a : Option Addr} {n c : Nat} (hw : Wf h) : Cf (mz G) (.func (.func 65) #[] #[]) [.slice a n c] h fun r h' => r = .bool (decide (n ≤ 8 ∨ n = 257)) ∧ Grow h h' := by
 refine ak_ 11 [.tmp 2] Tryz.func65 rfl rfl rfl rfl ?_
 repeat' (first | with_reducible refine ad_ ?_ | ((with_reducible refine ac_ ?_); first | ((with_reducible refine av_ ?_); refine aq_ (ax_ rfl Tryz.underlying52) ?_) | ((with_reducible refine cC_ ?_); first | refine bn_ rfl rfl rfl rfl rfl rfl ?_ | ((with_reducible refine bH_ ?_); refine ai_ rfl rfl rfl (aD_ rfl) rfl rfl ?_) | ((with_reducible refine ig_callb ?_); refine ai_ rfl rfl rfl (ax_ rfl Tryz.underlying52) rfl rfl ?_) | ((with_reducible refine bB_ ?_); refine ai_ rfl rfl rfl (op_eql rfl rfl) rfl rfl ?_) | (refine aY_ rfl rfl rfl (fun hb => ?_) (fun hb => ?_) <;> (try simp only [aX_, reduceCtorEq] at hb) <;> (try (exfalso; omega)))) | refine ao_ ?_) | refine ap_ ?_)
 all_goals refine rq1 rfl ⟨?_, au_⟩
 all_goals first
   | (congr 1; exact (decide_eq_true (by omega)).symm)
   | (congr 1; exact (decide_eq_false (by omega)).symm)
   | (congr 1; rw [decide_eq_decide]; omega)
end Go.Proofs.YtlioomhcdlicmaaGreatDoor
