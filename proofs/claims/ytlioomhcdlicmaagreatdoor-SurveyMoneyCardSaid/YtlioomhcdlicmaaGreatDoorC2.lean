/- Survey: sightings, by the program and by the reference. -/
import Derived.Test.YtlioomhcdlicmaaGreatDoorC1
set_option linter.all false
/- Sightings: their errors by the program and by the reference. -/
namespace Go.Proofs.YtlioomhcdlicmaaGreatDoor
open Go Go.Ab Go.Fl
attribute [local irreducible] SeqQ BlkQ LpQ RetQ Wc Wo WD WX Op1 Op1q Op1a Cf Cl From
attribute [local irreducible] Ieee.Format.order Ieee.Format.read Ieee.Format.nearest Ieee.Format.write Ieee.Format.mul Ieee.Format.div Ieee.Format.sqrt Ieee.Datum.order Ieee.Datum.integral K U rngE errN ptE firstNZ vesE watE
set_option maxRecDepth 10000
variable {G : Base} {h : H}
def sucA {α : Type} (d : α) (e : α → Int) (ok : α → α → Bool) (l : List α) (i : Nat) : Int := if e (l.getD i d) ≠ 0 then e (l.getD i d) else if 0 < i ∧ ok (l.getD i d) (l.getD (i - 1) d) = false then 11 else 0
structure Sg where
 t : Int
 x : Int
 y : Int
@[reducible] def Sg.cells (p : Sg) : List Value := [.int .i64 p.t, .int .i64 p.x, .int .i64 p.y]
theorem Sg.len (p : Sg) : p.cells.length = 3 := rfl
theorem Sg.flat {l : List Sg} : (l.flatMap Sg.cells).length = l.length * 3 := flat_len Sg.len l
def sgE (p : Sg) : Int := firstNZ [rngE p.t 0 100000, ptE p.x p.y 100000]
def sgsE (l : List Sg) : Int := if 64 < l.length then 5 else errN (sucA ⟨0, 0, 0⟩ sgE (fun a b => decide (b.t ≤ a.t)) l) l.length
theorem c99 {p q : Sg} (hw : Wf h) : Cf (mz G) (.func (.func 99) #[] #[]) [.agg ⟨p.cells⟩, .agg ⟨q.cells⟩] h fun r h' => r = .bool (decide (q.t ≤ p.t)) ∧ Grow h h' := by
 obtain ⟨t, x, y⟩ := p
 obtain ⟨u, z, w⟩ := q
 dsimp only [Sg.cells]
 refine ak_ 10 [.tmp 4] Tryz.func99 rfl rfl rfl rfl ?_
 repeat' (first | with_reducible refine ad_ ?_ | ((with_reducible refine ac_ ?_); first | ((with_reducible refine al_ ?_); refine aq_ (ae_ rfl ah_ Tryz.underlying3 rfl rfl) ?_) | refine ao_ ?_) | refine ap_ ?_)
 exact rq1 rfl ⟨rfl, au_⟩
theorem c100 {x : Sg} (hw : Wf h) : Cf (mz G) (.func (.func 100) #[] #[]) [.agg ⟨x.cells⟩] h fun r h' => r = .int .i64 (sgE x) ∧ Grow h h' := by
 obtain ⟨t, x, y⟩ := x
 dsimp only [Sg.cells]
 have qf := fun (h' : H) (vv : Value) (s : Sl G h' 1 vv 2 ([rngE t 0 100000, ptE x y 100000].map (.int .i64))) => c93 s (by omega)
 rw [show firstNZ [rngE t 0 100000, ptE x y 100000] = sgE ⟨t, x, y⟩ from rfl] at qf
 refine ak_ 11 [.tmp 2] Tryz.func100 rfl rfl rfl rfl ?_
 repeat' (first | with_reducible refine ad_ ?_ | ((with_reducible refine ac_ ?_); refine ao_ ?_) | ((with_reducible refine bb_ ?_); first | ((with_reducible refine bd_ ?_); first | ((with_reducible refine aC_ ?_); first | refine aH_ (aa_ rfl) rfl rfl (ar_ rfl (ab_ (o := 0) rfl Tryz.underlying161 rfl zs3 rfl)) rfl rfl rfl ?_ | refine aH_ (aa_ rfl) rfl rfl (ar_ rfl (ab_ (o := 1) rfl Tryz.underlying161 rfl zs35 rfl)) rfl rfl rfl ?_) | ((with_reducible refine aZ_ ?_); first | refine aO_ (aa_ rfl) rfl (ar_ rfl (ae_ rfl ah_ Tryz.underlying3 rfl rfl)) rfl rfl rfl ?_ | refine aO_ (aa_ rfl) rfl (ar_ rfl (aj_ rfl ah_ Tryz.underlying35 rfl zs35 rfl rfl)) rfl rfl rfl ?_) | ((with_reducible refine bg_ ?_); refine wx_a0 (aa_ rfl) rfl (bh_ rfl Tryz.underlying238 zs26 zz26 rfl rfl) rfl rfl ?_) | ((with_reducible refine bw_ (f := 96) ?_); refine wx_ee (aa_ rfl) rfl rfl (aK_ rfl rfl (c96 _ _ _)) rfl rfl ?_) | ((with_reducible refine bw_ (f := 94) ?_); (refine aM_ (aa_ rfl) rfl rfl rfl rfl (c94 aA_) rfl rfl ?_; rintro _ _ ⟨rfl, hq⟩; all_goals (try (have hqn := hq.nx); try simp only [aU_] at hqn)))) | ((with_reducible refine bm_ ?_); refine aH_ (aa_ rfl) rfl rfl (ar_ rfl (aW_ rfl)) rfl rfl rfl ?_) | ((with_reducible refine aV_ ?_); ((with_reducible refine cq_ ?_); refine wx_e1 (aa_ rfl) rfl rfl rfl (aK_ rfl rfl (qf _ _ (Sl.ofAt (show At _ _ (.cells [.int .i64 (rngE t 0 100000), .int .i64 (ptE x y 100000)] 26 1 false) from ah_) rfl (Nat.le_refl _)))) rfl rfl ?_)) | refine bU_ ?_ ?_ rfl rfl ?_) | with_reducible exact aP_ | with_reducible refine aJ_ ?_ ?_ | ((with_reducible refine bi_ ?_); first | exact aS_ | refine aQ_ rfl ?_ | refine am_ rfl rfl (ar_ rfl (ae_ rfl ah_ Tryz.underlying3 rfl (by rfl))) ?_ | refine am_ rfl rfl (ar_ rfl (aj_ rfl ah_ Tryz.underlying35 rfl zs35 (by rfl) rfl)) ?_) | with_reducible exact bV_ | with_reducible refine bE_ ?_ ?_ | ((with_reducible refine ck_ ?_); first | exact bW_ rfl rfl | exact bu_ rfl rfl aA_ gr_B) | refine ap_ ?_ | refine aF_ (id := 1) 9 [0, 1, 3, 0, 8, 31, 63, 127, 255] [0, 1, 2, 3, 4, 5, 6, 7, 8] (by kernel_rfl) (by kernel_rfl) rfl rfl ?_)
 exact rq1 rfl ⟨rfl, au_⟩
set_option maxHeartbeats 4000000 in
theorem c98 {v : Value}  {n : Nat} {l : List Sg} (e : Sg → Int) (ok : Sg → Sg → Bool) (s : Sl G h 3 v n (l.flatMap Sg.cells)) (hl : l.length = n) (hn : n < 1000000) (hw : Wf h) (hq1 : ∀ h' x, Wf h' → Cf (mz G) (.func (.func 100) #[] #[]) [.agg ⟨Sg.cells x⟩] h' fun r h2 => r = .int .i64 (e x) ∧ Grow h' h2) (hq2 : ∀ h' x y, Wf h' → Cf (mz G) (.func (.func 99) #[] #[]) [.agg ⟨Sg.cells x⟩, .agg ⟨Sg.cells y⟩] h' fun r h2 => r = .bool (ok x y) ∧ Grow h' h2) :
   Cf (mz G) (.func (.func 98) #[] #[]) [v, .func (.func 99) #[] #[], .func (.func 100) #[] #[]] h fun r h' => r = .int .i64 (errN (sucA ⟨0, 0, 0⟩ e ok l) n) ∧ Grow h h' := by
 obtain ⟨a, c, rfl⟩ := s.form
 refine ak_ 37 [.tmp 6] Tryz.func98 rfl rfl rfl rfl ?_
 repeat' (first | with_reducible refine ad_ ?_ | ((with_reducible refine ac_ ?_); first | ((with_reducible refine av_ ?_); refine aq_ (ax_ rfl Tryz.underlying47) ?_) | refine ao_ ?_) | refine ap_ ?_)
 refine bo_ (fun k => n - k) (fun k : Nat => [(0, .slice a n c), (1, .func (.func 99) #[] #[]), (2, .func (.func 100) #[] #[]), (10, .slice a n c), (11, .int .i64 n), (12, .int .i64 k)]) (fun k h' => (Wf h' ∧ Grow h h') ∧ k ≤ n ∧ errN (sucA ⟨0, 0, 0⟩ e ok l) k = 0) 0 (af_ ⟨rfl, rfl, rfl, rfl, rfl, rfl, trivial⟩) ⟨⟨aA_, au_⟩, Nat.zero_le _, cM_ _⟩ ?_
 rintro k h1 ⟨⟨w1, g1⟩, hk, hz⟩
 have n1 := g1.nx
 by_cases hlt : k < n
 · obtain ⟨id, i1, i3⟩ := cw_ Sg.len ⟨0, 0, 0⟩ (s.grow g1) hl Tryz.underlying47 cz_ (i := (k : Int)) hlt rfl
   have nxt := cB_ hz
   have hit := fun (q : (sucA ⟨0, 0, 0⟩ e ok l) k ≠ 0) => (errN_hit (f := (sucA ⟨0, 0, 0⟩ e ok l)) (k := k + 1) (n := n) (by omega) (by rw [nxt]; exact q)).trans nxt
   obtain ⟨x0, hx⟩ : ∃ x, l.getD k ⟨0, 0, 0⟩ = x := ⟨_, rfl⟩
   have hF : (sucA ⟨0, 0, 0⟩ e ok l) k = if e x0 ≠ 0 then e x0 else if 0 < k ∧ ok x0 (l.getD (k - 1) ⟨0, 0, 0⟩) = false then 11 else 0 := by unfold sucA; rw [hx]
   rw [hx] at i3
   have q1 := fun (h' : H) (w' : Wf h') => hq1 h' x0 w'
   obtain ⟨E, hE⟩ : ∃ E, e x0 = E := ⟨_, rfl⟩
   rw [hE] at q1 hF
   by_cases he : E = 0
   · rw [he] at q1
     rw [if_neg (by omega)] at hF
     by_cases hk0 : 0 < k
     · obtain ⟨jd, j1, j3⟩ := cw_ Sg.len ⟨0, 0, 0⟩ (s.grow g1) hl Tryz.underlying47 cz_ (i := (k : Int) - 1) (q := k - 1) (by omega) (by omega)
       obtain ⟨y0, hy⟩ : ∃ y, l.getD (k - 1) ⟨0, 0, 0⟩ = y := ⟨_, rfl⟩
       rw [hy] at j3 hF
       have q2 := fun (h' : H) (w' : Wf h') => hq2 h' x0 y0 w'
       obtain ⟨B, hB⟩ : ∃ B, ok x0 y0 = B := ⟨_, rfl⟩
       rw [hB] at q2 hF
       clear hx hy hE
       obtain ⟨t, x, y⟩ := x0
       dsimp only [Sg.cells] at i3 j3 q1 q2
       cases B with
       | false =>
         rw [if_pos ⟨hk0, rfl⟩] at hF
         rw [hit (by rw [hF]; decide), hF]
         clear hF hit nxt
         repeat' (first | with_reducible refine ad_ ?_ | ((with_reducible refine ac_ ?_); first | ((with_reducible refine an_ ?_); refine aq_ (ag_ rfl rfl i1) ?_) | ((with_reducible refine al_ ?_); first | refine aq_ (aN_ rfl Tryz.underlying161 rfl cz_ (i3 _ au_).all) ?_ | refine aq_ (aj_ rfl ah_ Tryz.underlying161 rfl cz_ rfl rfl) ?_) | ((with_reducible refine ay_ ?_); refine bQ_ (aB_ rfl rfl ah_ cz_ rfl rfl rfl rfl) ?_) | ((with_reducible refine at_ ?_); (refine as_ rfl rfl rfl rfl (q1 _ aA_) rfl rfl ?_; rintro _ _ ⟨rfl, hq⟩; all_goals (try (have hqn := hq.nx); try simp only [aU_] at hqn))) | refine ao_ ?_) | ((with_reducible refine bb_ ?_); ((with_reducible refine bd_ ?_); first | ((with_reducible refine ba_ ?_); refine aH_ (aa_ rfl) rfl rfl (ar_ rfl (aD_ rfl)) rfl rfl rfl ?_) | ((with_reducible refine bD_ ?_); refine aH_ (aa_ rfl) rfl rfl (ar_ rfl (bM_ rfl rfl)) rfl rfl rfl ?_) | ((with_reducible refine cj_ ?_); refine aH_ (aa_ rfl) rfl rfl (ar_ rfl (cb_ rfl rfl)) rfl rfl rfl ?_) | ((with_reducible refine xk_g ?_); first | ((with_reducible refine cJ_ ?_); refine aH_ (aL_ rfl rfl rfl) rfl rfl (ar_ rfl (aD_ rfl)) rfl rfl rfl ?_) | ((with_reducible refine bJ_ ?_); refine aH_ (aL_ rfl rfl rfl) rfl rfl (ar_ rfl (ag_ rfl rfl j1)) rfl rfl rfl ?_) | ((with_reducible refine cK_ ?_); first | refine aO_ (aL_ rfl rfl rfl) rfl (ar_ rfl (aN_ rfl Tryz.underlying161 rfl cz_ (j3 _ au_).all)) rfl rfl rfl ?_ | refine aO_ (aL_ rfl rfl rfl) rfl (ar_ rfl (aj_ rfl ah_ Tryz.underlying161 rfl cz_ rfl rfl)) rfl rfl rfl ?_) | ((with_reducible refine xg_bin ?_); refine aH_ (aL_ rfl rfl rfl) rfl rfl (ar_ rfl (bY_ rfl rfl (w64 (by omega) (by omega)))) rfl rfl rfl ?_) | ((with_reducible refine xg_un ?_); refine aH_ (aL_ rfl rfl rfl) rfl rfl (ar_ rfl (cG_ rfl)) rfl rfl rfl ?_) | ((with_reducible refine xg_callv ?_); (refine aM_ (aL_ rfl rfl rfl) rfl rfl rfl rfl (q2 _ aA_) rfl rfl ?_; rintro _ _ ⟨rfl, hq⟩; all_goals (try (have hqn := hq.nx); try simp only [aU_] at hqn))) | (refine bO_ rfl rfl rfl (fun hb => ?_) (fun hb => aw_ hb); (try simp only [aX_, reduceCtorEq] at hb))) | with_reducible refine bj_ ?_ ?_)) | with_reducible exact aP_ | with_reducible refine aJ_ ?_ ?_ | ((with_reducible refine bi_ ?_); first | exact aS_ | refine aQ_ rfl ?_ | refine am_ rfl rfl (ar_ rfl (aN_ rfl Tryz.underlying161 rfl cz_ (j3 _ au_).all)) ?_ | refine am_ rfl rfl (ar_ rfl (aj_ rfl ah_ Tryz.underlying161 rfl cz_ (by rfl) rfl)) ?_) | refine ap_ ?_ | (refine aG_ rfl (fun hb => ?_) (fun hb => aw_ hb); (try simp only [aX_, reduceCtorEq] at hb)) | refine aF_ (id := 7) 13 [0, 1, 3, 7, 7, 7, 7, 71, 231, 487, 1023, 2047, 4095] [0, 1, 2, 3, 4, 5, 6, 7, 8, 9, 10, 11, 12] (by kernel_rfl) (by kernel_rfl) rfl rfl ?_)
         all_goals exact rq1 rfl ⟨rfl, au_⟩
       | true =>
         rw [if_neg (by simp)] at hF
         rw [hF] at nxt
         clear hF hit
         repeat' (first | with_reducible refine ad_ ?_ | ((with_reducible refine ac_ ?_); first | ((with_reducible refine an_ ?_); refine aq_ (ag_ rfl rfl i1) ?_) | ((with_reducible refine al_ ?_); first | refine aq_ (aN_ rfl Tryz.underlying161 rfl cz_ (i3 _ au_).all) ?_ | refine aq_ (aj_ rfl ah_ Tryz.underlying161 rfl cz_ rfl rfl) ?_) | ((with_reducible refine ay_ ?_); refine bQ_ (aB_ rfl rfl ah_ cz_ rfl rfl rfl rfl) ?_) | ((with_reducible refine at_ ?_); (refine as_ rfl rfl rfl rfl (q1 _ aA_) rfl rfl ?_; rintro _ _ ⟨rfl, hq⟩; all_goals (try (have hqn := hq.nx); try simp only [aU_] at hqn))) | refine ao_ ?_) | ((with_reducible refine bb_ ?_); ((with_reducible refine bd_ ?_); first | ((with_reducible refine ba_ ?_); refine aH_ (aa_ rfl) rfl rfl (ar_ rfl (aD_ rfl)) rfl rfl rfl ?_) | ((with_reducible refine bD_ ?_); refine aH_ (aa_ rfl) rfl rfl (ar_ rfl (bM_ rfl rfl)) rfl rfl rfl ?_) | ((with_reducible refine cj_ ?_); refine aH_ (aa_ rfl) rfl rfl (ar_ rfl (cb_ rfl rfl)) rfl rfl rfl ?_) | ((with_reducible refine xk_g ?_); first | ((with_reducible refine cJ_ ?_); refine aH_ (aL_ rfl rfl rfl) rfl rfl (ar_ rfl (aD_ rfl)) rfl rfl rfl ?_) | ((with_reducible refine bJ_ ?_); refine aH_ (aL_ rfl rfl rfl) rfl rfl (ar_ rfl (ag_ rfl rfl j1)) rfl rfl rfl ?_) | ((with_reducible refine cK_ ?_); first | refine aO_ (aL_ rfl rfl rfl) rfl (ar_ rfl (aN_ rfl Tryz.underlying161 rfl cz_ (j3 _ au_).all)) rfl rfl rfl ?_ | refine aO_ (aL_ rfl rfl rfl) rfl (ar_ rfl (aj_ rfl ah_ Tryz.underlying161 rfl cz_ rfl rfl)) rfl rfl rfl ?_) | ((with_reducible refine xg_bin ?_); refine aH_ (aL_ rfl rfl rfl) rfl rfl (ar_ rfl (bY_ rfl rfl (w64 (by omega) (by omega)))) rfl rfl rfl ?_) | ((with_reducible refine xg_un ?_); refine aH_ (aL_ rfl rfl rfl) rfl rfl (ar_ rfl (cG_ rfl)) rfl rfl rfl ?_) | ((with_reducible refine xg_callv ?_); (refine aM_ (aL_ rfl rfl rfl) rfl rfl rfl rfl (q2 _ aA_) rfl rfl ?_; rintro _ _ ⟨rfl, hq⟩; all_goals (try (have hqn := hq.nx); try simp only [aU_] at hqn))) | (refine bO_ rfl rfl rfl (fun hb => ?_) (fun hb => aw_ hb); (try simp only [aX_, reduceCtorEq] at hb))) | with_reducible refine bj_ ?_ ?_)) | with_reducible exact aP_ | with_reducible refine aJ_ ?_ ?_ | ((with_reducible refine bi_ ?_); first | exact aS_ | refine aQ_ rfl ?_ | refine am_ rfl rfl (ar_ rfl (aN_ rfl Tryz.underlying161 rfl cz_ (j3 _ au_).all)) ?_ | refine am_ rfl rfl (ar_ rfl (aj_ rfl ah_ Tryz.underlying161 rfl cz_ (by rfl) rfl)) ?_) | refine ap_ ?_ | (refine aG_ rfl (fun hb => ?_) (fun hb => aw_ hb); (try simp only [aX_, reduceCtorEq] at hb)) | refine aF_ (id := 7) 13 [0, 1, 3, 7, 7, 7, 7, 71, 231, 487, 1023, 2047, 4095] [0, 1, 2, 3, 4, 5, 6, 7, 8, 9, 10, 11, 12] (by kernel_rfl) (by kernel_rfl) rfl rfl ?_)
         all_goals exact aI_ (k + 1) (by omega) (af_ ⟨rfl, rfl, rfl, rfl, rfl, rfl, trivial⟩) ⟨⟨aA_, au_⟩, by omega, nxt⟩
     · rw [if_neg (by omega)] at hF
       rw [hF] at nxt
       clear hx hE hF hit
       obtain ⟨t, x, y⟩ := x0
       dsimp only [Sg.cells] at i3 q1
       repeat' (first | with_reducible refine ad_ ?_ | ((with_reducible refine ac_ ?_); first | ((with_reducible refine an_ ?_); refine aq_ (ag_ rfl rfl i1) ?_) | ((with_reducible refine al_ ?_); first | refine aq_ (aN_ rfl Tryz.underlying161 rfl cz_ (i3 _ au_).all) ?_ | refine aq_ (aj_ rfl ah_ Tryz.underlying161 rfl cz_ rfl rfl) ?_) | ((with_reducible refine ay_ ?_); refine bQ_ (aB_ rfl rfl ah_ cz_ rfl rfl rfl rfl) ?_) | ((with_reducible refine at_ ?_); (refine as_ rfl rfl rfl rfl (q1 _ aA_) rfl rfl ?_; rintro _ _ ⟨rfl, hq⟩; all_goals (try (have hqn := hq.nx); try simp only [aU_] at hqn))) | refine ao_ ?_) | ((with_reducible refine bb_ ?_); ((with_reducible refine bd_ ?_); first | ((with_reducible refine ba_ ?_); refine aH_ (aa_ rfl) rfl rfl (ar_ rfl (aD_ rfl)) rfl rfl rfl ?_) | ((with_reducible refine bD_ ?_); refine aH_ (aa_ rfl) rfl rfl (ar_ rfl (bM_ rfl rfl)) rfl rfl rfl ?_) | ((with_reducible refine cj_ ?_); refine aH_ (aa_ rfl) rfl rfl (ar_ rfl (ct_ rfl rfl)) rfl rfl rfl ?_) | ((with_reducible refine xk_g ?_); first | refine wx_s (wt_skip rfl rfl rfl rfl) rfl rfl ?_ | (refine bO_ rfl rfl rfl (fun hb => aw_ hb) (fun hb => ?_); (try simp only [aX_, reduceCtorEq] at hb))) | with_reducible refine bj_ ?_ ?_)) | with_reducible exact aP_ | refine ap_ ?_ | (refine aG_ rfl (fun hb => ?_) (fun hb => aw_ hb); (try simp only [aX_, reduceCtorEq] at hb)) | refine aF_ (id := 7) 13 [0, 1, 3, 7, 7, 7, 7, 71, 231, 487, 1023, 2047, 4095] [0, 1, 2, 3, 4, 5, 6, 7, 8, 9, 10, 11, 12] (by kernel_rfl) (by kernel_rfl) rfl rfl ?_)
       all_goals exact aI_ (k + 1) (by omega) (af_ ⟨rfl, rfl, rfl, rfl, rfl, rfl, trivial⟩) ⟨⟨aA_, au_⟩, by omega, nxt⟩
   · rw [if_pos he] at hF
     rw [hit (by rw [hF]; exact he), hF]
     clear hF hit nxt hx hE
     obtain ⟨t, x, y⟩ := x0
     dsimp only [Sg.cells] at i3 q1
     repeat' (first | with_reducible refine ad_ ?_ | ((with_reducible refine ac_ ?_); first | ((with_reducible refine an_ ?_); refine aq_ (ag_ rfl rfl i1) ?_) | ((with_reducible refine al_ ?_); first | refine aq_ (aN_ rfl Tryz.underlying161 rfl cz_ (i3 _ au_).all) ?_ | refine aq_ (aj_ rfl ah_ Tryz.underlying161 rfl cz_ rfl rfl) ?_) | ((with_reducible refine ay_ ?_); refine bQ_ (aB_ rfl rfl ah_ cz_ rfl rfl rfl rfl) ?_) | ((with_reducible refine at_ ?_); (refine as_ rfl rfl rfl rfl (q1 _ aA_) rfl rfl ?_; rintro _ _ ⟨rfl, hq⟩; all_goals (try (have hqn := hq.nx); try simp only [aU_] at hqn))) | refine ao_ ?_) | refine ap_ ?_ | (refine aG_ rfl (fun hb => ?_) (fun hb => aw_ hb); (try simp only [aX_, reduceCtorEq] at hb)))
     all_goals exact rq1 rfl ⟨rfl, au_⟩
 · have : k = n := by omega
   subst this
   rw [hz]
   repeat' (first | with_reducible refine ad_ ?_ | ((with_reducible refine ac_ ?_); refine ao_ ?_) | refine ap_ ?_ | (refine aG_ rfl (fun hb => ?_) (fun hb => ?_) <;> (try simp only [aX_, reduceCtorEq] at hb) <;> (try (exfalso; omega))))
   exact rq1 rfl ⟨rfl, au_⟩
set_option maxHeartbeats 1000000 in
theorem c29 {v : Value} {n : Nat} {l : List Sg} (s : Sl G h 3 v n (l.flatMap Sg.cells)) (hl : l.length = n) (hn : n < 1000000) (hw : Wf h) : Cf (mz G) (.func (.func 29) #[] #[]) [v] h fun r h' => r = .int .i64 (sgsE l) ∧ Grow h h' := by
 have qs := fun (h' : H) (g : Grow h h') (w' : Wf h') => c98 sgE (fun a b => decide (b.t ≤ a.t)) (s.grow g) hl hn w' (fun h' x w => c100 w) (fun h' x y w => c99 w)
 obtain ⟨a, c, rfl⟩ := s.form
 unfold sgsE
 rw [hl]
 by_cases h64 : 64 < n
 · rw [if_pos h64]
   refine ak_ 8 [.tmp 2] Tryz.func29 rfl rfl rfl rfl ?_
   repeat' (first | with_reducible refine ad_ ?_ | ((with_reducible refine ac_ ?_); first | ((with_reducible refine av_ ?_); refine aq_ (ax_ rfl Tryz.underlying47) ?_) | refine ao_ ?_) | refine ap_ ?_ | (refine aG_ rfl (fun hb => ?_) (fun hb => aw_ hb); (try simp only [aX_, reduceCtorEq] at hb)))
   exact rq1 rfl ⟨rfl, au_⟩
 · rw [if_neg h64]
   refine ak_ 8 [.tmp 2] Tryz.func29 rfl rfl rfl rfl ?_
   repeat' (first | with_reducible refine ad_ ?_ | ((with_reducible refine ac_ ?_); first | ((with_reducible refine av_ ?_); refine aq_ (ax_ rfl Tryz.underlying47) ?_) | ((with_reducible refine at_ ?_); (refine as_ rfl rfl rfl rfl (qs _ au_ aA_) rfl rfl ?_; rintro _ _ ⟨rfl, hq⟩; all_goals (try (have hqn := hq.nx); try simp only [aU_] at hqn))) | refine ao_ ?_) | refine ap_ ?_ | (refine aG_ rfl (fun hb => aw_ hb) (fun hb => ?_); (try simp only [aX_, reduceCtorEq] at hb)))
   exact rq1 rfl ⟨rfl, au_⟩
end Go.Proofs.YtlioomhcdlicmaaGreatDoor
/- Sightings by the reference; a vessel, a watch and sightings. -/
namespace Go.Proofs.YtlioomhcdlicmaaGreatDoor
open Go Go.Ab Go.Fl
attribute [local irreducible] SeqQ BlkQ LpQ RetQ Wc Wo WD WX Op1 Op1q Op1a Cf Cl From
attribute [local irreducible] Ieee.Format.order Ieee.Format.read Ieee.Format.nearest Ieee.Format.write Ieee.Format.mul Ieee.Format.div Ieee.Format.sqrt Ieee.Datum.order Ieee.Datum.integral K U rngE errN ptE firstNZ vesE watE sgE sgsE
set_option maxRecDepth 10000
variable {G : Base} {h : H}
set_option maxHeartbeats 4000000 in
theorem c18 {v : Value} {n : Nat} {l : List Sg} (s : Sl G h 3 v n (l.flatMap Sg.cells)) (hl : l.length = n) (hn : n < 1000000) (hw : Wf h) : Cf (mz G) (.func (.func 18) #[] #[]) [v] h fun r h' => Sl G h' 3 r n (l.flatMap Sg.cells) ∧ Grow h h' := by
 obtain ⟨a, c, rfl⟩ := s.form
 refine ak_ 18 [.tmp 2] Tryz.func18 rfl rfl rfl rfl ?_
 repeat' (first | with_reducible refine ad_ ?_ | ((with_reducible refine ac_ ?_); first | ((with_reducible refine av_ ?_); refine aq_ (ax_ rfl Tryz.underlying40) ?_) | refine ao_ ?_) | refine ap_ ?_)
 refine bo_ (fun p : Nat × Value => n - p.1) (fun p => [(3, p.2), (6, .slice a n c), (7, .int .i64 n), (8, .int .i64 (p.1 : Nat))]) (fun p h' => (Wf h' ∧ Grow h h') ∧ p.1 ≤ n ∧ ((p.2 = .slice none 0 0 ∧ p.1 = 0) ∨ ∃ e, h.nx ≤ e ∧ p.2 = .slice (some ⟨e, 0, some 0⟩) p.1 p.1 ∧ At h' e (.cells ((l.take p.1).flatMap Sg.cells) 161 3 true))) (0, .slice none 0 0) (af_ ⟨rfl, rfl, rfl, rfl, trivial⟩) ⟨⟨aA_, au_⟩, Nat.zero_le _, .inl ⟨rfl, rfl⟩⟩ ?_
 rintro ⟨k, v⟩ h1 ⟨⟨w1, g1⟩, hk, hv⟩
 simp only at hk hv ⊢
 have n1 := g1.nx
 by_cases hlt : k < n
 · obtain ⟨id, i1, i3⟩ := cw_ Sg.len ⟨0, 0, 0⟩ (s.grow g1) hl Tryz.underlying40 zs145 (i := (k : Int)) hlt rfl
   obtain ⟨p, hp⟩ : ∃ p, l.getD k ⟨0, 0, 0⟩ = p := ⟨_, rfl⟩
   have e1 : (l.take (k + 1)).flatMap Sg.cells = (l.take k).flatMap Sg.cells ++ p.cells := by
     rw [cf_ ⟨0, 0, 0⟩ (by omega), hp, List.flatMap_append]; simp
   rw [hp] at i3
   obtain ⟨t, x, y⟩ := p
   dsimp only [Sg.cells] at i3
   rcases hv with ⟨rfl, rfl⟩ | ⟨e, hb, rfl, hat⟩
   · repeat' (first | with_reducible refine ad_ ?_ | ((with_reducible refine ac_ ?_); first | ((with_reducible refine an_ ?_); refine aq_ (ag_ rfl rfl i1) ?_) | ((with_reducible refine al_ ?_); first | refine aq_ (aN_ rfl Tryz.underlying145 rfl zs145 (i3 _ au_).all) ?_ | refine aq_ (aj_ rfl ah_ Tryz.underlying145 rfl zs145 rfl rfl) ?_) | ((with_reducible refine av_ ?_); refine aq_ (bl_ rfl rfl (bz_ (M := mz G) (st := 47) (xt := 47) (m := 1) Tryz.underlying47 Tryz.underlying47 rfl cz_ zb161 zz161 rfl (Sl.ofAt ah_ rfl (Nat.le_refl _)) rfl (by omega) (by omega))) ?_) | ((with_reducible refine ay_ ?_); refine bQ_ (aB_ rfl rfl ah_ zs145 rfl rfl rfl rfl) ?_) | ((with_reducible refine aE_ ?_); refine aq_ (aR_ rfl Tryz.underlying47 cz_ zz161 rfl rfl) ?_) | refine ao_ ?_) | refine ap_ ?_ | (refine aG_ rfl (fun hb => ?_) (fun hb => aw_ hb); (try simp only [aX_, reduceCtorEq] at hb)))
     exact aI_ (0 + 1, .slice (some ⟨_, 0, some 0⟩) (0 + 1) (0 + 1)) (by simp only; omega) (af_ ⟨rfl, rfl, rfl, rfl, trivial⟩) ⟨⟨aA_, au_⟩, by simp only; omega, .inr ⟨_, by simp only [H.nx_push, H.nx_set, H.nx_bump, H.nx_kill]; omega, rfl, by simp only; rw [e1]; exact ah_⟩⟩
   · have l1 := hat.lt
     repeat' (first | with_reducible refine ad_ ?_ | ((with_reducible refine ac_ ?_); first | ((with_reducible refine an_ ?_); refine aq_ (ag_ rfl rfl i1) ?_) | ((with_reducible refine al_ ?_); first | refine aq_ (aN_ rfl Tryz.underlying145 rfl zs145 (i3 _ au_).all) ?_ | refine aq_ (aj_ rfl ah_ Tryz.underlying145 rfl zs145 rfl rfl) ?_) | ((with_reducible refine av_ ?_); refine aq_ (bl_ rfl rfl (br_ (M := mz G) (st := 47) (xt := 47) (m := 1) Tryz.underlying47 Tryz.underlying47 rfl cz_ zb161 zz161 rfl (Sl.ofAt ah_ rfl (Nat.le_refl _)) rfl (b := e) (c := (l.take k).flatMap Sg.cells) ah_ (by rw [Sg.flat, List.length_take]; omega) (by omega) (by omega))) ?_) | ((with_reducible refine ay_ ?_); refine bQ_ (aB_ rfl rfl ah_ zs145 rfl rfl rfl rfl) ?_) | ((with_reducible refine aE_ ?_); refine aq_ (aR_ rfl Tryz.underlying47 cz_ zz161 rfl rfl) ?_) | refine ao_ ?_) | refine ap_ ?_ | (refine aG_ rfl (fun hb => ?_) (fun hb => aw_ hb); (try simp only [aX_, reduceCtorEq] at hb)))
     exact aI_ (k + 1, .slice (some ⟨_, 0, some 0⟩) (k + 1) (k + 1)) (by simp only; omega) (af_ ⟨rfl, rfl, rfl, rfl, trivial⟩) ⟨⟨aA_, au_⟩, by simp only; omega, .inr ⟨_, by simp only [H.nx_push, H.nx_set, H.nx_bump, H.nx_kill]; omega, rfl, by simp only; rw [e1]; exact ah_⟩⟩
 · have hkn : k = n := by omega
   subst hkn
   rw [show l.take k = l by rw [List.take_of_length_le (by omega)]] at hv
   repeat' (first | with_reducible refine ad_ ?_ | ((with_reducible refine ac_ ?_); refine ao_ ?_) | refine ap_ ?_ | (refine aG_ rfl (fun hb => ?_) (fun hb => ?_) <;> (try simp only [aX_, reduceCtorEq] at hb) <;> (try (exfalso; omega))))
   refine rq1 rfl ⟨?_, au_⟩
   rcases hv with ⟨rfl, rfl⟩ | ⟨e, hb, rfl, hat⟩
   · have htn : l = [] := by simpa using hl
     subst htn
     exact .nil
   · exact Sl.ofAt hat (by rw [Sg.flat, hl]) (Nat.le_refl _)
set_option maxHeartbeats 8000000 in
theorem c30 {v : Value} {n : Nat} {l : List Sg} (s : Sl G h 3 v n (l.flatMap Sg.cells)) (hl : l.length = n) (hn : n < 1000000) (hw : Wf h) : Cf (mz G) (.func (.func 30) #[] #[]) [v] h fun r h' => r = .int .i64 (sgsE l) ∧ Grow h h' := by
 obtain ⟨a, c, rfl⟩ := s.form
 have hE : sgsE l = if 64 < n then 5 else errN (sucA ⟨0, 0, 0⟩ sgE (fun a b => decide (b.t ≤ a.t)) l) n := by unfold sgsE; rw [hl]
 rw [hE]
 by_cases h64 : 64 < n
 · rw [if_pos h64]
   refine ak_ 47 [.tmp 2] Tryz.func30 rfl rfl rfl rfl ?_
   repeat' (first | with_reducible refine ad_ ?_ | ((with_reducible refine ac_ ?_); first | ((with_reducible refine av_ ?_); refine aq_ (ax_ rfl Tryz.underlying40) ?_) | refine ao_ ?_) | refine ap_ ?_ | (refine aG_ rfl (fun hb => ?_) (fun hb => aw_ hb); (try simp only [aX_, reduceCtorEq] at hb)))
   exact rq1 rfl ⟨rfl, au_⟩
 · rw [if_neg h64]
   refine ak_ 47 [.tmp 2] Tryz.func30 rfl rfl rfl rfl ?_
   repeat' (first | with_reducible refine ad_ ?_ | ((with_reducible refine ac_ ?_); first | ((with_reducible refine av_ ?_); refine aq_ (ax_ rfl Tryz.underlying40) ?_) | refine ao_ ?_) | refine ap_ ?_ | (refine aG_ rfl (fun hb => aw_ hb) (fun hb => ?_); (try simp only [aX_, reduceCtorEq] at hb)))
   refine bo_ (fun k => n - k) (fun k : Nat => [(0, .slice a n c), (3, .int .i64 k)]) (fun k h' => (Wf h' ∧ Grow h h') ∧ k ≤ n ∧ errN (sucA ⟨0, 0, 0⟩ sgE (fun a b => decide (b.t ≤ a.t)) l) k = 0) 0 (af_ ⟨rfl, rfl, trivial⟩) ⟨⟨aA_, au_⟩, Nat.zero_le _, cM_ _⟩ ?_
   rintro k h1 ⟨⟨w1, g1⟩, hk, hz⟩
   have n1 := g1.nx
   by_cases hlt : k < n
   · obtain ⟨id, i1, i3⟩ := cw_ Sg.len ⟨0, 0, 0⟩ (s.grow g1) hl Tryz.underlying40 zs145 (i := (k : Int)) hlt rfl
     have nxt := cB_ hz
     have hit := fun (q : (sucA ⟨0, 0, 0⟩ sgE (fun a b => decide (b.t ≤ a.t)) l) k ≠ 0) => (errN_hit (f := (sucA ⟨0, 0, 0⟩ sgE (fun a b => decide (b.t ≤ a.t)) l)) (k := k + 1) (n := n) (by omega) (by rw [nxt]; exact q)).trans nxt
     obtain ⟨x0, hx⟩ : ∃ x, l.getD k ⟨0, 0, 0⟩ = x := ⟨_, rfl⟩
     have hF : (sucA ⟨0, 0, 0⟩ sgE (fun a b => decide (b.t ≤ a.t)) l) k = if sgE x0 ≠ 0 then sgE x0 else if 0 < k ∧ decide ((l.getD (k - 1) ⟨0, 0, 0⟩).t ≤ x0.t) = false then 11 else 0 := by unfold sucA; rw [hx]
     rw [hx] at i3
     clear hx
     obtain ⟨t, x, y⟩ := x0
     have it := fun (h' : H) (g' : Grow h1 h') => (show acell G h' (aadd id 0) = some (.int .i64 t) from (i3 h' g').get 0 _ rfl)
     have ixy := fun (h' : H) (g' : Grow h1 h') => (show Cells G h' (aadd id 1) [.int .i64 x, .int .i64 y] from cells_sub (i3 h' g') 1)
     clear i3
     have qf := fun (h' : H) (vv : Value) (s : Sl G h' 1 vv 2 ([rngE t 0 100000, ptE x y 100000].map (.int .i64))) => c91 s (by omega)
     rw [show firstNZ [rngE t 0 100000, ptE x y 100000] = sgE ⟨t, x, y⟩ by unfold sgE; rfl] at qf
     obtain ⟨E, hE⟩ : ∃ E, sgE ⟨t, x, y⟩ = E := ⟨_, rfl⟩
     rw [hE] at qf hF
     clear hE
     by_cases he : E = 0
     · rw [he] at qf
       rw [if_neg (by omega)] at hF
       by_cases hk0 : 0 < k
       · obtain ⟨jd, j1, j3⟩ := cw_ Sg.len ⟨0, 0, 0⟩ (s.grow g1) hl Tryz.underlying40 zs145 (i := (k : Int) - 1) (q := k - 1) (by omega) (by omega)
         obtain ⟨y0, hy⟩ : ∃ y, l.getD (k - 1) ⟨0, 0, 0⟩ = y := ⟨_, rfl⟩
         rw [hy] at j3 hF
         clear hy
         obtain ⟨u, y1, y2⟩ := y0
         have jt := fun (h' : H) (g' : Grow h1 h') => (show acell G h' (aadd jd 0) = some (.int .i64 u) from (j3 h' g').get 0 _ rfl)
         clear j3
         dsimp only at hF
         by_cases hut : u ≤ t
         · rw [decide_eq_true hut, if_neg (by simp)] at hF
           rw [hF] at nxt
           clear hF hit
           repeat' (first | with_reducible refine ad_ ?_ | ((with_reducible refine ac_ ?_); first | ((with_reducible refine av_ ?_); refine aq_ (ax_ rfl Tryz.underlying40) ?_) | refine ao_ ?_) | ((with_reducible refine bb_ ?_); first | ((with_reducible refine bd_ ?_); first | ((with_reducible refine ba_ ?_); refine aH_ (aa_ rfl) rfl rfl (ar_ rfl (aD_ rfl)) rfl rfl rfl ?_) | ((with_reducible refine aT_ ?_); refine aH_ (aa_ rfl) rfl rfl (ar_ rfl (ag_ rfl rfl i1)) rfl rfl rfl ?_) | ((with_reducible refine aZ_ ?_); first | refine aO_ (aa_ rfl) rfl (ar_ rfl (az_ rfl Tryz.underlying3 rfl (it _ au_))) rfl rfl rfl ?_ | refine aO_ (aa_ rfl) rfl (ar_ rfl (aN_ rfl Tryz.underlying35 rfl zs35 (ixy _ au_).all)) rfl rfl rfl ?_) | ((with_reducible refine bD_ ?_); refine aH_ (aa_ rfl) rfl rfl (ar_ rfl (bM_ rfl rfl)) rfl rfl rfl ?_) | ((with_reducible refine aC_ ?_); first | refine aH_ (aa_ rfl) rfl rfl (ar_ rfl (ab_ (o := 0) rfl Tryz.underlying145 rfl zs3 rfl)) rfl rfl rfl ?_ | refine aH_ (aa_ rfl) rfl rfl (ar_ rfl (ab_ (o := 1) rfl Tryz.underlying145 rfl zs35 rfl)) rfl rfl rfl ?_) | ((with_reducible refine bg_ ?_); refine wx_a0 (aa_ rfl) rfl (bh_ rfl Tryz.underlying49 zs3 zz3 rfl rfl) rfl rfl ?_) | ((with_reducible refine cj_ ?_); refine aH_ (aa_ rfl) rfl rfl (ar_ rfl (cb_ rfl rfl)) rfl rfl rfl ?_) | ((with_reducible refine bw_ (f := 72) ?_); refine wx_ee (aa_ rfl) rfl rfl (aK_ rfl rfl (c72 _ _ _)) rfl rfl ?_) | ((with_reducible refine bw_ (f := 97) ?_); (refine aM_ (aa_ rfl) rfl rfl rfl rfl (c97 (by decide) (by decide) aA_) rfl rfl ?_; rintro _ _ ⟨rfl, hq⟩; all_goals (try (have hqn := hq.nx); try simp only [aU_] at hqn))) | ((with_reducible refine xk_g ?_); first | ((with_reducible refine cJ_ ?_); refine aH_ (aL_ rfl rfl rfl) rfl rfl (ar_ rfl (aD_ rfl)) rfl rfl rfl ?_) | ((with_reducible refine bJ_ ?_); first | refine aH_ (aL_ rfl rfl rfl) rfl rfl (ar_ rfl (ag_ rfl rfl i1)) rfl rfl rfl ?_ | refine aH_ (aL_ rfl rfl rfl) rfl rfl (ar_ rfl (ag_ rfl rfl j1)) rfl rfl rfl ?_) | ((with_reducible refine cK_ ?_); first | refine aO_ (aL_ rfl rfl rfl) rfl (ar_ rfl (az_ rfl Tryz.underlying3 rfl (it _ au_))) rfl rfl rfl ?_ | refine aO_ (aL_ rfl rfl rfl) rfl (ar_ rfl (az_ rfl Tryz.underlying3 rfl (jt _ au_))) rfl rfl rfl ?_) | ((with_reducible refine xg_bin ?_); first | refine aH_ (aL_ rfl rfl rfl) rfl rfl (ar_ rfl (cI_ rfl rfl)) rfl rfl rfl ?_ | refine aH_ (aL_ rfl rfl rfl) rfl rfl (ar_ rfl (bY_ rfl rfl (w64 (by omega) (by omega)))) rfl rfl rfl ?_) | ((with_reducible refine cl_ ?_); refine aH_ (aL_ rfl rfl rfl) rfl rfl (ar_ rfl (ab_ (o := 0) rfl Tryz.underlying145 rfl zs3 rfl)) rfl rfl rfl ?_) | (refine bO_ rfl rfl rfl (fun hb => ?_) (fun hb => aw_ hb); (try simp only [aX_, reduceCtorEq] at hb))) | with_reducible refine bj_ ?_ ?_) | ((with_reducible refine bm_ ?_); refine aH_ (aa_ rfl) rfl rfl (ar_ rfl (aW_ rfl)) rfl rfl rfl ?_) | ((with_reducible refine aV_ ?_); ((with_reducible refine cq_ ?_); refine wx_e1 (aa_ rfl) rfl rfl rfl (aK_ rfl rfl (qf _ _ (Sl.ofAt (show At _ _ (.cells [.int .i64 (rngE t 0 100000), .int .i64 (ptE x y 100000)] 3 1 false) from ah_) rfl (Nat.le_refl _)))) rfl rfl ?_)) | refine bU_ ?_ ?_ rfl rfl ?_) | with_reducible exact aP_ | with_reducible refine aJ_ ?_ ?_ | ((with_reducible refine bi_ ?_); first | exact aS_ | refine aQ_ rfl ?_ | refine am_ rfl rfl (ar_ rfl (az_ rfl Tryz.underlying3 rfl (it _ au_))) ?_ | refine am_ rfl rfl (ar_ rfl (aN_ rfl Tryz.underlying35 rfl zs35 (ixy _ au_).all)) ?_ | refine am_ rfl rfl (ar_ rfl (az_ rfl Tryz.underlying3 rfl (jt _ au_))) ?_) | with_reducible exact bV_ | with_reducible refine bE_ ?_ ?_ | ((with_reducible refine ck_ ?_); first | exact bW_ rfl rfl | exact bu_ rfl rfl aA_ gr_B) | refine ap_ ?_ | (refine aG_ rfl (fun hb => aw_ hb) (fun hb => ?_); (try simp only [aX_, reduceCtorEq] at hb)) | (refine aG_ rfl (fun hb => ?_) (fun hb => aw_ hb); (try simp only [aX_, reduceCtorEq] at hb)) | refine aF_ (id := 6) 15 [0, 0, 3, 7, 15, 31, 0, 0, 192, 448, 960, 2047, 4095, 8191, 16383] [0, 1, 2, 3, 4, 5, 6, 7, 8, 9, 10, 11, 12, 13, 14] (by kernel_rfl) (by kernel_rfl) rfl rfl ?_ | refine aF_ (id := 9) 16 [0, 1, 3, 7, 7, 31, 63, 127, 7, 7, 519, 1799, 3847, 7943, 16383, 32767] [0, 1, 2, 3, 4, 5, 6, 7, 8, 9, 10, 11, 12, 13, 14, 15] (by kernel_rfl) (by kernel_rfl) rfl rfl ?_)
           all_goals exact aI_ (k + 1) (by omega) (af_ ⟨rfl, rfl, trivial⟩) ⟨⟨aA_, au_⟩, by omega, nxt⟩
         · rw [decide_eq_false hut, if_pos ⟨hk0, rfl⟩] at hF
           rw [hit (by rw [hF]; decide), hF]
           clear hF hit nxt
           repeat' (first | with_reducible refine ad_ ?_ | ((with_reducible refine ac_ ?_); first | ((with_reducible refine av_ ?_); refine aq_ (ax_ rfl Tryz.underlying40) ?_) | refine ao_ ?_) | ((with_reducible refine bb_ ?_); first | ((with_reducible refine bd_ ?_); first | ((with_reducible refine ba_ ?_); refine aH_ (aa_ rfl) rfl rfl (ar_ rfl (aD_ rfl)) rfl rfl rfl ?_) | ((with_reducible refine aT_ ?_); refine aH_ (aa_ rfl) rfl rfl (ar_ rfl (ag_ rfl rfl i1)) rfl rfl rfl ?_) | ((with_reducible refine aZ_ ?_); first | refine aO_ (aa_ rfl) rfl (ar_ rfl (az_ rfl Tryz.underlying3 rfl (it _ au_))) rfl rfl rfl ?_ | refine aO_ (aa_ rfl) rfl (ar_ rfl (aN_ rfl Tryz.underlying35 rfl zs35 (ixy _ au_).all)) rfl rfl rfl ?_) | ((with_reducible refine bD_ ?_); refine aH_ (aa_ rfl) rfl rfl (ar_ rfl (bM_ rfl rfl)) rfl rfl rfl ?_) | ((with_reducible refine aC_ ?_); first | refine aH_ (aa_ rfl) rfl rfl (ar_ rfl (ab_ (o := 0) rfl Tryz.underlying145 rfl zs3 rfl)) rfl rfl rfl ?_ | refine aH_ (aa_ rfl) rfl rfl (ar_ rfl (ab_ (o := 1) rfl Tryz.underlying145 rfl zs35 rfl)) rfl rfl rfl ?_) | ((with_reducible refine bg_ ?_); refine wx_a0 (aa_ rfl) rfl (bh_ rfl Tryz.underlying49 zs3 zz3 rfl rfl) rfl rfl ?_) | ((with_reducible refine cj_ ?_); refine aH_ (aa_ rfl) rfl rfl (ar_ rfl (cb_ rfl rfl)) rfl rfl rfl ?_) | ((with_reducible refine bw_ (f := 72) ?_); refine wx_ee (aa_ rfl) rfl rfl (aK_ rfl rfl (c72 _ _ _)) rfl rfl ?_) | ((with_reducible refine bw_ (f := 97) ?_); (refine aM_ (aa_ rfl) rfl rfl rfl rfl (c97 (by decide) (by decide) aA_) rfl rfl ?_; rintro _ _ ⟨rfl, hq⟩; all_goals (try (have hqn := hq.nx); try simp only [aU_] at hqn))) | ((with_reducible refine xk_g ?_); first | ((with_reducible refine cJ_ ?_); refine aH_ (aL_ rfl rfl rfl) rfl rfl (ar_ rfl (aD_ rfl)) rfl rfl rfl ?_) | ((with_reducible refine bJ_ ?_); first | refine aH_ (aL_ rfl rfl rfl) rfl rfl (ar_ rfl (ag_ rfl rfl i1)) rfl rfl rfl ?_ | refine aH_ (aL_ rfl rfl rfl) rfl rfl (ar_ rfl (ag_ rfl rfl j1)) rfl rfl rfl ?_) | ((with_reducible refine cK_ ?_); first | refine aO_ (aL_ rfl rfl rfl) rfl (ar_ rfl (az_ rfl Tryz.underlying3 rfl (it _ au_))) rfl rfl rfl ?_ | refine aO_ (aL_ rfl rfl rfl) rfl (ar_ rfl (az_ rfl Tryz.underlying3 rfl (jt _ au_))) rfl rfl rfl ?_) | ((with_reducible refine xg_bin ?_); first | refine aH_ (aL_ rfl rfl rfl) rfl rfl (ar_ rfl (cI_ rfl rfl)) rfl rfl rfl ?_ | refine aH_ (aL_ rfl rfl rfl) rfl rfl (ar_ rfl (bY_ rfl rfl (w64 (by omega) (by omega)))) rfl rfl rfl ?_) | ((with_reducible refine cl_ ?_); refine aH_ (aL_ rfl rfl rfl) rfl rfl (ar_ rfl (ab_ (o := 0) rfl Tryz.underlying145 rfl zs3 rfl)) rfl rfl rfl ?_) | (refine bO_ rfl rfl rfl (fun hb => ?_) (fun hb => aw_ hb); (try simp only [aX_, reduceCtorEq] at hb))) | with_reducible refine bj_ ?_ ?_) | ((with_reducible refine bm_ ?_); refine aH_ (aa_ rfl) rfl rfl (ar_ rfl (aW_ rfl)) rfl rfl rfl ?_) | ((with_reducible refine aV_ ?_); ((with_reducible refine cq_ ?_); refine wx_e1 (aa_ rfl) rfl rfl rfl (aK_ rfl rfl (qf _ _ (Sl.ofAt (show At _ _ (.cells [.int .i64 (rngE t 0 100000), .int .i64 (ptE x y 100000)] 3 1 false) from ah_) rfl (Nat.le_refl _)))) rfl rfl ?_)) | refine bU_ ?_ ?_ rfl rfl ?_) | with_reducible exact aP_ | with_reducible refine aJ_ ?_ ?_ | ((with_reducible refine bi_ ?_); first | exact aS_ | refine aQ_ rfl ?_ | refine am_ rfl rfl (ar_ rfl (az_ rfl Tryz.underlying3 rfl (it _ au_))) ?_ | refine am_ rfl rfl (ar_ rfl (aN_ rfl Tryz.underlying35 rfl zs35 (ixy _ au_).all)) ?_ | refine am_ rfl rfl (ar_ rfl (az_ rfl Tryz.underlying3 rfl (jt _ au_))) ?_) | with_reducible exact bV_ | with_reducible refine bE_ ?_ ?_ | ((with_reducible refine ck_ ?_); first | exact bW_ rfl rfl | exact bu_ rfl rfl aA_ gr_B) | refine ap_ ?_ | (refine aG_ rfl (fun hb => ?_) (fun hb => aw_ hb); (try simp only [aX_, reduceCtorEq] at hb)) | refine aF_ (id := 6) 15 [0, 0, 3, 7, 15, 31, 0, 0, 192, 448, 960, 2047, 4095, 8191, 16383] [0, 1, 2, 3, 4, 5, 6, 7, 8, 9, 10, 11, 12, 13, 14] (by kernel_rfl) (by kernel_rfl) rfl rfl ?_ | refine aF_ (id := 9) 16 [0, 1, 3, 7, 7, 31, 63, 127, 7, 7, 519, 1799, 3847, 7943, 16383, 32767] [0, 1, 2, 3, 4, 5, 6, 7, 8, 9, 10, 11, 12, 13, 14, 15] (by kernel_rfl) (by kernel_rfl) rfl rfl ?_)
           all_goals exact rq1 rfl ⟨rfl, au_⟩
       · rw [if_neg (by omega)] at hF
         rw [hF] at nxt
         clear hF hit
         repeat' (first | with_reducible refine ad_ ?_ | ((with_reducible refine ac_ ?_); first | ((with_reducible refine av_ ?_); refine aq_ (ax_ rfl Tryz.underlying40) ?_) | refine ao_ ?_) | ((with_reducible refine bb_ ?_); first | ((with_reducible refine bd_ ?_); first | ((with_reducible refine ba_ ?_); refine aH_ (aa_ rfl) rfl rfl (ar_ rfl (aD_ rfl)) rfl rfl rfl ?_) | ((with_reducible refine aT_ ?_); refine aH_ (aa_ rfl) rfl rfl (ar_ rfl (ag_ rfl rfl i1)) rfl rfl rfl ?_) | ((with_reducible refine aZ_ ?_); first | refine aO_ (aa_ rfl) rfl (ar_ rfl (az_ rfl Tryz.underlying3 rfl (it _ au_))) rfl rfl rfl ?_ | refine aO_ (aa_ rfl) rfl (ar_ rfl (aN_ rfl Tryz.underlying35 rfl zs35 (ixy _ au_).all)) rfl rfl rfl ?_) | ((with_reducible refine bD_ ?_); refine aH_ (aa_ rfl) rfl rfl (ar_ rfl (bM_ rfl rfl)) rfl rfl rfl ?_) | ((with_reducible refine aC_ ?_); first | refine aH_ (aa_ rfl) rfl rfl (ar_ rfl (ab_ (o := 0) rfl Tryz.underlying145 rfl zs3 rfl)) rfl rfl rfl ?_ | refine aH_ (aa_ rfl) rfl rfl (ar_ rfl (ab_ (o := 1) rfl Tryz.underlying145 rfl zs35 rfl)) rfl rfl rfl ?_) | ((with_reducible refine bg_ ?_); refine wx_a0 (aa_ rfl) rfl (bh_ rfl Tryz.underlying49 zs3 zz3 rfl rfl) rfl rfl ?_) | ((with_reducible refine cj_ ?_); refine aH_ (aa_ rfl) rfl rfl (ar_ rfl (ct_ rfl rfl)) rfl rfl rfl ?_) | ((with_reducible refine bw_ (f := 72) ?_); refine wx_ee (aa_ rfl) rfl rfl (aK_ rfl rfl (c72 _ _ _)) rfl rfl ?_) | ((with_reducible refine bw_ (f := 97) ?_); (refine aM_ (aa_ rfl) rfl rfl rfl rfl (c97 (by decide) (by decide) aA_) rfl rfl ?_; rintro _ _ ⟨rfl, hq⟩; all_goals (try (have hqn := hq.nx); try simp only [aU_] at hqn))) | ((with_reducible refine xk_g ?_); first | refine wx_s (wt_skip rfl rfl rfl rfl) rfl rfl ?_ | (refine bO_ rfl rfl rfl (fun hb => aw_ hb) (fun hb => ?_); (try simp only [aX_, reduceCtorEq] at hb))) | with_reducible refine bj_ ?_ ?_) | ((with_reducible refine bm_ ?_); refine aH_ (aa_ rfl) rfl rfl (ar_ rfl (aW_ rfl)) rfl rfl rfl ?_) | ((with_reducible refine aV_ ?_); ((with_reducible refine cq_ ?_); refine wx_e1 (aa_ rfl) rfl rfl rfl (aK_ rfl rfl (qf _ _ (Sl.ofAt (show At _ _ (.cells [.int .i64 (rngE t 0 100000), .int .i64 (ptE x y 100000)] 3 1 false) from ah_) rfl (Nat.le_refl _)))) rfl rfl ?_)) | refine bU_ ?_ ?_ rfl rfl ?_) | with_reducible exact aP_ | with_reducible refine aJ_ ?_ ?_ | ((with_reducible refine bi_ ?_); first | exact aS_ | refine aQ_ rfl ?_ | refine am_ rfl rfl (ar_ rfl (az_ rfl Tryz.underlying3 rfl (it _ au_))) ?_ | refine am_ rfl rfl (ar_ rfl (aN_ rfl Tryz.underlying35 rfl zs35 (ixy _ au_).all)) ?_) | with_reducible exact bV_ | with_reducible refine bE_ ?_ ?_ | ((with_reducible refine ck_ ?_); first | exact bW_ rfl rfl | exact bu_ rfl rfl aA_ gr_B) | refine ap_ ?_ | (refine aG_ rfl (fun hb => ?_) (fun hb => aw_ hb); (try simp only [aX_, reduceCtorEq] at hb)) | refine aF_ (id := 6) 15 [0, 0, 3, 7, 15, 31, 0, 0, 192, 448, 960, 2047, 4095, 8191, 16383] [0, 1, 2, 3, 4, 5, 6, 7, 8, 9, 10, 11, 12, 13, 14] (by kernel_rfl) (by kernel_rfl) rfl rfl ?_ | refine aF_ (id := 9) 16 [0, 1, 3, 7, 7, 31, 63, 127, 7, 7, 519, 1799, 3847, 7943, 16383, 32767] [0, 1, 2, 3, 4, 5, 6, 7, 8, 9, 10, 11, 12, 13, 14, 15] (by kernel_rfl) (by kernel_rfl) rfl rfl ?_)
         all_goals exact aI_ (k + 1) (by omega) (af_ ⟨rfl, rfl, trivial⟩) ⟨⟨aA_, au_⟩, by omega, nxt⟩
     · rw [if_pos he] at hF
       rw [hit (by rw [hF]; exact he), hF]
       clear hF hit nxt
       repeat' (first | with_reducible refine ad_ ?_ | ((with_reducible refine ac_ ?_); first | ((with_reducible refine av_ ?_); refine aq_ (ax_ rfl Tryz.underlying40) ?_) | refine ao_ ?_) | ((with_reducible refine bb_ ?_); first | ((with_reducible refine bd_ ?_); first | ((with_reducible refine ba_ ?_); refine aH_ (aa_ rfl) rfl rfl (ar_ rfl (aD_ rfl)) rfl rfl rfl ?_) | ((with_reducible refine aT_ ?_); refine aH_ (aa_ rfl) rfl rfl (ar_ rfl (ag_ rfl rfl i1)) rfl rfl rfl ?_) | ((with_reducible refine aZ_ ?_); first | refine aO_ (aa_ rfl) rfl (ar_ rfl (az_ rfl Tryz.underlying3 rfl (it _ au_))) rfl rfl rfl ?_ | refine aO_ (aa_ rfl) rfl (ar_ rfl (aN_ rfl Tryz.underlying35 rfl zs35 (ixy _ au_).all)) rfl rfl rfl ?_) | ((with_reducible refine aC_ ?_); first | refine aH_ (aa_ rfl) rfl rfl (ar_ rfl (ab_ (o := 0) rfl Tryz.underlying145 rfl zs3 rfl)) rfl rfl rfl ?_ | refine aH_ (aa_ rfl) rfl rfl (ar_ rfl (ab_ (o := 1) rfl Tryz.underlying145 rfl zs35 rfl)) rfl rfl rfl ?_) | ((with_reducible refine bg_ ?_); refine wx_a0 (aa_ rfl) rfl (bh_ rfl Tryz.underlying49 zs3 zz3 rfl rfl) rfl rfl ?_) | ((with_reducible refine bw_ (f := 72) ?_); refine wx_ee (aa_ rfl) rfl rfl (aK_ rfl rfl (c72 _ _ _)) rfl rfl ?_) | ((with_reducible refine bw_ (f := 97) ?_); (refine aM_ (aa_ rfl) rfl rfl rfl rfl (c97 (by decide) (by decide) aA_) rfl rfl ?_; rintro _ _ ⟨rfl, hq⟩; all_goals (try (have hqn := hq.nx); try simp only [aU_] at hqn)))) | ((with_reducible refine bm_ ?_); refine aH_ (aa_ rfl) rfl rfl (ar_ rfl (aW_ rfl)) rfl rfl rfl ?_) | ((with_reducible refine aV_ ?_); ((with_reducible refine cq_ ?_); refine wx_e1 (aa_ rfl) rfl rfl rfl (aK_ rfl rfl (qf _ _ (Sl.ofAt (show At _ _ (.cells [.int .i64 (rngE t 0 100000), .int .i64 (ptE x y 100000)] 3 1 false) from ah_) rfl (Nat.le_refl _)))) rfl rfl ?_)) | refine bU_ ?_ ?_ rfl rfl ?_) | with_reducible exact aP_ | with_reducible refine aJ_ ?_ ?_ | ((with_reducible refine bi_ ?_); first | exact aS_ | refine aQ_ rfl ?_ | refine am_ rfl rfl (ar_ rfl (az_ rfl Tryz.underlying3 rfl (it _ au_))) ?_ | refine am_ rfl rfl (ar_ rfl (aN_ rfl Tryz.underlying35 rfl zs35 (ixy _ au_).all)) ?_) | with_reducible exact bV_ | with_reducible refine bE_ ?_ ?_ | ((with_reducible refine ck_ ?_); first | exact bW_ rfl rfl | exact bu_ rfl rfl aA_ gr_B) | refine ap_ ?_ | (refine aG_ rfl (fun hb => ?_) (fun hb => aw_ hb); (try simp only [aX_, reduceCtorEq] at hb)) | refine aF_ (id := 6) 15 [0, 0, 3, 7, 15, 31, 0, 0, 192, 448, 960, 2047, 4095, 8191, 16383] [0, 1, 2, 3, 4, 5, 6, 7, 8, 9, 10, 11, 12, 13, 14] (by kernel_rfl) (by kernel_rfl) rfl rfl ?_)
       all_goals exact rq1 rfl ⟨rfl, au_⟩
   · have : k = n := by omega
     subst this
     rw [hz]
     repeat' (first | with_reducible refine ad_ ?_ | ((with_reducible refine ac_ ?_); first | ((with_reducible refine av_ ?_); refine aq_ (ax_ rfl Tryz.underlying40) ?_) | refine ao_ ?_) | refine ap_ ?_ | (refine aG_ rfl (fun hb => ?_) (fun hb => ?_) <;> (try simp only [aX_, reduceCtorEq] at hb) <;> (try (exfalso; omega))))
     exact rq1 rfl ⟨rfl, au_⟩
def allE (x y u v t r sp lo cl so : Int) (l : List Sg) : Int := firstNZ [vesE x y u v t, watE r sp lo cl so, sgsE l]
set_option maxHeartbeats 2000000 in
theorem c81 {x y u v t r sp lo cl so : Int} {w : Value} {n : Nat} {l : List Sg} (s : Sl G h 3 w n (l.flatMap Sg.cells)) (hl : l.length = n) (hn : n < 1000000) (hw : Wf h) : Cf (mz G) (.func (.func 81) #[] #[]) [.agg ⟨[.int .i64 x, .int .i64 y, .int .i64 u, .int .i64 v, .int .i64 t]⟩, .agg ⟨[.int .i64 r, .int .i64 sp, .int .i64 lo, .int .i64 cl, .int .i64 so]⟩, w] h fun r' h' => r' = .int .i64 (allE x y u v t r sp lo cl so l) ∧ Grow h h' := by
 have qf := fun (h' : H) (vv : Value) (s : Sl G h' 1 vv 3 ([vesE x y u v t, watE r sp lo cl so, sgsE l].map (.int .i64))) => c93 s (by omega)
 rw [show firstNZ [vesE x y u v t, watE r sp lo cl so, sgsE l] = allE x y u v t r sp lo cl so l from rfl] at qf
 have qs := fun (h' : H) (g : Grow h h') (w' : Wf h') => c29 (s.grow g) hl hn w'
 obtain ⟨a, c, rfl⟩ := s.form
 refine ak_ 15 [.tmp 6] Tryz.func81 rfl rfl rfl rfl ?_
 repeat' (first | with_reducible refine ad_ ?_ | ((with_reducible refine ac_ ?_); refine ao_ ?_) | ((with_reducible refine bb_ ?_); first | ((with_reducible refine bd_ ?_); first | ((with_reducible refine ba_ ?_); refine aH_ (aa_ rfl) rfl rfl (ar_ rfl (aD_ rfl)) rfl rfl rfl ?_) | ((with_reducible refine aZ_ ?_); first | refine aO_ (aa_ rfl) rfl (ar_ rfl (aj_ rfl ah_ Tryz.underlying45 rfl zs45 rfl rfl)) rfl rfl rfl ?_ | refine aO_ (aa_ rfl) rfl (ar_ rfl (aj_ rfl ah_ Tryz.underlying46 rfl zs46 rfl rfl)) rfl rfl rfl ?_) | ((with_reducible refine bg_ ?_); refine wx_a0 (aa_ rfl) rfl (bh_ rfl Tryz.underlying238 zs26 zz26 rfl rfl) rfl rfl ?_) | ((with_reducible refine aV_ ?_); (refine aM_ (aa_ rfl) rfl rfl rfl rfl (qs _ au_ aA_) rfl rfl ?_; rintro _ _ ⟨rfl, hq⟩; all_goals (try (have hqn := hq.nx); try simp only [aU_] at hqn))) | ((with_reducible refine bw_ (f := 25) ?_); (refine aM_ (aa_ rfl) rfl rfl rfl rfl (c25 aA_) rfl rfl ?_; rintro _ _ ⟨rfl, hq⟩; all_goals (try (have hqn := hq.nx); try simp only [aU_] at hqn))) | ((with_reducible refine bw_ (f := 27) ?_); (refine aM_ (aa_ rfl) rfl rfl rfl rfl (c27 aA_) rfl rfl ?_; rintro _ _ ⟨rfl, hq⟩; all_goals (try (have hqn := hq.nx); try simp only [aU_] at hqn)))) | ((with_reducible refine bm_ ?_); refine aH_ (aa_ rfl) rfl rfl (ar_ rfl (aW_ rfl)) rfl rfl rfl ?_) | ((with_reducible refine aV_ ?_); ((with_reducible refine cq_ ?_); refine wx_e1 (aa_ rfl) rfl rfl rfl (aK_ rfl rfl (qf _ _ (Sl.ofAt (show At _ _ (.cells [.int .i64 (vesE x y u v t), .int .i64 (watE r sp lo cl so), .int .i64 (sgsE l)] 26 1 false) from ah_) rfl (Nat.le_refl _)))) rfl rfl ?_)) | refine bU_ ?_ ?_ rfl rfl ?_) | with_reducible exact aP_ | with_reducible refine aJ_ ?_ ?_ | ((with_reducible refine bi_ ?_); first | exact aS_ | refine aQ_ rfl ?_ | refine am_ rfl rfl (ar_ rfl (aj_ rfl ah_ Tryz.underlying45 rfl zs45 (by rfl) rfl)) ?_ | refine am_ rfl rfl (ar_ rfl (aj_ rfl ah_ Tryz.underlying46 rfl zs46 (by rfl) rfl)) ?_) | with_reducible exact bV_ | with_reducible refine bE_ ?_ ?_ | ((with_reducible refine ck_ ?_); first | exact bW_ rfl rfl | exact bu_ rfl rfl aA_ gr_B) | refine ap_ ?_ | refine aF_ (id := 1) 9 [0, 1, 0, 7, 0, 31, 63, 127, 255] [0, 1, 2, 3, 4, 5, 6, 7, 8] (by kernel_rfl) (by kernel_rfl) rfl rfl ?_)
 exact rq1 rfl ⟨rfl, au_⟩
set_option maxHeartbeats 2000000 in
theorem c21 {x y u v t r sp lo cl so : Int} {w : Value} {n : Nat} {l : List Sg} (s : Sl G h 3 w n (l.flatMap Sg.cells)) (hl : l.length = n) (hn : n < 1000000) (hw : Wf h) : Cf (mz G) (.func (.func 21) #[] #[]) [.agg ⟨[.int .i64 x, .int .i64 y, .int .i64 u, .int .i64 v, .int .i64 t]⟩, .agg ⟨[.int .i64 r, .int .i64 sp, .int .i64 lo, .int .i64 cl, .int .i64 so]⟩, w] h fun r' h' => r' = .int .i64 (allE x y u v t r sp lo cl so l) ∧ Grow h h' := by
 have qf := fun (h' : H) (vv : Value) (s : Sl G h' 1 vv 3 ([vesE x y u v t, watE r sp lo cl so, sgsE l].map (.int .i64))) => c91 s (by omega)
 rw [show firstNZ [vesE x y u v t, watE r sp lo cl so, sgsE l] = allE x y u v t r sp lo cl so l from rfl] at qf
 have qs := fun (h' : H) (g : Grow h h') (w' : Wf h') => c30 (s.grow g) hl hn w'
 obtain ⟨a, c, rfl⟩ := s.form
 refine ak_ 15 [.tmp 6] Tryz.func21 rfl rfl rfl rfl ?_
 repeat' (first | with_reducible refine ad_ ?_ | ((with_reducible refine ac_ ?_); refine ao_ ?_) | ((with_reducible refine bb_ ?_); first | ((with_reducible refine bd_ ?_); first | ((with_reducible refine ba_ ?_); refine aH_ (aa_ rfl) rfl rfl (ar_ rfl (aD_ rfl)) rfl rfl rfl ?_) | ((with_reducible refine aZ_ ?_); first | refine aO_ (aa_ rfl) rfl (ar_ rfl (aj_ rfl ah_ Tryz.underlying37 rfl zs37 rfl rfl)) rfl rfl rfl ?_ | refine aO_ (aa_ rfl) rfl (ar_ rfl (aj_ rfl ah_ Tryz.underlying39 rfl zs39 rfl rfl)) rfl rfl rfl ?_) | ((with_reducible refine bg_ ?_); refine wx_a0 (aa_ rfl) rfl (bh_ rfl Tryz.underlying49 zs3 zz3 rfl rfl) rfl rfl ?_) | ((with_reducible refine aV_ ?_); (refine aM_ (aa_ rfl) rfl rfl rfl rfl (qs _ au_ aA_) rfl rfl ?_; rintro _ _ ⟨rfl, hq⟩; all_goals (try (have hqn := hq.nx); try simp only [aU_] at hqn))) | ((with_reducible refine bw_ (f := 26) ?_); (refine aM_ (aa_ rfl) rfl rfl rfl rfl (c26 aA_) rfl rfl ?_; rintro _ _ ⟨rfl, hq⟩; all_goals (try (have hqn := hq.nx); try simp only [aU_] at hqn))) | ((with_reducible refine bw_ (f := 28) ?_); (refine aM_ (aa_ rfl) rfl rfl rfl rfl (c28 aA_) rfl rfl ?_; rintro _ _ ⟨rfl, hq⟩; all_goals (try (have hqn := hq.nx); try simp only [aU_] at hqn)))) | ((with_reducible refine bm_ ?_); refine aH_ (aa_ rfl) rfl rfl (ar_ rfl (aW_ rfl)) rfl rfl rfl ?_) | ((with_reducible refine aV_ ?_); ((with_reducible refine cq_ ?_); refine wx_e1 (aa_ rfl) rfl rfl rfl (aK_ rfl rfl (qf _ _ (Sl.ofAt (show At _ _ (.cells [.int .i64 (vesE x y u v t), .int .i64 (watE r sp lo cl so), .int .i64 (sgsE l)] 3 1 false) from ah_) rfl (Nat.le_refl _)))) rfl rfl ?_)) | refine bU_ ?_ ?_ rfl rfl ?_) | with_reducible exact aP_ | with_reducible refine aJ_ ?_ ?_ | ((with_reducible refine bi_ ?_); first | exact aS_ | refine aQ_ rfl ?_ | refine am_ rfl rfl (ar_ rfl (aj_ rfl ah_ Tryz.underlying37 rfl zs37 (by rfl) rfl)) ?_ | refine am_ rfl rfl (ar_ rfl (aj_ rfl ah_ Tryz.underlying39 rfl zs39 (by rfl) rfl)) ?_) | with_reducible exact bV_ | with_reducible refine bE_ ?_ ?_ | ((with_reducible refine ck_ ?_); first | exact bW_ rfl rfl | exact bu_ rfl rfl aA_ gr_B) | refine ap_ ?_ | refine aF_ (id := 1) 9 [0, 1, 0, 7, 0, 31, 63, 127, 255] [0, 1, 2, 3, 4, 5, 6, 7, 8] (by kernel_rfl) (by kernel_rfl) rfl rfl ?_)
 exact rq1 rfl ⟨rfl, au_⟩
theorem c16 {x y u v t : Int} {a : Option Addr} {n c : Nat} (hw : Wf h) : Cf (mz G) (.func (.func 16) #[] #[]) [.agg ⟨[.int .i64 x, .int .i64 y, .int .i64 u, .int .i64 v, .int .i64 t]⟩, .slice a n c] h fun r h' => r = .bool (decide ((t ≤ 60 ∨ 4096 < t) ∧ (n ≤ 6 ∨ n = 65))) ∧ Grow h h' := by
 refine ak_ 23 [.tmp 4] Tryz.func16 rfl rfl rfl rfl ?_
 repeat' (first | with_reducible refine ad_ ?_ | ((with_reducible refine ac_ ?_); first | ((with_reducible refine al_ ?_); refine aq_ (ae_ rfl ah_ Tryz.underlying3 rfl rfl) ?_) | ((with_reducible refine cC_ ?_); first | refine bn_ rfl rfl rfl rfl rfl rfl ?_ | refine wo_gskip' rfl rfl rfl rfl rfl ?_ | ((with_reducible refine bH_ ?_); refine ai_ rfl rfl rfl (aD_ rfl) rfl rfl ?_) | ((with_reducible refine bc_ ?_); refine ai_ rfl rfl rfl (ab_ (o := 4) rfl Tryz.underlying37 rfl zs3 rfl) rfl rfl ?_) | ((with_reducible refine bF_ ?_); refine ai_ rfl rfl rfl (ae_ rfl ah_ Tryz.underlying3 rfl rfl) rfl rfl ?_) | ((with_reducible refine bB_ ?_); first | refine ai_ rfl rfl rfl (op_leq rfl rfl) rfl rfl ?_ | refine ai_ rfl rfl rfl (bM_ rfl rfl) rfl rfl ?_ | refine ai_ rfl rfl rfl (op_eql rfl rfl) rfl rfl ?_) | ((with_reducible refine ig_pick ?_); first | refine ai_ rfl rfl rfl (cb_ rfl rfl) rfl rfl ?_ | refine ai_ rfl rfl rfl (ct_ rfl rfl) rfl rfl ?_) | ((with_reducible refine ig_callb ?_); refine ai_ rfl rfl rfl (ax_ rfl Tryz.underlying40) rfl rfl ?_) | (refine aY_ rfl rfl rfl (fun hb => ?_) (fun hb => ?_) <;> (try simp only [aX_, reduceCtorEq] at hb) <;> (try (exfalso; omega)))) | refine ao_ ?_) | refine ap_ ?_)
 all_goals refine rq1 rfl ⟨?_, au_⟩
 all_goals first
   | (congr 1; exact (decide_eq_true (by omega)).symm)
   | (congr 1; exact (decide_eq_false (by omega)).symm)
   | (congr 1; rw [decide_eq_decide]; omega)
end Go.Proofs.YtlioomhcdlicmaaGreatDoor
