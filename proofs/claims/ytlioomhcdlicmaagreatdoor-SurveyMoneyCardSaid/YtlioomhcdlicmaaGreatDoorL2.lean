/- The law SurveyMoney, walked. -/
import Derived.Test.YtlioomhcdlicmaaGreatDoorL1
import Derived.Test.YtlioomhcdlicmaaGreatDoorC8
set_option linter.all false
/- The law SurveyMoney. -/
namespace Go.Proofs.YtlioomhcdlicmaaGreatDoor
open Go Go.Ab Go.Fl
attribute [local irreducible] SeqQ BlkQ LpQ RetQ Wc Wo WD WX Op1 Op1q Op1a Cf Cl From
attribute [local irreducible] Ieee.Format.order Ieee.Format.read Ieee.Format.nearest Ieee.Format.write Ieee.Format.mul Ieee.Format.div Ieee.Format.sqrt Ieee.Datum.order Ieee.Datum.integral K U rngE errN ptE firstNZ vesE watE sgE sgsE allE hitB sqD insB qsL lvl rn rl altB isNameB nmE foE clE accL othL rtE ctE
set_option maxRecDepth 10000
variable {G : Base} {h : H}
attribute [local irreducible] spE numM cauW cnum cauN enE hrK ensE rssE lowN lowD bilC bilE outC freeI cntK fl silN insN levN inL leL diL okL dOk hj
theorem eqv29 (a0 a1 a2 a3 a4 a5 a6 a7 b0 b1 b2 b3 b4 b5 b6 b7 : Int) : eqV Tryz.prog 3 29 [.int .i64 a0, .int .i64 a1, .int .i64 a2, .int .i64 a3, .int .i64 a4, .int .i64 a5, .int .i64 a6, .int .i64 a7] [.int .i64 b0, .int .i64 b1, .int .i64 b2, .int .i64 b3, .int .i64 b4, .int .i64 b5, .int .i64 b6, .int .i64 b7] = some ((decide (a0 = b0) && (decide (a1 = b1) && (decide (a2 = b2) && (decide (a3 = b3) && (decide (a4 = b4) && (decide (a5 = b5) && true)))))) && (decide (a6 = b6) && (decide (a7 = b7) && true))) := by kernel_rfl
theorem eg29 : Tryz.prog.eqGuardType Tryz.prog.depth 29 = false := by kernel_rfl
theorem eqv29_self (a0 a1 a2 a3 a4 a5 a6 a7 : Int) : eqV Tryz.prog 3 29 [.int .i64 a0, .int .i64 a1, .int .i64 a2, .int .i64 a3, .int .i64 a4, .int .i64 a5, .int .i64 a6, .int .i64 a7] [.int .i64 a0, .int .i64 a1, .int .i64 a2, .int .i64 a3, .int .i64 a4, .int .i64 a5, .int .i64 a6, .int .i64 a7] = some true := by
 rw [eqv29]; simp
theorem eqv22_selfM (z0 z1 z2 z3 z4 z5 : Int) : eqV Tryz.prog 3 22 [.int .i64 z0, .int .i64 z1, .int .i64 z2, .int .i64 z3, .int .i64 z4, .int .i64 z5] [.int .i64 z0, .int .i64 z1, .int .i64 z2, .int .i64 z3, .int .i64 z4, .int .i64 z5] = some true := by
 rw [eqv22]; simp
def sumI (i0 i1 i2 i3 i4 i5 i6 : Int) : Nat → Int
 | 0 => i6
 | 1 => i6 + i0
 | 2 => i6 + i0 + i1
 | 3 => i6 + i0 + i1 + i2
 | 4 => i6 + i0 + i1 + i2 + i3
 | 5 => i6 + i0 + i1 + i2 + i3 + i4
 | _ => i6 + i0 + i1 + i2 + i3 + i4 + i5
def sumZ (z0 z2 z3 z5 : Int) : Nat → Int
 | 0 => 0
 | 1 => 0 + z0
 | 2 => 0 + z0 + 0
 | 3 => 0 + z0 + 0 + z2
 | 4 => 0 + z0 + 0 + z2 + z3
 | 5 => 0 + z0 + 0 + z2 + z3 + 0
 | _ => 0 + z0 + 0 + z2 + z3 + 0 + z5
def pcK (D : List En) (k : Nat) : Option ByteArray := if k = 0 then none else some (D.getD (k - 1) ⟨0, 0, .empty⟩).c
theorem dOk_cons {e : En} {D : List En} {a : Int} {pc : Option ByteArray} {T : Int} (hh : dOk (e :: D) a pc T) : e.f = a ∧ a < e.t ∧ pc ≠ some e.c ∧ dOk D e.t (some e.c) T := by unfold dOk at hh; exact hh
theorem dOk_nil {a : Int} {pc : Option ByteArray} {T : Int} (hh : dOk [] a pc T) : a = T := by unfold dOk at hh; exact hh
set_option maxHeartbeats 64000000 in
theorem c9 {c0 c1 c2 c3 c4 c5 c6 c7 c8 x y u v t r sp lo cl so tk : Int} {va sa pa wa ra : Option Addr} {n vc ns sc pm pc wm wc m rc : Nat} {l : List En} {sl : List Sg} {L M0 : List Spn} {rs : List Rs} (s : Sl G h 3 (.slice va n vc) n (l.flatMap En.cells)) (hl : l.length = n) (hnm : n ≤ maxLen) (ss : Sl G h 3 (.slice sa ns sc) ns (sl.flatMap Sg.cells)) (hsl : sl.length = ns) (pp : Sl G h 2 (.slice pa pm pc) pm (L.flatMap Spn.cells)) (hL : L.length = pm) (pw : Sl G h 2 (.slice wa wm wc) wm (M0.flatMap Spn.cells)) (hM0 : M0.length = wm) (sr : Sl G h 3 (.slice ra m rc) m (rs.flatMap Rs.cells)) (hrl : rs.length = m) (hmm : m ≤ maxLen) (hw : Wf h) :
   Cf (mz G) (.func (.func 9) #[] #[]) [.agg ⟨[.int .i64 c0, .int .i64 c1, .int .i64 c2, .int .i64 c3, .int .i64 c4, .int .i64 c5, .int .i64 c6, .int .i64 c7, .int .i64 c8]⟩, .slice va n vc, .agg ⟨[.int .i64 x, .int .i64 y, .int .i64 u, .int .i64 v, .int .i64 t, .int .i64 r, .int .i64 sp, .int .i64 lo, .int .i64 cl, .int .i64 so, .slice sa ns sc, .slice pa pm pc, .slice wa wm wc, .int .i64 tk, .slice ra m rc]⟩] h fun r h' => r = .bool true ∧ Grow h h' := by
 have q38 := fun (h' : H) (g : Grow h h') (w' : Wf h') => c38 (s.grow g) hl hnm w'
 cases hS : shoE l with
 | false =>
   rw [hS] at q38
   refine ak_ 385 [.tmp 6] Tryz.func9 rfl rfl rfl rfl ?_
   repeat' (first | with_reducible refine ad_ ?_ | ((with_reducible refine ac_ ?_); first | ((with_reducible refine bK_ (f := 15) ?_); refine aq_ (aK_ rfl rfl (c15)) ?_) | ((with_reducible refine at_ ?_); (refine as_ rfl rfl rfl rfl (q38 _ au_ aA_) rfl rfl ?_; rintro _ _ ⟨rfl, hq⟩; all_goals (try (have hqn := hq.nx); try simp only [aU_] at hqn))) | ((with_reducible refine cC_ ?_); refine bn_ rfl rfl rfl rfl rfl rfl ?_) | refine ao_ ?_) | refine ap_ ?_)
   exact rq1 rfl ⟨rfl, au_⟩
 | true =>
 rw [hS] at q38
 have hn65 : n ≤ 65 := by
   unfold shoE at hS
   simp only [Bool.and_eq_true, decide_eq_true_eq] at hS
   omega
 have hn : n < 1000000 := by omega
 clear hS
 have q52 := fun (h' : H) (g : Grow h h') (w' : Wf h') => c52 (s.grow g) hl hn w'
 have q53 := fun (h' : H) (g : Grow h h') (w' : Wf h') => c53 (sr.grow g) hrl hmm w'
 cases hS2 : shoR rs with
 | false =>
   rw [hS2] at q53
   refine ak_ 385 [.tmp 6] Tryz.func9 rfl rfl rfl rfl ?_
   repeat' (first | with_reducible refine ad_ ?_ | ((with_reducible refine ac_ ?_); first | ((with_reducible refine bK_ (f := 15) ?_); refine aq_ (aK_ rfl rfl (c15)) ?_) | ((with_reducible refine at_ ?_); (refine as_ rfl rfl rfl rfl (q38 _ au_ aA_) rfl rfl ?_; rintro _ _ ⟨rfl, hq⟩; all_goals (try (have hqn := hq.nx); try simp only [aU_] at hqn))) | ((with_reducible refine cC_ ?_); first | refine bn_ rfl rfl rfl rfl rfl rfl ?_ | ((with_reducible refine bH_ ?_); refine ai_ rfl rfl rfl (aD_ rfl) rfl rfl ?_) | ((with_reducible refine bF_ ?_); refine ai_ rfl rfl rfl (ae_ (b := h.nx + 1) (off := 14) rfl ah_ Tryz.underlying106 rfl rfl) rfl rfl ?_) | ((with_reducible refine ig_un ?_); refine ai_ rfl rfl rfl (cG_ rfl) rfl rfl ?_) | ((with_reducible refine bc_ ?_); refine ai_ rfl rfl rfl (ab_ (o := 14) rfl Tryz.underlying127 rfl zs106 rfl) rfl rfl ?_) | ((with_reducible refine cL_ ?_); first | (refine bx_ rfl rfl rfl rfl rfl rfl (q52 _ au_ aA_) rfl rfl ?_; rintro _ _ ⟨⟨(_ | _), rfl⟩, hq⟩; all_goals (try (have hqn := hq.nx); try simp only [aU_] at hqn)) | (refine bx_ rfl rfl rfl rfl rfl rfl (q53 _ au_ aA_) rfl rfl ?_; rintro _ _ ⟨rfl, hq⟩; all_goals (try (have hqn := hq.nx); try simp only [aU_] at hqn)))) | refine ao_ ?_) | refine ap_ ?_)
   all_goals exact rq1 rfl ⟨rfl, au_⟩
 | true =>
 rw [hS2] at q53
 have hm : m < 1000000 := by
   unfold shoR at hS2
   simp only [Bool.and_eq_true, decide_eq_true_eq] at hS2
   omega
 have hsz : ∀ r ∈ rs, r.nm.size ≤ 1000000 := by
   unfold shoR at hS2
   simp only [Bool.and_eq_true, decide_eq_true_eq, List.all_eq_true] at hS2
   exact fun r hr => by have := hS2.1 r hr; omega
 clear hS2
 have q59 := fun (h' : H) (g : Grow h h') (w' : Wf h') => c59 (c0 := c0) (c1 := c1) (c2 := c2) (c3 := c3) (c4 := c4) (c5 := c5) (c6 := c6) (c7 := c7) (c8 := c8) (s.grow g) hl hn (sr.grow g) hrl hm w' hsz
 by_cases hE : bilE c0 c1 c2 c3 c4 c5 c6 c7 c8 l rs = 0
 case neg =>
   generalize bilE c0 c1 c2 c3 c4 c5 c6 c7 c8 l rs = Y at hE q59
   refine ak_ 385 [.tmp 6] Tryz.func9 rfl rfl rfl rfl ?_
   repeat' (first | with_reducible refine ad_ ?_ | ((with_reducible refine ac_ ?_); first | ((with_reducible refine bK_ (f := 15) ?_); refine aq_ (aK_ rfl rfl (c15)) ?_) | ((with_reducible refine at_ ?_); (refine as_ rfl rfl rfl rfl (q38 _ au_ aA_) rfl rfl ?_; rintro _ _ ⟨rfl, hq⟩; all_goals (try (have hqn := hq.nx); try simp only [aU_] at hqn))) | ((with_reducible refine cC_ ?_); first | refine bn_ rfl rfl rfl rfl rfl rfl ?_ | ((with_reducible refine bH_ ?_); refine ai_ rfl rfl rfl (aD_ rfl) rfl rfl ?_) | ((with_reducible refine bF_ ?_); first | refine ai_ rfl rfl rfl (aj_ (b := h.nx) (off := 0) rfl ah_ Tryz.underlying105 rfl zs105 rfl rfl) rfl rfl ?_ | refine ai_ rfl rfl rfl (ae_ (b := h.nx + 1) (off := 14) rfl ah_ Tryz.underlying106 rfl rfl) rfl rfl ?_) | ((with_reducible refine ig_un ?_); refine ai_ rfl rfl rfl (cG_ rfl) rfl rfl ?_) | ((with_reducible refine bc_ ?_); refine ai_ rfl rfl rfl (ab_ (o := 14) rfl Tryz.underlying127 rfl zs106 rfl) rfl rfl ?_) | ((with_reducible refine bB_ ?_); refine ai_ rfl rfl rfl (cH_ rfl rfl) rfl rfl ?_) | ((with_reducible refine cL_ ?_); first | (refine bx_ rfl rfl rfl rfl rfl rfl (q52 _ au_ aA_) rfl rfl ?_; rintro _ _ ⟨⟨(_ | _), rfl⟩, hq⟩; all_goals (try (have hqn := hq.nx); try simp only [aU_] at hqn)) | (refine bx_ rfl rfl rfl rfl rfl rfl (q53 _ au_ aA_) rfl rfl ?_; rintro _ _ ⟨rfl, hq⟩; all_goals (try (have hqn := hq.nx); try simp only [aU_] at hqn)) | (refine bx_ rfl rfl rfl rfl rfl rfl (q59 _ au_ aA_) rfl rfl ?_; rintro _ _ ⟨rfl, hq⟩; all_goals (try (have hqn := hq.nx); try simp only [aU_] at hqn)))) | refine ao_ ?_) | refine ap_ ?_ | (refine aG_ rfl (fun hb => ?_) (fun hb => aw_ hb); (try simp only [aX_, reduceCtorEq] at hb)))
   all_goals exact rq1 rfl ⟨rfl, au_⟩
 rw [hE] at q59
 obtain ⟨hct, hen, hrs⟩ := bilE_parts hE
 obtain ⟨h64, hv⟩ := ens_ok hen
 obtain ⟨-, -, ⟨r2, s2⟩, -, -, -, ⟨r6, s6⟩, -⟩ := ct_ok hct
 obtain ⟨i0, i1, i2, i3, i4, i5, i6, i7, hI, hsum, ⟨b0, b1, b2, b3, b4, b5, b6⟩, hmore⟩ := bil_facts hE
 obtain ⟨hEm, hIm⟩ := bilC_rm hE
 obtain ⟨henm, hhm⟩ := rm_good hen
 have hmd : mgdL l = rm l := by unfold mgdL; rw [if_pos hen]
 have hml := rm_len l
 have q40 := fun (h' : H) (g : Grow h h') (w' : Wf h') => cf_formW (c40 (s.grow g) hl hn w')
 have q55 := fun (h' : H) (g : Grow h h') (w' : Wf h') => cf_formW (c55 (sr.grow g) hrl hm w')
 have q56 := fun (h' : H) (a b : Option Addr) (c d : Nat) (s1 : Sl G h' 3 (.slice a n c) n (l.flatMap En.cells)) (s2 : Sl G h' 3 (.slice b m d) m (rs.flatMap Rs.cells)) (w' : Wf h') => c56 (c0 := c0) (c1 := c1) (c2 := c2) (c3 := c3) (c4 := c4) (c5 := c5) (c6 := c6) (c7 := c7) (c8 := c8) s1 hl hn s2 hrl hm w'
 have q57 := fun (h' : H) (a b : Option Addr) (c d : Nat) (s1 : Sl G h' 3 (.slice a n c) n (l.flatMap En.cells)) (s2 : Sl G h' 3 (.slice b m d) m (rs.flatMap Rs.cells)) (w' : Wf h') => c57 (c0 := c0) (c1 := c1) (c2 := c2) (c3 := c3) (c4 := c4) (c5 := c5) (c6 := c6) (c7 := c7) (c8 := c8) s1 hl hn s2 hrl hm w'
 have q56N := fun (hc : (hrK l l.length).getD 2 0 > c6 ∧ c6 < 100000) (h' : H) (a b : Option Addr) (c d : Nat) (s1 : Sl G h' 3 (.slice a n c) n (l.flatMap En.cells)) (s2 : Sl G h' 3 (.slice b m d) m (rs.flatMap Rs.cells)) (w' : Wf h') => (c56 (c0 := c0) (c1 := c1) (c2 := c2) (c3 := c3) (c4 := c4) (c5 := c5) (c6 := c6 + 1) (c7 := c7) (c8 := c8) s1 hl hn s2 hrl hm w').mono (Q' := fun r h2 => r = .tuple #[.agg ⟨[.int .i64 i0, .int .i64 i1, .int .i64 (i2 - c2), .int .i64 i3, .int .i64 i4, .int .i64 i5, .int .i64 i6, .int .i64 (i7 - c2)]⟩, .int .i64 0] ∧ Grow h' h2) (fun r h2 q => by rw [(hmore hc.1 hc.2).1, (hmore hc.1 hc.2).2] at q; exact q)
 have q39 := fun (h' : H) (v : Value) (s1 : Sl G h' 3 v n (l.flatMap En.cells)) (w' : Wf h') => c39 s1 hl hn w'
 have q41 := fun (h' : H) (v : Value) (s1 : Sl G h' 3 v n (l.flatMap En.cells)) (w' : Wf h') => c41 s1 hl hn w'
 have hHl : hrE l n = hrK l l.length := by unfold hrE; rw [if_neg (by simpa using hen), hl]
 obtain ⟨y0, y1, y2, y3, y4, y5, hy⟩ := six (hrK_len (l := l) l.length)
 rw [hHl, hy, hen] at q41
 rw [hI, hE] at q56 q57
 rw [hmd, hen] at q39
 rw [hI] at hIm
 rw [hy] at hhm q56N
 simp only [List.getD, List.getElem?_cons_zero, List.getElem?_cons_succ, Option.getD_some] at q56N
 dsimp only [List.map] at q41
 obtain ⟨M, hM⟩ : ∃ M, rm l = M := ⟨_, rfl⟩
 rw [hM] at q39 hEm hIm henm hhm hml
 obtain ⟨K, hK⟩ : ∃ k, M.length = k := ⟨_, rfl⟩
 rw [hK] at q39 hhm hml
 have q51M := fun (h' : H) (v : Value) (s1 : Sl G h' 3 v K (M.flatMap En.cells)) (w' : Wf h') => cf_formW (c51 s1 hK (by omega) w')
 have q40M := fun (h' : H) (v : Value) (s1 : Sl G h' 3 v K (M.flatMap En.cells)) (w' : Wf h') => cf_formW (c40 s1 hK (by omega) w')
 have q43M := fun (h' : H) (v : Value) (s1 : Sl G h' 3 v K (M.flatMap En.cells)) (w' : Wf h') => c43 s1 hK (by omega) w'
 have q41M := fun (h' : H) (v : Value) (s1 : Sl G h' 3 v K (M.flatMap En.cells)) (w' : Wf h') => c41 s1 hK (by omega) w'
 have hHm : hrE M K = hrK M K := by unfold hrE; rw [if_neg (by simpa using henm)]
 rw [hHm, hhm, henm] at q41M
 rw [henm] at q43M
 dsimp only [List.map] at q41M
 have q56M := fun (h' : H) (a b : Option Addr) (c d : Nat) (s1 : Sl G h' 3 (.slice a K c) K (M.flatMap En.cells)) (s2 : Sl G h' 3 (.slice b m d) m (rs.flatMap Rs.cells)) (w' : Wf h') => c56 (c0 := c0) (c1 := c1) (c2 := c2) (c3 := c3) (c4 := c4) (c5 := c5) (c6 := c6) (c7 := c7) (c8 := c8) s1 hK (by omega) s2 hrl hm w'
 rw [hIm, hEm] at q56M
 have q12 := fun (h' : H) (w' : Wf h') => (c12 (G := G) (h := h') (a0 := i0) (a1 := i1) (a2 := i2) (a3 := i3) (a4 := i4) (a5 := i5) (a6 := i6) (a7 := i7) (b0 := i0) (b1 := i1) (b2 := i2) (b3 := i3) (b4 := i4) (b5 := i5) (b6 := i6) (b7 := i7) w').mono (Q' := fun r h2 => (∃ a c, r = .tuple #[.slice a 0 c, .int .i64 0]) ∧ Grow h' h2) (fun r h2 ⟨⟨X, e, s⟩, g⟩ => by
   rw [difL_self] at s
   obtain ⟨a, c, rfl⟩ := s.form
   exact ⟨⟨a, c, e⟩, g⟩)
 have q16 := fun (h' : H) (w' : Wf h') => c16 (G := G) (h := h') (x := x) (y := y) (u := u) (v := v) (t := t) (a := sa) (n := ns) (c := sc) w'
 have q65a := fun (h' : H) (w' : Wf h') => c65 (G := G) (h := h') (a := pa) (n := pm) (c := pc) w'
 have q65b := fun (h' : H) (w' : Wf h') => c65 (G := G) (h := h') (a := wa) (n := wm) (c := wc) w'
 have eqI := eqv29_self i0 i1 i2 i3 i4 i5 i6 i7
 have eqJ := eqv29_self i0 i1 (i2 - c2) i3 i4 i5 i6 (i7 - c2)
 have eqH := eqv22_selfM y0 y1 y2 y3 y4 y5
 clear hM hI hIm hEm hE hmd hmore hHl hHm hen henm hhm hv hct hrs
 refine ak_ 385 [.tmp 6] Tryz.func9 rfl rfl rfl rfl ?_
 refine bq_ (ι := Unit) (fun _ => [(1, .slice va n vc), (3, .pointer (some ⟨h.nx, 0, some 0⟩)), (5, .pointer (some ⟨h.nx + 1, 0, some 0⟩))]) (fun _ h' => (Wf h' ∧ Grow h h') ∧ At h' h.nx (.cells [.int .i64 c0, .int .i64 c1, .int .i64 c2, .int .i64 c3, .int .i64 c4, .int .i64 c5, .int .i64 c6, .int .i64 c7, .int .i64 c8] 105 9 false) ∧ At h' (h.nx + 1) (.cells [.int .i64 x, .int .i64 y, .int .i64 u, .int .i64 v, .int .i64 t, .int .i64 r, .int .i64 sp, .int .i64 lo, .int .i64 cl, .int .i64 so, .slice sa ns sc, .slice pa pm pc, .slice wa wm wc, .int .i64 tk, .slice ra m rc] 127 15 false)) ?_ ?_
 · repeat' (first | with_reducible refine ad_ ?_ | ((with_reducible refine ac_ ?_); refine ao_ ?_) | with_reducible refine bk_ ?_)
   exact ⟨rfl, (), af_ ⟨rfl, rfl, rfl, trivial⟩, ⟨aA_, au_⟩, ah_, ah_⟩
 rintro _ h1 ⟨⟨w1, g1⟩, aC, aD⟩
 refine wc_midB (ι := Unit) (fun _ => [(1, .slice va n vc), (3, .pointer (some ⟨h.nx, 0, some 0⟩)), (5, .pointer (some ⟨h.nx + 1, 0, some 0⟩))]) (fun _ h' => (Wf h' ∧ Grow h1 h')) ?_ ?_
 · clear q40 q40M q51M q43M q39 q41 q41M q55 q56 q56M q56N q57 q12 q16 q65a q65b
   have n1 := g1.nx
   have l_aC := aC.lt
   have l_aD := aD.lt
   repeat' (first | with_reducible refine ad_ ?_ | ((with_reducible refine ac_ ?_); first | ((with_reducible refine bK_ (f := 15) ?_); refine aq_ (aK_ rfl rfl (c15)) ?_) | ((with_reducible refine at_ ?_); (refine as_ rfl rfl rfl rfl (q38 _ (g1.trans au_) aA_) rfl rfl ?_; rintro _ _ ⟨rfl, hq⟩; all_goals (try (have hqn := hq.nx); try simp only [aU_] at hqn))) | ((with_reducible refine cC_ ?_); first | refine bn_ rfl rfl rfl rfl rfl rfl ?_ | ((with_reducible refine bH_ ?_); refine ai_ rfl rfl rfl (aD_ rfl) rfl rfl ?_) | ((with_reducible refine bF_ ?_); first | refine ai_ rfl rfl rfl (aj_ (b := h.nx) (off := 0) rfl ah_ Tryz.underlying105 rfl zs105 rfl rfl) rfl rfl ?_ | refine ai_ rfl rfl rfl (ae_ (b := h.nx + 1) (off := 14) rfl ah_ Tryz.underlying106 rfl rfl) rfl rfl ?_) | ((with_reducible refine ig_un ?_); refine ai_ rfl rfl rfl (cG_ rfl) rfl rfl ?_) | ((with_reducible refine bc_ ?_); refine ai_ rfl rfl rfl (ab_ (o := 14) rfl Tryz.underlying127 rfl zs106 rfl) rfl rfl ?_) | ((with_reducible refine bB_ ?_); refine ai_ rfl rfl rfl (cH_ rfl rfl) rfl rfl ?_) | ((with_reducible refine cL_ ?_); first | (refine bx_ rfl rfl rfl rfl rfl rfl (q52 _ (g1.trans au_) aA_) rfl rfl ?_; rintro _ _ ⟨⟨(_ | _), rfl⟩, hq⟩; all_goals (try (have hqn := hq.nx); try simp only [aU_] at hqn)) | (refine bx_ rfl rfl rfl rfl rfl rfl (q53 _ (g1.trans au_) aA_) rfl rfl ?_; rintro _ _ ⟨rfl, hq⟩; all_goals (try (have hqn := hq.nx); try simp only [aU_] at hqn)) | (refine bx_ rfl rfl rfl rfl rfl rfl (q59 _ (g1.trans au_) aA_) rfl rfl ?_; rintro _ _ ⟨rfl, hq⟩; all_goals (try (have hqn := hq.nx); try simp only [aU_] at hqn)))) | refine ao_ ?_) | refine ap_ ?_)
   · exact .inr ⟨rfl, rq1 rfl ⟨rfl, g1.trans au_⟩⟩
   exact .inl ⟨rfl, (), af_ ⟨rfl, rfl, rfl, trivial⟩, ⟨aA_, au_⟩⟩
 clear w1
 rintro _ h2 ⟨w1, g2⟩
 have aC := aC.grow g2
 have aD := aD.grow g2
 have g1 := g1.trans g2
 clear g2
 clear q38 q52 q53 q59
 refine bq_ (ι := Nat) (fun b7 => [(1, .slice va n vc), (3, .pointer (some ⟨h.nx, 0, some 0⟩)), (5, .pointer (some ⟨h.nx + 1, 0, some 0⟩)), (7, .pointer (some ⟨b7, 0, some 0⟩)), (8, .int .i64 (0))]) (fun b7 h' => (Wf h' ∧ Grow h2 h') ∧ At h' b7 (.cells [.int .i64 i0, .int .i64 i1, .int .i64 i2, .int .i64 i3, .int .i64 i4, .int .i64 i5, .int .i64 i6, .int .i64 i7] 29 8 false)) ?_ ?_
 · clear q40M q51M q43M q39 q41 q41M q56M q56N q57 q12 q16 q65a q65b
   have n1 := g1.nx
   have l_aC := aC.lt
   have l_aD := aD.lt
   repeat' (first | ((with_reducible refine bb_ ?_); first | ((with_reducible refine bd_ ?_); first | ((with_reducible refine ba_ ?_); refine aH_ (aa_ rfl) rfl rfl (ar_ rfl (aD_ rfl)) rfl rfl rfl ?_) | ((with_reducible refine aZ_ ?_); first | refine aO_ (aa_ rfl) rfl (ar_ rfl (aj_ (b := h.nx) (off := 0) rfl ah_ Tryz.underlying105 rfl zs105 rfl rfl)) rfl rfl rfl ?_ | refine aO_ (aa_ rfl) rfl (ar_ rfl (ae_ (b := h.nx + 1) (off := 14) rfl ah_ Tryz.underlying106 rfl rfl)) rfl rfl rfl ?_) | ((with_reducible refine aC_ ?_); refine aH_ (aa_ rfl) rfl rfl (ar_ rfl (ab_ (o := 14) rfl Tryz.underlying127 rfl zs106 rfl)) rfl rfl rfl ?_) | ((with_reducible refine xk_extract ?_); refine aH_ (aa_ rfl) rfl rfl (ar_ rfl (op_extract rfl rfl)) rfl rfl rfl ?_) | ((with_reducible refine xk_alloc ?_); refine wx_a0 (aa_ rfl) rfl (oa_alloc zz29 zs29 rfl rfl rfl) rfl rfl ?_) | ((with_reducible refine aV_ ?_); first | (refine aM_ (aa_ rfl) rfl rfl rfl rfl (q40 _ (g1.trans au_) aA_) rfl rfl ?_; rintro _ _ ⟨⟨a1, d1, rfl, s1⟩, hq⟩; all_goals (try (have hqn := hq.nx); try simp only [aU_] at hqn)) | (refine aM_ (aa_ rfl) rfl rfl rfl rfl (q55 _ (g1.trans au_) aA_) rfl rfl ?_; rintro _ _ ⟨⟨a2, d2, rfl, s2⟩, hq⟩; all_goals (try (have hqn := hq.nx); try simp only [aU_] at hqn)) | (refine aM_ (aa_ rfl) rfl rfl rfl rfl (q56 _ _ _ _ _ (s1.grow au_) (s2.grow au_) aA_) rfl rfl ?_; rintro _ _ ⟨rfl, hq⟩; all_goals (try (have hqn := hq.nx); try simp only [aU_] at hqn)))) | ((with_reducible refine bm_ ?_); refine aH_ (aa_ rfl) rfl rfl (ar_ rfl (aW_ rfl)) rfl rfl rfl ?_) | ((with_reducible refine bN_ ?_); ((with_reducible refine cq_ ?_); refine wx_e01 (aa_ rfl) rfl rfl rfl (aB_ rfl rfl ah_ zs29 rfl rfl rfl rfl) rfl ?_)) | refine bU_ ?_ ?_ rfl rfl ?_) | with_reducible exact aP_ | with_reducible refine aJ_ ?_ ?_ | ((with_reducible refine bi_ ?_); first | exact aS_ | refine aQ_ rfl ?_ | refine am_ rfl rfl (ar_ rfl (aj_ (b := h.nx) (off := 0) rfl ah_ Tryz.underlying105 rfl zs105 (by rfl) rfl)) ?_ | refine am_ rfl rfl (ar_ rfl (ae_ (b := h.nx + 1) (off := 14) rfl ah_ Tryz.underlying106 rfl (by rfl))) ?_) | with_reducible exact bV_ | with_reducible refine bE_ ?_ ?_ | ((with_reducible refine ck_ ?_); first | exact bW_ rfl rfl | exact bu_ rfl rfl aA_ gr_B) | refine aF_ (id := 3) 13 [0, 0, 2, 0, 8, 30, 63, 127, 255, 255, 0, 1535, 4095] [0, 1, 2, 3, 4, 5, 6, 7, 8, 9, 10, 11, 12] (by kernel_rfl) (by kernel_rfl) rfl rfl ?_)
   exact ⟨rfl, _, af_ ⟨rfl, rfl, rfl, rfl, rfl, trivial⟩, ⟨aA_, au_⟩, ah_⟩
 clear w1
 rintro b7 h3 ⟨⟨w1, g2⟩, a7⟩
 have aC := aC.grow g2
 have aD := aD.grow g2
 have g1 := g1.trans g2
 clear g2
 refine bq_ (ι := Nat) (fun b9 => [(1, .slice va n vc), (3, .pointer (some ⟨h.nx, 0, some 0⟩)), (5, .pointer (some ⟨h.nx + 1, 0, some 0⟩)), (7, .pointer (some ⟨b7, 0, some 0⟩)), (8, .int .i64 (0)), (9, .pointer (some ⟨b9, 0, some 0⟩)), (10, .int .i64 (0))]) (fun b9 h' => (Wf h' ∧ Grow h3 h') ∧ At h' b9 (.cells [.int .i64 i0, .int .i64 i1, .int .i64 i2, .int .i64 i3, .int .i64 i4, .int .i64 i5, .int .i64 i6, .int .i64 i7] 29 8 false)) ?_ ?_
 · clear q40M q51M q43M q39 q41 q41M q56 q56M q56N q12 q16 q65a q65b
   have n1 := g1.nx
   have l_aC := aC.lt
   have l_aD := aD.lt
   have l_a7 := a7.lt
   repeat' (first | ((with_reducible refine bb_ ?_); first | ((with_reducible refine bd_ ?_); first | ((with_reducible refine ba_ ?_); refine aH_ (aa_ rfl) rfl rfl (ar_ rfl (aD_ rfl)) rfl rfl rfl ?_) | ((with_reducible refine aZ_ ?_); first | refine aO_ (aa_ rfl) rfl (ar_ rfl (aj_ (b := h.nx) (off := 0) rfl ah_ Tryz.underlying105 rfl zs105 rfl rfl)) rfl rfl rfl ?_ | refine aO_ (aa_ rfl) rfl (ar_ rfl (ae_ (b := h.nx + 1) (off := 14) rfl ah_ Tryz.underlying106 rfl rfl)) rfl rfl rfl ?_) | ((with_reducible refine aC_ ?_); refine aH_ (aa_ rfl) rfl rfl (ar_ rfl (ab_ (o := 14) rfl Tryz.underlying127 rfl zs106 rfl)) rfl rfl rfl ?_) | ((with_reducible refine xk_extract ?_); refine aH_ (aa_ rfl) rfl rfl (ar_ rfl (op_extract rfl rfl)) rfl rfl rfl ?_) | ((with_reducible refine xk_alloc ?_); refine wx_a0 (aa_ rfl) rfl (oa_alloc zz29 zs29 rfl rfl rfl) rfl rfl ?_) | ((with_reducible refine aV_ ?_); first | (refine aM_ (aa_ rfl) rfl rfl rfl rfl (q40 _ (g1.trans au_) aA_) rfl rfl ?_; rintro _ _ ⟨⟨a1, d1, rfl, s1⟩, hq⟩; all_goals (try (have hqn := hq.nx); try simp only [aU_] at hqn)) | (refine aM_ (aa_ rfl) rfl rfl rfl rfl (q55 _ (g1.trans au_) aA_) rfl rfl ?_; rintro _ _ ⟨⟨a2, d2, rfl, s2⟩, hq⟩; all_goals (try (have hqn := hq.nx); try simp only [aU_] at hqn)) | (refine aM_ (aa_ rfl) rfl rfl rfl rfl (q57 _ _ _ _ _ (s1.grow au_) (s2.grow au_) aA_) rfl rfl ?_; rintro _ _ ⟨rfl, hq⟩; all_goals (try (have hqn := hq.nx); try simp only [aU_] at hqn)))) | ((with_reducible refine bm_ ?_); refine aH_ (aa_ rfl) rfl rfl (ar_ rfl (aW_ rfl)) rfl rfl rfl ?_) | ((with_reducible refine bN_ ?_); ((with_reducible refine cq_ ?_); refine wx_e01 (aa_ rfl) rfl rfl rfl (aB_ rfl rfl ah_ zs29 rfl rfl rfl rfl) rfl ?_)) | refine bU_ ?_ ?_ rfl rfl ?_) | with_reducible exact aP_ | with_reducible refine aJ_ ?_ ?_ | ((with_reducible refine bi_ ?_); first | exact aS_ | refine aQ_ rfl ?_ | refine am_ rfl rfl (ar_ rfl (aj_ (b := h.nx) (off := 0) rfl ah_ Tryz.underlying105 rfl zs105 (by rfl) rfl)) ?_ | refine am_ rfl rfl (ar_ rfl (ae_ (b := h.nx + 1) (off := 14) rfl ah_ Tryz.underlying106 rfl (by rfl))) ?_) | with_reducible exact bV_ | with_reducible refine bE_ ?_ ?_ | ((with_reducible refine ck_ ?_); first | exact bW_ rfl rfl | exact bu_ rfl rfl aA_ gr_B) | refine aF_ (id := 4) 13 [0, 0, 2, 0, 8, 30, 63, 127, 255, 255, 0, 1535, 4095] [0, 1, 2, 3, 4, 5, 6, 7, 8, 9, 10, 11, 12] (by kernel_rfl) (by kernel_rfl) rfl rfl ?_)
   exact ⟨rfl, _, af_ ⟨rfl, rfl, rfl, rfl, rfl, rfl, rfl, trivial⟩, ⟨aA_, au_⟩, ah_⟩
 clear w1 q57
 rintro b9 h4 ⟨⟨w1, g2⟩, a9⟩
 have aC := aC.grow g2
 have aD := aD.grow g2
 have a7 := a7.grow g2
 have g1 := g1.trans g2
 clear g2
 refine bq_ (ι := Option Addr × Nat) (fun z => [(1, .slice va n vc), (3, .pointer (some ⟨h.nx, 0, some 0⟩)), (5, .pointer (some ⟨h.nx + 1, 0, some 0⟩)), (7, .pointer (some ⟨b7, 0, some 0⟩)), (8, .int .i64 (0)), (9, .pointer (some ⟨b9, 0, some 0⟩)), (10, .int .i64 (0)), (11, .slice z.1 0 z.2), (12, .int .i64 (0))]) (fun z h' => (Wf h' ∧ Grow h4 h')) ?_ ?_
 · clear q40 q40M q51M q43M q39 q41 q41M q55 q56 q56M q56N q16 q65a q65b
   have n1 := g1.nx
   have l_aC := aC.lt
   have l_aD := aD.lt
   have l_a7 := a7.lt
   have l_a9 := a9.lt
   repeat' (first | with_reducible refine ad_ ?_ | ((with_reducible refine ac_ ?_); first | ((with_reducible refine al_ ?_); first | refine aq_ (aj_ (b := b7) (off := 0) rfl ah_ Tryz.underlying29 rfl zs29 rfl rfl) ?_ | refine aq_ (aj_ (b := b9) (off := 0) rfl ah_ Tryz.underlying29 rfl zs29 rfl rfl) ?_) | ((with_reducible refine at_ ?_); (refine as_ rfl rfl rfl rfl (q12 _ aA_) rfl rfl ?_; rintro _ _ ⟨⟨ea, ec, rfl⟩, hq⟩; all_goals (try (have hqn := hq.nx); try simp only [aU_] at hqn))) | refine ao_ ?_) | with_reducible refine bk_ ?_)
   exact ⟨rfl, (ea, ec), af_ ⟨rfl, rfl, rfl, rfl, rfl, rfl, rfl, rfl, rfl, trivial⟩, ⟨aA_, au_⟩⟩
 clear w1 q12
 rintro z h5 ⟨w1, g2⟩
 have aC := aC.grow g2
 have aD := aD.grow g2
 have a7 := a7.grow g2
 have a9 := a9.grow g2
 have g1 := g1.trans g2
 clear g2
 refine bq_ (ι := Option Addr × Nat) (fun ym => [(1, .slice va n vc), (3, .pointer (some ⟨h.nx, 0, some 0⟩)), (5, .pointer (some ⟨h.nx + 1, 0, some 0⟩)), (7, .pointer (some ⟨b7, 0, some 0⟩)), (8, .int .i64 (0)), (9, .pointer (some ⟨b9, 0, some 0⟩)), (10, .int .i64 (0)), (11, .slice z.1 0 z.2), (12, .int .i64 (0)), (13, .slice ym.1 K ym.2), (14, .int .i64 (0))]) (fun ym h' => (Wf h' ∧ Grow h5 h') ∧ Sl G h' 3 (.slice ym.1 K ym.2) K (M.flatMap En.cells)) ?_ ?_
 · clear q40M q51M q43M q41 q41M q55 q56 q56M q56N q16 q65a q65b
   have n1 := g1.nx
   have l_aC := aC.lt
   have l_aD := aD.lt
   have l_a7 := a7.lt
   have l_a9 := a9.lt
   repeat' (first | with_reducible refine ad_ ?_ | ((with_reducible refine ac_ ?_); first | ((with_reducible refine at_ ?_); first | (refine as_ rfl rfl rfl rfl (q40 _ (g1.trans au_) aA_) rfl rfl ?_; rintro _ _ ⟨⟨a1, d1, rfl, s1⟩, hq⟩; all_goals (try (have hqn := hq.nx); try simp only [aU_] at hqn)) | (refine as_ rfl rfl rfl rfl (q39 _ _ (s1.grow au_) aA_) rfl rfl ?_; rintro _ _ ⟨⟨ma, mc, rfl, sm0⟩, hq⟩; all_goals (try (have hqn := hq.nx); try simp only [aU_] at hqn))) | refine ao_ ?_) | with_reducible refine bk_ ?_)
   exact ⟨rfl, (ma, mc), af_ ⟨rfl, rfl, rfl, rfl, rfl, rfl, rfl, rfl, rfl, rfl, rfl, trivial⟩, ⟨aA_, au_⟩, sm0.grow au_⟩
 clear w1 q39
 rintro ym h6 ⟨⟨w1, g2⟩, sm⟩
 have aC := aC.grow g2
 have aD := aD.grow g2
 have a7 := a7.grow g2
 have a9 := a9.grow g2
 have g1 := g1.trans g2
 clear g2
 refine bq_ (ι := Unit) (fun _ => [(1, .slice va n vc), (3, .pointer (some ⟨h.nx, 0, some 0⟩)), (5, .pointer (some ⟨h.nx + 1, 0, some 0⟩)), (7, .pointer (some ⟨b7, 0, some 0⟩)), (13, .slice ym.1 K ym.2)]) (fun _ h' => (Wf h' ∧ Grow h6 h')) ?_ ?_
 · clear q40 q40M q41 q41M q55 q56 q56M q56N q16 q65a q65b
   have n1 := g1.nx
   have l_aC := aC.lt
   have l_aD := aD.lt
   have l_a7 := a7.lt
   have l_a9 := a9.lt
   repeat' (first | with_reducible refine ad_ ?_ | ((with_reducible refine ac_ ?_); first | ((with_reducible refine cC_ ?_); first | ((with_reducible refine bH_ ?_); refine ai_ rfl rfl rfl (aD_ rfl) rfl rfl ?_) | ((with_reducible refine bF_ ?_); first | refine ai_ rfl rfl rfl (aj_ (b := b7) (off := 0) rfl ah_ Tryz.underlying29 rfl zs29 rfl rfl) rfl rfl ?_ | refine ai_ rfl rfl rfl (aj_ (b := b9) (off := 0) rfl ah_ Tryz.underlying29 rfl zs29 rfl rfl) rfl rfl ?_) | ((with_reducible refine bB_ ?_); first | refine ai_ rfl rfl rfl (op_neT 3 rfl rfl rfl Tryz.underlying29 rfl eg29 eqI) rfl rfl ?_ | refine ai_ rfl rfl rfl (cH_ rfl rfl) rfl rfl ?_ | refine ai_ rfl rfl rfl (bM_ rfl rfl) rfl rfl ?_) | ((with_reducible refine ig_callb ?_); first | refine ai_ rfl rfl rfl (ax_ rfl Tryz.underlying25) rfl rfl ?_ | refine ai_ rfl rfl rfl (ax_ rfl Tryz.underlying85) rfl rfl ?_ | refine ai_ rfl rfl rfl (ax_ rfl Tryz.underlying83) rfl rfl ?_) | ((with_reducible refine cL_ ?_); first | (refine bx_ rfl rfl rfl rfl rfl rfl (q51M _ _ (sm.grow au_) aA_) rfl rfl ?_; rintro _ _ ⟨⟨oa, od, rfl, so1⟩, hq⟩; all_goals (try (have hqn := hq.nx); try simp only [aU_] at hqn)) | (refine bx_ rfl rfl rfl rfl rfl rfl (q43M _ _ (so1.grow au_) aA_) rfl rfl ?_; rintro _ _ ⟨rfl, hq⟩; all_goals (try (have hqn := hq.nx); try simp only [aU_] at hqn)))) | refine ao_ ?_) | refine ap_ ?_ | (refine aG_ rfl (fun hb => aw_ hb) (fun hb => ?_); (try simp only [aX_, reduceCtorEq] at hb)))
   exact ⟨rfl, (), af_ ⟨rfl, rfl, rfl, rfl, rfl, trivial⟩, ⟨aA_, au_⟩⟩
 clear w1 q43M
 rintro _ h7 ⟨w1, g2⟩
 clear a9
 have aC := aC.grow g2
 have aD := aD.grow g2
 have a7 := a7.grow g2
 have sm := sm.grow g2
 have g1 := g1.trans g2
 clear g2
 refine bq_ (ι := Nat) (fun b15 => [(1, .slice va n vc), (3, .pointer (some ⟨h.nx, 0, some 0⟩)), (5, .pointer (some ⟨h.nx + 1, 0, some 0⟩)), (7, .pointer (some ⟨b7, 0, some 0⟩)), (13, .slice ym.1 K ym.2), (15, .pointer (some ⟨b15, 0, some 0⟩)), (16, .int .i64 (0))]) (fun b15 h' => (Wf h' ∧ Grow h7 h') ∧ At h' b15 (.cells [.int .i64 i0, .int .i64 i1, .int .i64 i2, .int .i64 i3, .int .i64 i4, .int .i64 i5, .int .i64 i6, .int .i64 i7] 29 8 false)) ?_ ?_
 · clear q40 q41 q41M q56 q56N q16 q65a q65b
   have n1 := g1.nx
   have l_aC := aC.lt
   have l_aD := aD.lt
   have l_a7 := a7.lt
   repeat' (first | ((with_reducible refine bb_ ?_); first | ((with_reducible refine bd_ ?_); first | ((with_reducible refine ba_ ?_); refine aH_ (aa_ rfl) rfl rfl (ar_ rfl (aD_ rfl)) rfl rfl rfl ?_) | ((with_reducible refine aZ_ ?_); first | refine aO_ (aa_ rfl) rfl (ar_ rfl (aj_ (b := h.nx) (off := 0) rfl ah_ Tryz.underlying105 rfl zs105 rfl rfl)) rfl rfl rfl ?_ | refine aO_ (aa_ rfl) rfl (ar_ rfl (ae_ (b := h.nx + 1) (off := 14) rfl ah_ Tryz.underlying106 rfl rfl)) rfl rfl rfl ?_) | ((with_reducible refine aC_ ?_); refine aH_ (aa_ rfl) rfl rfl (ar_ rfl (ab_ (o := 14) rfl Tryz.underlying127 rfl zs106 rfl)) rfl rfl rfl ?_) | ((with_reducible refine xk_extract ?_); refine aH_ (aa_ rfl) rfl rfl (ar_ rfl (op_extract rfl rfl)) rfl rfl rfl ?_) | ((with_reducible refine xk_alloc ?_); refine wx_a0 (aa_ rfl) rfl (oa_alloc zz29 zs29 rfl rfl rfl) rfl rfl ?_) | ((with_reducible refine aV_ ?_); first | (refine aM_ (aa_ rfl) rfl rfl rfl rfl (q51M _ _ (sm.grow au_) aA_) rfl rfl ?_; rintro _ _ ⟨⟨oa, od, rfl, so1⟩, hq⟩; all_goals (try (have hqn := hq.nx); try simp only [aU_] at hqn)) | (refine aM_ (aa_ rfl) rfl rfl rfl rfl (q40M _ _ (so1.grow au_) aA_) rfl rfl ?_; rintro _ _ ⟨⟨a3, d3, rfl, s3⟩, hq⟩; all_goals (try (have hqn := hq.nx); try simp only [aU_] at hqn)) | (refine aM_ (aa_ rfl) rfl rfl rfl rfl (q55 _ (g1.trans au_) aA_) rfl rfl ?_; rintro _ _ ⟨⟨a2, d2, rfl, s2⟩, hq⟩; all_goals (try (have hqn := hq.nx); try simp only [aU_] at hqn)) | (refine aM_ (aa_ rfl) rfl rfl rfl rfl (q56M _ _ _ _ _ (s3.grow au_) (s2.grow au_) aA_) rfl rfl ?_; rintro _ _ ⟨rfl, hq⟩; all_goals (try (have hqn := hq.nx); try simp only [aU_] at hqn)))) | ((with_reducible refine bm_ ?_); refine aH_ (aa_ rfl) rfl rfl (ar_ rfl (aW_ rfl)) rfl rfl rfl ?_) | ((with_reducible refine bN_ ?_); ((with_reducible refine cq_ ?_); refine wx_e01 (aa_ rfl) rfl rfl rfl (aB_ rfl rfl ah_ zs29 rfl rfl rfl rfl) rfl ?_)) | refine bU_ ?_ ?_ rfl rfl ?_) | with_reducible exact aP_ | with_reducible refine aJ_ ?_ ?_ | ((with_reducible refine bi_ ?_); first | exact aS_ | refine aQ_ rfl ?_ | refine am_ rfl rfl (ar_ rfl (aj_ (b := h.nx) (off := 0) rfl ah_ Tryz.underlying105 rfl zs105 (by rfl) rfl)) ?_ | refine am_ rfl rfl (ar_ rfl (ae_ (b := h.nx + 1) (off := 14) rfl ah_ Tryz.underlying106 rfl (by rfl))) ?_) | with_reducible exact bV_ | with_reducible refine bE_ ?_ ?_ | ((with_reducible refine ck_ ?_); first | exact bW_ rfl rfl | exact bu_ rfl rfl aA_ gr_B) | refine aF_ (id := 9) 14 [0, 0, 2, 6, 0, 16, 62, 127, 255, 511, 511, 0, 3071, 8191] [0, 1, 2, 3, 4, 5, 6, 7, 8, 9, 10, 11, 12, 13] (by kernel_rfl) (by kernel_rfl) rfl rfl ?_)
   exact ⟨rfl, _, af_ ⟨rfl, rfl, rfl, rfl, rfl, rfl, rfl, trivial⟩, ⟨aA_, au_⟩, ah_⟩
 clear w1 q56M
 rintro b15 h8 ⟨⟨w1, g2⟩, a15⟩
 have aC := aC.grow g2
 have aD := aD.grow g2
 have a7 := a7.grow g2
 have sm := sm.grow g2
 have g1 := g1.trans g2
 clear g2
 refine bq_ (ι := Nat) (fun b17 => [(1, .slice va n vc), (3, .pointer (some ⟨h.nx, 0, some 0⟩)), (5, .pointer (some ⟨h.nx + 1, 0, some 0⟩)), (7, .pointer (some ⟨b7, 0, some 0⟩)), (13, .slice ym.1 K ym.2), (15, .pointer (some ⟨b15, 0, some 0⟩)), (16, .int .i64 (0)), (17, .pointer (some ⟨b17, 0, some 0⟩)), (18, .int .i64 (0))]) (fun b17 h' => (Wf h' ∧ Grow h8 h') ∧ At h' b17 (.cells [.int .i64 y0, .int .i64 y1, .int .i64 y2, .int .i64 y3, .int .i64 y4, .int .i64 y5] 22 6 false)) ?_ ?_
 · clear q40M q51M q41M q55 q56 q56N q16 q65a q65b
   have n1 := g1.nx
   have l_aC := aC.lt
   have l_aD := aD.lt
   have l_a7 := a7.lt
   have l_a15 := a15.lt
   repeat' (first | with_reducible refine ad_ ?_ | ((with_reducible refine ac_ ?_); first | ((with_reducible refine ay_ ?_); refine bQ_ (aB_ rfl rfl ah_ zs22 rfl rfl rfl rfl) ?_) | ((with_reducible refine at_ ?_); first | (refine as_ rfl rfl rfl rfl (q40 _ (g1.trans au_) aA_) rfl rfl ?_; rintro _ _ ⟨⟨a1, d1, rfl, s1⟩, hq⟩; all_goals (try (have hqn := hq.nx); try simp only [aU_] at hqn)) | (refine as_ rfl rfl rfl rfl (q41 _ _ (s1.grow au_) aA_) rfl rfl ?_; rintro _ _ ⟨rfl, hq⟩; all_goals (try (have hqn := hq.nx); try simp only [aU_] at hqn))) | refine ao_ ?_) | with_reducible refine bk_ ?_)
   exact ⟨rfl, _, af_ ⟨rfl, rfl, rfl, rfl, rfl, rfl, rfl, rfl, rfl, trivial⟩, ⟨aA_, au_⟩, ah_⟩
 clear w1 q41
 rintro b17 h9 ⟨⟨w1, g2⟩, a17⟩
 have aC := aC.grow g2
 have aD := aD.grow g2
 have a7 := a7.grow g2
 have sm := sm.grow g2
 have a15 := a15.grow g2
 have g1 := g1.trans g2
 clear g2
 refine bq_ (ι := Nat) (fun b19 => [(1, .slice va n vc), (3, .pointer (some ⟨h.nx, 0, some 0⟩)), (5, .pointer (some ⟨h.nx + 1, 0, some 0⟩)), (7, .pointer (some ⟨b7, 0, some 0⟩)), (13, .slice ym.1 K ym.2), (15, .pointer (some ⟨b15, 0, some 0⟩)), (16, .int .i64 (0)), (17, .pointer (some ⟨b17, 0, some 0⟩)), (18, .int .i64 (0)), (19, .pointer (some ⟨b19, 0, some 0⟩)), (20, .int .i64 (0))]) (fun b19 h' => (Wf h' ∧ Grow h9 h') ∧ At h' b19 (.cells [.int .i64 y0, .int .i64 y1, .int .i64 y2, .int .i64 y3, .int .i64 y4, .int .i64 y5] 22 6 false)) ?_ ?_
 · clear q40 q55 q56 q56N q16 q65a q65b
   have n1 := g1.nx
   have l_aC := aC.lt
   have l_aD := aD.lt
   have l_a7 := a7.lt
   have l_a15 := a15.lt
   have l_a17 := a17.lt
   repeat' (first | with_reducible refine ad_ ?_ | ((with_reducible refine ac_ ?_); first | ((with_reducible refine ay_ ?_); refine bQ_ (aB_ rfl rfl ah_ zs22 rfl rfl rfl rfl) ?_) | ((with_reducible refine at_ ?_); first | (refine as_ rfl rfl rfl rfl (q51M _ _ (sm.grow au_) aA_) rfl rfl ?_; rintro _ _ ⟨⟨oa, od, rfl, so1⟩, hq⟩; all_goals (try (have hqn := hq.nx); try simp only [aU_] at hqn)) | (refine as_ rfl rfl rfl rfl (q40M _ _ (so1.grow au_) aA_) rfl rfl ?_; rintro _ _ ⟨⟨a3, d3, rfl, s3⟩, hq⟩; all_goals (try (have hqn := hq.nx); try simp only [aU_] at hqn)) | (refine as_ rfl rfl rfl rfl (q41M _ _ (s3.grow au_) aA_) rfl rfl ?_; rintro _ _ ⟨rfl, hq⟩; all_goals (try (have hqn := hq.nx); try simp only [aU_] at hqn))) | refine ao_ ?_) | with_reducible refine bk_ ?_)
   exact ⟨rfl, _, af_ ⟨rfl, rfl, rfl, rfl, rfl, rfl, rfl, rfl, rfl, rfl, rfl, trivial⟩, ⟨aA_, au_⟩, ah_⟩
 clear w1 q41M q51M q40M
 rintro b19 h10 ⟨⟨w1, g2⟩, a19⟩
 have aC := aC.grow g2
 have aD := aD.grow g2
 have a7 := a7.grow g2
 have sm := sm.grow g2
 have a15 := a15.grow g2
 have a17 := a17.grow g2
 have g1 := g1.trans g2
 clear g2
 refine bq_ (ι := Unit) (fun _ => [(1, .slice va n vc), (3, .pointer (some ⟨h.nx, 0, some 0⟩)), (5, .pointer (some ⟨h.nx + 1, 0, some 0⟩)), (7, .pointer (some ⟨b7, 0, some 0⟩)), (17, .pointer (some ⟨b17, 0, some 0⟩))]) (fun _ h' => (Wf h' ∧ Grow h10 h')) ?_ ?_
 · clear q40 q55 q56 q56N q16 q65a q65b
   have n1 := g1.nx
   have l_aC := aC.lt
   have l_aD := aD.lt
   have l_a7 := a7.lt
   have l_a15 := a15.lt
   have l_a17 := a17.lt
   have l_a19 := a19.lt
   repeat' (first | with_reducible refine ad_ ?_ | ((with_reducible refine ac_ ?_); first | ((with_reducible refine cC_ ?_); first | ((with_reducible refine bF_ ?_); first | refine ai_ rfl rfl rfl (aj_ (b := b7) (off := 0) rfl ah_ Tryz.underlying29 rfl zs29 rfl rfl) rfl rfl ?_ | refine ai_ rfl rfl rfl (aj_ (b := b15) (off := 0) rfl ah_ Tryz.underlying29 rfl zs29 rfl rfl) rfl rfl ?_ | refine ai_ rfl rfl rfl (aj_ (b := b17) (off := 0) rfl ah_ Tryz.underlying22 rfl zs22 rfl rfl) rfl rfl ?_ | refine ai_ rfl rfl rfl (aj_ (b := b19) (off := 0) rfl ah_ Tryz.underlying22 rfl zs22 rfl rfl) rfl rfl ?_) | ((with_reducible refine bB_ ?_); first | refine ai_ rfl rfl rfl (op_neT 3 rfl rfl rfl Tryz.underlying29 rfl eg29 eqI) rfl rfl ?_ | refine ai_ rfl rfl rfl (op_neT 3 rfl rfl rfl Tryz.underlying22 rfl eg22 eqH) rfl rfl ?_)) | refine ao_ ?_) | refine ap_ ?_)
   exact ⟨rfl, (), af_ ⟨rfl, rfl, rfl, rfl, rfl, trivial⟩, ⟨aA_, au_⟩⟩
 clear w1
 rintro _ h11 ⟨w1, g2⟩
 clear sm a15 a19
 have aC := aC.grow g2
 have aD := aD.grow g2
 have a7 := a7.grow g2
 have a17 := a17.grow g2
 have g1 := g1.trans g2
 clear g2
 refine bq_ (ι := Unit) (fun _ => [(1, .slice va n vc), (3, .pointer (some ⟨h.nx, 0, some 0⟩)), (5, .pointer (some ⟨h.nx + 1, 0, some 0⟩)), (7, .pointer (some ⟨b7, 0, some 0⟩)), (17, .pointer (some ⟨b17, 0, some 0⟩)), (21, .int .i64 (i6))]) (fun _ h' => (Wf h' ∧ Grow h11 h')) ?_ ?_
 · clear q40 q55 q56 q56N q16 q65a q65b
   have n1 := g1.nx
   have l_aC := aC.lt
   have l_aD := aD.lt
   have l_a7 := a7.lt
   have l_a17 := a17.lt
   repeat' (first | with_reducible refine ad_ ?_ | ((with_reducible refine ac_ ?_); first | ((with_reducible refine al_ ?_); refine aq_ (ae_ (b := b7) (off := 6) rfl ah_ Tryz.underlying3 rfl rfl) ?_) | refine ao_ ?_) | with_reducible refine bk_ ?_)
   exact ⟨rfl, (), af_ ⟨rfl, rfl, rfl, rfl, rfl, rfl, trivial⟩, ⟨aA_, au_⟩⟩
 clear w1
 rintro _ h12 ⟨w1, g2⟩
 have aC := aC.grow g2
 have aD := aD.grow g2
 have a7 := a7.grow g2
 have a17 := a17.grow g2
 have g1 := g1.trans g2
 clear g2
 refine bq_ (ι := Unit) (fun _ => [(1, .slice va n vc), (3, .pointer (some ⟨h.nx, 0, some 0⟩)), (5, .pointer (some ⟨h.nx + 1, 0, some 0⟩)), (7, .pointer (some ⟨b7, 0, some 0⟩)), (17, .pointer (some ⟨b17, 0, some 0⟩)), (21, .int .i64 (i7))]) (fun _ h' => (Wf h' ∧ Grow h12 h')) ?_ ?_
 · clear q40 q55 q56 q56N q16 q65a q65b
   have n1 := g1.nx
   have l_aC := aC.lt
   have l_aD := aD.lt
   have l_a7 := a7.lt
   have l_a17 := a17.lt
   refine bq_ (ι := Unit) (fun _ => [(1, .slice va n vc), (3, .pointer (some ⟨h.nx, 0, some 0⟩)), (5, .pointer (some ⟨h.nx + 1, 0, some 0⟩)), (7, .pointer (some ⟨b7, 0, some 0⟩)), (17, .pointer (some ⟨b17, 0, some 0⟩)), (21, .int .i64 (sumI i0 i1 i2 i3 i4 i5 i6 0)), (167, .agg ⟨[.int .i64 i0, .int .i64 i1, .int .i64 i2, .int .i64 i3, .int .i64 i4, .int .i64 i5]⟩), (168, .int .i64 (0 : Nat))]) (fun _ h' => h12 = h') ?_ ?_
   · repeat' (first | with_reducible refine ad_ ?_ | ((with_reducible refine ac_ ?_); first | ((with_reducible refine al_ ?_); refine aq_ (aj_ (b := b7) (off := 0) rfl ah_ Tryz.underlying22 rfl zs22 rfl rfl) ?_) | refine ao_ ?_) | with_reducible refine bk_ ?_)
     exact ⟨rfl, (), af_ ⟨rfl, rfl, rfl, rfl, rfl, rfl, rfl, rfl, trivial⟩, rfl⟩
   rintro _ _ rfl
   refine wc_block ?_
   refine bo_ (fun k => 6 - k) (fun k : Nat => [(1, .slice va n vc), (3, .pointer (some ⟨h.nx, 0, some 0⟩)), (5, .pointer (some ⟨h.nx + 1, 0, some 0⟩)), (7, .pointer (some ⟨b7, 0, some 0⟩)), (17, .pointer (some ⟨b17, 0, some 0⟩)), (21, .int .i64 (sumI i0 i1 i2 i3 i4 i5 i6 k)), (167, .agg ⟨[.int .i64 i0, .int .i64 i1, .int .i64 i2, .int .i64 i3, .int .i64 i4, .int .i64 i5]⟩), (168, .int .i64 (k : Nat))]) (fun k h' => h12 = h' ∧ k ≤ 6) 0 (af_ ⟨rfl, rfl, rfl, rfl, rfl, rfl, rfl, rfl, trivial⟩) ⟨rfl, by omega⟩ ?_
   rintro k _ ⟨rfl, hk⟩
   by_cases hlt : k < 6
   · match k, hlt with
     | 0, _ =>
       repeat' (first | with_reducible refine ad_ ?_ | ((with_reducible refine ac_ ?_); first | ((with_reducible refine bv_ ?_); refine aq_ (by_ (v := .int .i64 i0) rfl rfl Tryz.underlying22 zs3 (by decide) (by decide) rfl) ?_) | ((with_reducible refine bG_ ?_); refine aq_ (cn_ rfl rfl (v := i6 + i0) rfl (by omega)) ?_) | refine ao_ ?_) | refine ap_ ?_)
       exact aI_ (0 + 1) (by omega) (af_ ⟨rfl, rfl, rfl, rfl, rfl, rfl, rfl, rfl, trivial⟩) ⟨rfl, by omega⟩
     | 1, _ =>
       repeat' (first | with_reducible refine ad_ ?_ | ((with_reducible refine ac_ ?_); first | ((with_reducible refine bv_ ?_); refine aq_ (by_ (v := .int .i64 i1) rfl rfl Tryz.underlying22 zs3 (by decide) (by decide) rfl) ?_) | ((with_reducible refine bG_ ?_); refine aq_ (cn_ rfl rfl (v := i6 + i0 + i1) rfl (by omega)) ?_) | refine ao_ ?_) | refine ap_ ?_)
       exact aI_ (1 + 1) (by omega) (af_ ⟨rfl, rfl, rfl, rfl, rfl, rfl, rfl, rfl, trivial⟩) ⟨rfl, by omega⟩
     | 2, _ =>
       repeat' (first | with_reducible refine ad_ ?_ | ((with_reducible refine ac_ ?_); first | ((with_reducible refine bv_ ?_); refine aq_ (by_ (v := .int .i64 i2) rfl rfl Tryz.underlying22 zs3 (by decide) (by decide) rfl) ?_) | ((with_reducible refine bG_ ?_); refine aq_ (cn_ rfl rfl (v := i6 + i0 + i1 + i2) rfl (by omega)) ?_) | refine ao_ ?_) | refine ap_ ?_)
       exact aI_ (2 + 1) (by omega) (af_ ⟨rfl, rfl, rfl, rfl, rfl, rfl, rfl, rfl, trivial⟩) ⟨rfl, by omega⟩
     | 3, _ =>
       repeat' (first | with_reducible refine ad_ ?_ | ((with_reducible refine ac_ ?_); first | ((with_reducible refine bv_ ?_); refine aq_ (by_ (v := .int .i64 i3) rfl rfl Tryz.underlying22 zs3 (by decide) (by decide) rfl) ?_) | ((with_reducible refine bG_ ?_); refine aq_ (cn_ rfl rfl (v := i6 + i0 + i1 + i2 + i3) rfl (by omega)) ?_) | refine ao_ ?_) | refine ap_ ?_)
       exact aI_ (3 + 1) (by omega) (af_ ⟨rfl, rfl, rfl, rfl, rfl, rfl, rfl, rfl, trivial⟩) ⟨rfl, by omega⟩
     | 4, _ =>
       repeat' (first | with_reducible refine ad_ ?_ | ((with_reducible refine ac_ ?_); first | ((with_reducible refine bv_ ?_); refine aq_ (by_ (v := .int .i64 i4) rfl rfl Tryz.underlying22 zs3 (by decide) (by decide) rfl) ?_) | ((with_reducible refine bG_ ?_); refine aq_ (cn_ rfl rfl (v := i6 + i0 + i1 + i2 + i3 + i4) rfl (by omega)) ?_) | refine ao_ ?_) | refine ap_ ?_)
       exact aI_ (4 + 1) (by omega) (af_ ⟨rfl, rfl, rfl, rfl, rfl, rfl, rfl, rfl, trivial⟩) ⟨rfl, by omega⟩
     | 5, _ =>
       repeat' (first | with_reducible refine ad_ ?_ | ((with_reducible refine ac_ ?_); first | ((with_reducible refine bv_ ?_); refine aq_ (by_ (v := .int .i64 i5) rfl rfl Tryz.underlying22 zs3 (by decide) (by decide) rfl) ?_) | ((with_reducible refine bG_ ?_); refine aq_ (cn_ rfl rfl (v := i6 + i0 + i1 + i2 + i3 + i4 + i5) rfl (by omega)) ?_) | refine ao_ ?_) | refine ap_ ?_)
       exact aI_ (5 + 1) (by omega) (af_ ⟨rfl, rfl, rfl, rfl, rfl, rfl, rfl, rfl, trivial⟩) ⟨rfl, by omega⟩
   · have e : k = 6 := by omega
     subst e
     rw [hsum]
     repeat' (first | with_reducible refine ad_ ?_ | ((with_reducible refine ac_ ?_); ((with_reducible refine bG_ ?_); refine aq_ (cI_ rfl rfl) ?_)) | refine ap_ ?_)
     exact ⟨rfl, (), af_ ⟨rfl, rfl, rfl, rfl, rfl, rfl, trivial⟩, aA_, au_⟩
 clear w1
 rintro _ h13 ⟨w1, g2⟩
 have aC := aC.grow g2
 have aD := aD.grow g2
 have a7 := a7.grow g2
 have a17 := a17.grow g2
 have g1 := g1.trans g2
 clear g2
 refine bq_ (ι := Unit) (fun _ => [(1, .slice va n vc), (3, .pointer (some ⟨h.nx, 0, some 0⟩)), (5, .pointer (some ⟨h.nx + 1, 0, some 0⟩)), (7, .pointer (some ⟨b7, 0, some 0⟩)), (17, .pointer (some ⟨b17, 0, some 0⟩))]) (fun _ h' => (Wf h' ∧ Grow h13 h')) ?_ ?_
 · clear q40 q55 q56 q56N q16 q65a q65b
   have n1 := g1.nx
   have l_aC := aC.lt
   have l_aD := aD.lt
   have l_a7 := a7.lt
   have l_a17 := a17.lt
   repeat' (first | with_reducible refine ad_ ?_ | ((with_reducible refine ac_ ?_); first | ((with_reducible refine al_ ?_); refine aq_ (ae_ (b := b7) (off := 7) rfl ah_ Tryz.underlying3 rfl rfl) ?_) | refine ao_ ?_) | refine ap_ ?_ | (refine aG_ rfl (fun hb => (of_decide_eq_true hb rfl).elim) (fun hb => ?_); (try simp only [aX_, reduceCtorEq] at hb)))
   exact ⟨rfl, (), af_ ⟨rfl, rfl, rfl, rfl, rfl, trivial⟩, ⟨aA_, au_⟩⟩
 clear w1
 rintro _ h14 ⟨w1, g2⟩
 have aC := aC.grow g2
 have aD := aD.grow g2
 have a7 := a7.grow g2
 have a17 := a17.grow g2
 have g1 := g1.trans g2
 clear g2
 refine bq_ (ι := Unit) (fun _ => [(5, .pointer (some ⟨h.nx + 1, 0, some 0⟩))]) (fun _ h' => (Wf h' ∧ Grow h14 h')) ?_ ?_
 · clear q56 q16 q65a q65b
   have n1 := g1.nx
   have l_aC := aC.lt
   have l_aD := aD.lt
   have l_a7 := a7.lt
   have l_a17 := a17.lt
   by_cases hc : y2 > c6 ∧ c6 < 100000
   · have k56 := q56N hc
     repeat' (first | with_reducible refine ad_ ?_ | ((with_reducible refine ac_ ?_); first | ((with_reducible refine an_ ?_); refine aq_ (bs_ rfl rfl (k := 2) rfl Tryz.underlying22 zs3 (by omega)) ?_) | ((with_reducible refine al_ ?_); first | refine aq_ (ae_ (b := b17) (off := 2) rfl ah_ Tryz.underlying3 rfl rfl) ?_ | refine aq_ (ae_ (b := h.nx) (off := 6) rfl ah_ Tryz.underlying3 rfl rfl) ?_ | refine aq_ (aj_ (b := h.nx) (off := 0) rfl ah_ Tryz.underlying105 rfl zs105 rfl rfl) ?_ | refine aq_ (aj_ (b := b7) (off := 0) rfl ah_ Tryz.underlying29 rfl zs29 rfl rfl) ?_ | refine aq_ (ae_ (b := h.nx) (off := 2) rfl ah_ Tryz.underlying3 rfl rfl) ?_ | refine aq_ (ae_ rfl ah_ Tryz.underlying3 rfl rfl) ?_) | ((with_reducible refine ay_ ?_); first | refine bQ_ (aB_ rfl rfl ah_ zs29 rfl rfl rfl rfl) ?_ | refine bQ_ (aB_ rfl rfl ah_ zs105 rfl rfl rfl rfl) ?_ | refine bQ_ (op_st1 rfl rfl ah_ rfl zs3 rfl rfl rfl) ?_) | ((with_reducible refine cC_ ?_); first | ((with_reducible refine bF_ ?_); first | refine ai_ rfl rfl rfl (ae_ (b := h.nx) (off := 6) rfl ah_ Tryz.underlying3 rfl rfl) rfl rfl ?_ | refine ai_ rfl rfl rfl (aj_ rfl ah_ Tryz.underlying29 rfl zs29 rfl rfl) rfl rfl ?_) | ((with_reducible refine bB_ ?_); first | refine ai_ rfl rfl rfl (op_neT 3 rfl rfl rfl Tryz.underlying29 rfl eg29 eqJ) rfl rfl ?_ | refine ai_ rfl rfl rfl (cI_ rfl rfl) rfl rfl ?_) | ((with_reducible refine bc_ ?_); refine ai_ rfl rfl rfl (ab_ (o := 6) rfl Tryz.underlying105 rfl zs3 rfl) rfl rfl ?_) | (refine aY_ rfl rfl rfl (fun hb => ?_) (fun hb => aw_ hb); (try simp only [aX_, reduceCtorEq] at hb))) | refine ao_ ?_) | ((with_reducible refine bb_ ?_); first | ((with_reducible refine bd_ ?_); first | ((with_reducible refine ba_ ?_); refine aH_ (aa_ rfl) rfl rfl (ar_ rfl (aD_ rfl)) rfl rfl rfl ?_) | ((with_reducible refine aZ_ ?_); first | refine aO_ (aa_ rfl) rfl (ar_ rfl (ae_ (b := h.nx + 1) (off := 14) rfl ah_ Tryz.underlying106 rfl rfl)) rfl rfl rfl ?_ | refine aO_ (aa_ rfl) rfl (ar_ rfl (aj_ rfl ah_ Tryz.underlying105 rfl zs105 rfl rfl)) rfl rfl rfl ?_) | ((with_reducible refine aC_ ?_); refine aH_ (aa_ rfl) rfl rfl (ar_ rfl (ab_ (o := 14) rfl Tryz.underlying127 rfl zs106 rfl)) rfl rfl rfl ?_) | ((with_reducible refine xk_extract ?_); refine aH_ (aa_ rfl) rfl rfl (ar_ rfl (op_extract rfl rfl)) rfl rfl rfl ?_) | ((with_reducible refine xk_alloc ?_); refine wx_a0 (aa_ rfl) rfl (oa_alloc zz29 zs29 rfl rfl rfl) rfl rfl ?_) | ((with_reducible refine aV_ ?_); first | (refine aM_ (aa_ rfl) rfl rfl rfl rfl (q40 _ (g1.trans au_) aA_) rfl rfl ?_; rintro _ _ ⟨⟨a1, d1, rfl, s1⟩, hq⟩; all_goals (try (have hqn := hq.nx); try simp only [aU_] at hqn)) | (refine aM_ (aa_ rfl) rfl rfl rfl rfl (q55 _ (g1.trans au_) aA_) rfl rfl ?_; rintro _ _ ⟨⟨a2, d2, rfl, s2⟩, hq⟩; all_goals (try (have hqn := hq.nx); try simp only [aU_] at hqn)) | (refine aM_ (aa_ rfl) rfl rfl rfl rfl (k56 _ _ _ _ _ (s1.grow au_) (s2.grow au_) aA_) rfl rfl ?_; rintro _ _ ⟨rfl, hq⟩; all_goals (try (have hqn := hq.nx); try simp only [aU_] at hqn)))) | ((with_reducible refine bm_ ?_); refine aH_ (aa_ rfl) rfl rfl (ar_ rfl (aW_ rfl)) rfl rfl rfl ?_) | ((with_reducible refine bN_ ?_); ((with_reducible refine cq_ ?_); refine wx_e01 (aa_ rfl) rfl rfl rfl (aB_ rfl rfl ah_ zs29 rfl rfl rfl rfl) rfl ?_)) | refine bU_ ?_ ?_ rfl rfl ?_) | with_reducible exact aP_ | with_reducible refine aJ_ ?_ ?_ | ((with_reducible refine bi_ ?_); first | exact aS_ | refine aQ_ rfl ?_ | refine am_ rfl rfl (ar_ rfl (ae_ (b := h.nx + 1) (off := 14) rfl ah_ Tryz.underlying106 rfl (by rfl))) ?_ | refine am_ rfl rfl (ar_ rfl (aj_ rfl ah_ Tryz.underlying105 rfl zs105 (by rfl) rfl)) ?_) | with_reducible exact bV_ | with_reducible refine bE_ ?_ ?_ | ((with_reducible refine ck_ ?_); first | exact bW_ rfl rfl | exact bu_ rfl rfl aA_ gr_B) | refine ap_ ?_ | (refine aG_ rfl (fun hb => ?_) (fun hb => aw_ hb); (try simp only [aX_, reduceCtorEq] at hb)) | refine aF_ (id := 25) 13 [0, 0, 2, 0, 8, 30, 63, 127, 255, 255, 0, 1535, 4095] [0, 1, 2, 3, 4, 5, 6, 7, 8, 9, 10, 11, 12] (by kernel_rfl) (by kernel_rfl) rfl rfl ?_)
     all_goals exact ⟨rfl, (), af_ ⟨rfl, trivial⟩, aA_, au_⟩
   · by_cases hc2 : y2 > c6
     · have hc3 : 100000 ≤ c6 := by omega
       clear hc
       repeat' (first | with_reducible refine ad_ ?_ | ((with_reducible refine ac_ ?_); first | ((with_reducible refine an_ ?_); refine aq_ (bs_ rfl rfl (k := 2) rfl Tryz.underlying22 zs3 (by omega)) ?_) | ((with_reducible refine al_ ?_); first | refine aq_ (ae_ (b := b17) (off := 2) rfl ah_ Tryz.underlying3 rfl rfl) ?_ | refine aq_ (ae_ (b := h.nx) (off := 6) rfl ah_ Tryz.underlying3 rfl rfl) ?_) | ((with_reducible refine cC_ ?_); first | ((with_reducible refine bF_ ?_); refine ai_ rfl rfl rfl (ae_ (b := h.nx) (off := 6) rfl ah_ Tryz.underlying3 rfl rfl) rfl rfl ?_) | ((with_reducible refine bc_ ?_); refine ai_ rfl rfl rfl (ab_ (o := 6) rfl Tryz.underlying105 rfl zs3 rfl) rfl rfl ?_) | ((with_reducible refine bB_ ?_); refine ai_ rfl rfl rfl (cI_ rfl rfl) rfl rfl ?_) | (refine aY_ rfl rfl rfl (fun hb => ?_) (fun hb => aw_ hb); (try simp only [aX_, reduceCtorEq] at hb))) | refine ao_ ?_) | refine ap_ ?_ | (refine aG_ rfl (fun hb => aw_ hb) (fun hb => ?_); (try simp only [aX_, reduceCtorEq] at hb)))
       all_goals exact ⟨rfl, (), af_ ⟨rfl, trivial⟩, aA_, au_⟩
     · clear hc
       repeat' (first | with_reducible refine ad_ ?_ | ((with_reducible refine ac_ ?_); first | ((with_reducible refine an_ ?_); refine aq_ (bs_ rfl rfl (k := 2) rfl Tryz.underlying22 zs3 (by omega)) ?_) | ((with_reducible refine al_ ?_); first | refine aq_ (ae_ (b := b17) (off := 2) rfl ah_ Tryz.underlying3 rfl rfl) ?_ | refine aq_ (ae_ (b := h.nx) (off := 6) rfl ah_ Tryz.underlying3 rfl rfl) ?_) | ((with_reducible refine cC_ ?_); first | refine bn_ rfl rfl rfl rfl rfl rfl ?_ | (refine aY_ rfl rfl rfl (fun hb => aw_ hb) (fun hb => ?_); (try simp only [aX_, reduceCtorEq] at hb))) | refine ao_ ?_) | refine ap_ ?_)
       all_goals exact ⟨rfl, (), af_ ⟨rfl, trivial⟩, aA_, au_⟩
 clear w1 q40 q55 q56 q56N
 rintro _ h15 ⟨w1, g2⟩
 clear a7 a17 aC
 have aD := aD.grow g2
 have g1 := g1.trans g2
 clear g2
 clear hsum b0 b1 b2 b3 b4 b5 b6 r2 s2 r6 s6 hml h64 hn65 hy hK hsz eqI eqJ eqH
 by_cases hS : (t ≤ 60 ∨ 4096 < t) ∧ (ns ≤ 6 ∨ ns = 65)
 case neg =>
   rw [decide_eq_false hS] at q16
   have lD := aD.lt
   repeat' (first | with_reducible refine ad_ ?_ | ((with_reducible refine ac_ ?_); first | ((with_reducible refine al_ ?_); first | refine aq_ (aj_ (b := h.nx + 1) (off := 0) rfl ah_ Tryz.underlying37 rfl zs37 rfl rfl) ?_ | refine aq_ (ae_ (b := h.nx + 1) (off := 10) rfl ah_ Tryz.underlying40 rfl rfl) ?_) | ((with_reducible refine bK_ (f := 15) ?_); refine aq_ (aK_ rfl rfl (c15)) ?_) | ((with_reducible refine at_ ?_); (refine as_ rfl rfl rfl rfl (q16 _ aA_) rfl rfl ?_; rintro _ _ ⟨rfl, hq⟩; all_goals (try (have hqn := hq.nx); try simp only [aU_] at hqn))) | ((with_reducible refine cC_ ?_); refine bn_ rfl rfl rfl rfl rfl rfl ?_) | refine ao_ ?_) | refine ap_ ?_)
   exact rq1 rfl ⟨rfl, g1.trans au_⟩
 rw [decide_eq_true hS] at q16
 have hns : ns < 1000000 := by omega
 clear hS
 have q21 := fun (h' : H) (g : Grow h h') (w' : Wf h') => c21 (x := x) (y := y) (u := u) (v := v) (t := t) (r := r) (sp := sp) (lo := lo) (cl := cl) (so := so) (ss.grow g) hsl hns w'
 by_cases hA : allE x y u v t r sp lo cl so sl = 0
 case neg =>
   have lD := aD.lt
   generalize allE x y u v t r sp lo cl so sl = Y at hA q21
   repeat' (first | with_reducible refine ad_ ?_ | ((with_reducible refine ac_ ?_); first | ((with_reducible refine al_ ?_); first | refine aq_ (aj_ (b := h.nx + 1) (off := 0) rfl ah_ Tryz.underlying37 rfl zs37 rfl rfl) ?_ | refine aq_ (ae_ (b := h.nx + 1) (off := 10) rfl ah_ Tryz.underlying40 rfl rfl) ?_) | ((with_reducible refine bK_ (f := 15) ?_); refine aq_ (aK_ rfl rfl (c15)) ?_) | ((with_reducible refine at_ ?_); (refine as_ rfl rfl rfl rfl (q16 _ aA_) rfl rfl ?_; rintro _ _ ⟨rfl, hq⟩; all_goals (try (have hqn := hq.nx); try simp only [aU_] at hqn))) | ((with_reducible refine cC_ ?_); first | refine bn_ rfl rfl rfl rfl rfl rfl ?_ | ((with_reducible refine bF_ ?_); first | refine ai_ rfl rfl rfl (aj_ (b := h.nx + 1) (off := 0) rfl ah_ Tryz.underlying37 rfl zs37 rfl rfl) rfl rfl ?_ | refine ai_ rfl rfl rfl (aj_ (b := h.nx + 1) (off := 5) rfl ah_ Tryz.underlying39 rfl zs39 rfl rfl) rfl rfl ?_ | refine ai_ rfl rfl rfl (ae_ (b := h.nx + 1) (off := 10) rfl ah_ Tryz.underlying40 rfl rfl) rfl rfl ?_) | ((with_reducible refine bc_ ?_); first | refine ai_ rfl rfl rfl (ab_ (o := 0) rfl Tryz.underlying127 rfl zs37 rfl) rfl rfl ?_ | refine ai_ rfl rfl rfl (ab_ (o := 5) rfl Tryz.underlying127 rfl zs70 rfl) rfl rfl ?_ | refine ai_ rfl rfl rfl (ab_ (o := 5) rfl Tryz.underlying70 rfl zs40 rfl) rfl rfl ?_ | refine ai_ rfl rfl rfl (ab_ (o := 0) rfl Tryz.underlying70 rfl zs39 rfl) rfl rfl ?_) | ((with_reducible refine bB_ ?_); refine ai_ rfl rfl rfl (cH_ rfl rfl) rfl rfl ?_) | ((with_reducible refine cL_ ?_); (refine bx_ rfl rfl rfl rfl rfl rfl (q21 _ (g1.trans au_) aA_) rfl rfl ?_; rintro _ _ ⟨rfl, hq⟩; all_goals (try (have hqn := hq.nx); try simp only [aU_] at hqn))) | (refine aY_ rfl rfl rfl (fun hb => ?_) (fun hb => aw_ hb); (try simp only [aX_, reduceCtorEq] at hb))) | refine ao_ ?_) | refine ap_ ?_)
   exact rq1 rfl ⟨rfl, g1.trans au_⟩
 have htb := (all_ok hA).2.2.1
 have q67 := fun (h' : H) (w1 w2 w3 : Value) (hpm : pm < 1000000) (hwm : wm < 1000000) (s1 : Sl G h' 3 w1 ns (sl.flatMap Sg.cells)) (s2 : Sl G h' 2 w2 pm (L.flatMap Spn.cells)) (s3 : Sl G h' 2 w3 wm (M0.flatMap Spn.cells)) (w' : Wf h') => c67 (x := x) (y := y) (u := u) (v := v) (t := t) (r := r) (sp := sp) (lo := lo) (cl := cl) (so := so) s1 hsl hns s2 hL hpm s3 hM0 hwm w'
 rw [hA] at q21
 by_cases hP1 : pm ≤ 8 ∨ pm = 257
 case neg =>
   rw [decide_eq_false hP1] at q65a
   have lD := aD.lt
   repeat' (first | with_reducible refine ad_ ?_ | ((with_reducible refine ac_ ?_); first | ((with_reducible refine al_ ?_); first | refine aq_ (aj_ (b := h.nx + 1) (off := 0) rfl ah_ Tryz.underlying37 rfl zs37 rfl rfl) ?_ | refine aq_ (ae_ (b := h.nx + 1) (off := 10) rfl ah_ Tryz.underlying40 rfl rfl) ?_) | ((with_reducible refine bK_ (f := 15) ?_); refine aq_ (aK_ rfl rfl (c15)) ?_) | ((with_reducible refine at_ ?_); (refine as_ rfl rfl rfl rfl (q16 _ aA_) rfl rfl ?_; rintro _ _ ⟨rfl, hq⟩; all_goals (try (have hqn := hq.nx); try simp only [aU_] at hqn))) | ((with_reducible refine cC_ ?_); first | refine bn_ rfl rfl rfl rfl rfl rfl ?_ | ((with_reducible refine bF_ ?_); first | refine ai_ rfl rfl rfl (aj_ (b := h.nx + 1) (off := 0) rfl ah_ Tryz.underlying37 rfl zs37 rfl rfl) rfl rfl ?_ | refine ai_ rfl rfl rfl (aj_ (b := h.nx + 1) (off := 5) rfl ah_ Tryz.underlying39 rfl zs39 rfl rfl) rfl rfl ?_ | refine ai_ rfl rfl rfl (ae_ (b := h.nx + 1) (off := 10) rfl ah_ Tryz.underlying40 rfl rfl) rfl rfl ?_ | refine ai_ rfl rfl rfl (ae_ (b := h.nx + 1) (off := 11) rfl ah_ Tryz.underlying52 rfl rfl) rfl rfl ?_) | ((with_reducible refine ig_un ?_); refine ai_ rfl rfl rfl (cG_ rfl) rfl rfl ?_) | ((with_reducible refine bc_ ?_); first | refine ai_ rfl rfl rfl (ab_ (o := 0) rfl Tryz.underlying127 rfl zs37 rfl) rfl rfl ?_ | refine ai_ rfl rfl rfl (ab_ (o := 5) rfl Tryz.underlying127 rfl zs70 rfl) rfl rfl ?_ | refine ai_ rfl rfl rfl (ab_ (o := 5) rfl Tryz.underlying70 rfl zs40 rfl) rfl rfl ?_ | refine ai_ rfl rfl rfl (ab_ (o := 0) rfl Tryz.underlying70 rfl zs39 rfl) rfl rfl ?_ | refine ai_ rfl rfl rfl (ab_ (o := 11) rfl Tryz.underlying127 rfl zs125 rfl) rfl rfl ?_ | refine ai_ rfl rfl rfl (ab_ (o := 0) rfl Tryz.underlying125 rfl zs52 rfl) rfl rfl ?_) | ((with_reducible refine bB_ ?_); refine ai_ rfl rfl rfl (cH_ rfl rfl) rfl rfl ?_) | ((with_reducible refine cL_ ?_); first | (refine bx_ rfl rfl rfl rfl rfl rfl (q21 _ (g1.trans au_) aA_) rfl rfl ?_; rintro _ _ ⟨rfl, hq⟩; all_goals (try (have hqn := hq.nx); try simp only [aU_] at hqn)) | (refine bx_ rfl rfl rfl rfl rfl rfl (q65a _ aA_) rfl rfl ?_; rintro _ _ ⟨rfl, hq⟩; all_goals (try (have hqn := hq.nx); try simp only [aU_] at hqn)))) | refine ao_ ?_) | refine ap_ ?_)
   exact rq1 rfl ⟨rfl, g1.trans au_⟩
 rw [decide_eq_true hP1] at q65a
 have hpm : pm < 1000000 := by omega
 clear hP1
 have q66a := fun (h' : H) (g : Grow h h') (w' : Wf h') => c66 (pp.grow g) hL hpm w'
 by_cases hP2 : wm ≤ 8 ∨ wm = 257
 case neg =>
   rw [decide_eq_false hP2] at q65b
   have lD := aD.lt
   repeat' (first | with_reducible refine ad_ ?_ | ((with_reducible refine ac_ ?_); first | ((with_reducible refine al_ ?_); first | refine aq_ (aj_ (b := h.nx + 1) (off := 0) rfl ah_ Tryz.underlying37 rfl zs37 rfl rfl) ?_ | refine aq_ (ae_ (b := h.nx + 1) (off := 10) rfl ah_ Tryz.underlying40 rfl rfl) ?_) | ((with_reducible refine bK_ (f := 15) ?_); refine aq_ (aK_ rfl rfl (c15)) ?_) | ((with_reducible refine at_ ?_); (refine as_ rfl rfl rfl rfl (q16 _ aA_) rfl rfl ?_; rintro _ _ ⟨rfl, hq⟩; all_goals (try (have hqn := hq.nx); try simp only [aU_] at hqn))) | ((with_reducible refine cC_ ?_); first | refine bn_ rfl rfl rfl rfl rfl rfl ?_ | ((with_reducible refine bF_ ?_); first | refine ai_ rfl rfl rfl (aj_ (b := h.nx + 1) (off := 0) rfl ah_ Tryz.underlying37 rfl zs37 rfl rfl) rfl rfl ?_ | refine ai_ rfl rfl rfl (aj_ (b := h.nx + 1) (off := 5) rfl ah_ Tryz.underlying39 rfl zs39 rfl rfl) rfl rfl ?_ | refine ai_ rfl rfl rfl (ae_ (b := h.nx + 1) (off := 10) rfl ah_ Tryz.underlying40 rfl rfl) rfl rfl ?_ | refine ai_ rfl rfl rfl (ae_ (b := h.nx + 1) (off := 11) rfl ah_ Tryz.underlying52 rfl rfl) rfl rfl ?_ | refine ai_ rfl rfl rfl (ae_ (b := h.nx + 1) (off := 12) rfl ah_ Tryz.underlying52 rfl rfl) rfl rfl ?_) | ((with_reducible refine ig_un ?_); refine ai_ rfl rfl rfl (cG_ rfl) rfl rfl ?_) | ((with_reducible refine bc_ ?_); first | refine ai_ rfl rfl rfl (ab_ (o := 0) rfl Tryz.underlying127 rfl zs37 rfl) rfl rfl ?_ | refine ai_ rfl rfl rfl (ab_ (o := 5) rfl Tryz.underlying127 rfl zs70 rfl) rfl rfl ?_ | refine ai_ rfl rfl rfl (ab_ (o := 5) rfl Tryz.underlying70 rfl zs40 rfl) rfl rfl ?_ | refine ai_ rfl rfl rfl (ab_ (o := 0) rfl Tryz.underlying70 rfl zs39 rfl) rfl rfl ?_ | refine ai_ rfl rfl rfl (ab_ (o := 11) rfl Tryz.underlying127 rfl zs125 rfl) rfl rfl ?_ | refine ai_ rfl rfl rfl (ab_ (o := 0) rfl Tryz.underlying125 rfl zs52 rfl) rfl rfl ?_ | refine ai_ rfl rfl rfl (ab_ (o := 1) rfl Tryz.underlying125 rfl zs52 rfl) rfl rfl ?_) | ((with_reducible refine bB_ ?_); refine ai_ rfl rfl rfl (cH_ rfl rfl) rfl rfl ?_) | ((with_reducible refine cL_ ?_); first | (refine bx_ rfl rfl rfl rfl rfl rfl (q21 _ (g1.trans au_) aA_) rfl rfl ?_; rintro _ _ ⟨rfl, hq⟩; all_goals (try (have hqn := hq.nx); try simp only [aU_] at hqn)) | (refine bx_ rfl rfl rfl rfl rfl rfl (q65a _ aA_) rfl rfl ?_; rintro _ _ ⟨rfl, hq⟩; all_goals (try (have hqn := hq.nx); try simp only [aU_] at hqn)) | (refine bx_ rfl rfl rfl rfl rfl rfl (q65b _ aA_) rfl rfl ?_; rintro _ _ ⟨rfl, hq⟩; all_goals (try (have hqn := hq.nx); try simp only [aU_] at hqn)))) | refine ao_ ?_) | refine ap_ ?_)
   exact rq1 rfl ⟨rfl, g1.trans au_⟩
 rw [decide_eq_true hP2] at q65b
 have hwm : wm < 1000000 := by omega
 clear hP2
 have q66b := fun (h' : H) (g : Grow h h') (w' : Wf h') => c66 (pw.grow g) hM0 hwm w'
 by_cases hE1 : spsE L = 0
 case neg =>
   have lD := aD.lt
   clear q67
   generalize spsE L = Y at hE1 q66a
   repeat' (first | with_reducible refine ad_ ?_ | ((with_reducible refine ac_ ?_); first | ((with_reducible refine al_ ?_); first | refine aq_ (aj_ (b := h.nx + 1) (off := 0) rfl ah_ Tryz.underlying37 rfl zs37 rfl rfl) ?_ | refine aq_ (ae_ (b := h.nx + 1) (off := 10) rfl ah_ Tryz.underlying40 rfl rfl) ?_) | ((with_reducible refine bK_ (f := 15) ?_); refine aq_ (aK_ rfl rfl (c15)) ?_) | ((with_reducible refine at_ ?_); (refine as_ rfl rfl rfl rfl (q16 _ aA_) rfl rfl ?_; rintro _ _ ⟨rfl, hq⟩; all_goals (try (have hqn := hq.nx); try simp only [aU_] at hqn))) | ((with_reducible refine cC_ ?_); first | refine bn_ rfl rfl rfl rfl rfl rfl ?_ | ((with_reducible refine bF_ ?_); first | refine ai_ rfl rfl rfl (aj_ (b := h.nx + 1) (off := 0) rfl ah_ Tryz.underlying37 rfl zs37 rfl rfl) rfl rfl ?_ | refine ai_ rfl rfl rfl (aj_ (b := h.nx + 1) (off := 5) rfl ah_ Tryz.underlying39 rfl zs39 rfl rfl) rfl rfl ?_ | refine ai_ rfl rfl rfl (ae_ (b := h.nx + 1) (off := 10) rfl ah_ Tryz.underlying40 rfl rfl) rfl rfl ?_ | refine ai_ rfl rfl rfl (ae_ (b := h.nx + 1) (off := 11) rfl ah_ Tryz.underlying52 rfl rfl) rfl rfl ?_ | refine ai_ rfl rfl rfl (ae_ (b := h.nx + 1) (off := 12) rfl ah_ Tryz.underlying52 rfl rfl) rfl rfl ?_) | ((with_reducible refine ig_un ?_); refine ai_ rfl rfl rfl (cG_ rfl) rfl rfl ?_) | ((with_reducible refine bc_ ?_); first | refine ai_ rfl rfl rfl (ab_ (o := 0) rfl Tryz.underlying127 rfl zs37 rfl) rfl rfl ?_ | refine ai_ rfl rfl rfl (ab_ (o := 5) rfl Tryz.underlying127 rfl zs70 rfl) rfl rfl ?_ | refine ai_ rfl rfl rfl (ab_ (o := 5) rfl Tryz.underlying70 rfl zs40 rfl) rfl rfl ?_ | refine ai_ rfl rfl rfl (ab_ (o := 0) rfl Tryz.underlying70 rfl zs39 rfl) rfl rfl ?_ | refine ai_ rfl rfl rfl (ab_ (o := 11) rfl Tryz.underlying127 rfl zs125 rfl) rfl rfl ?_ | refine ai_ rfl rfl rfl (ab_ (o := 0) rfl Tryz.underlying125 rfl zs52 rfl) rfl rfl ?_ | refine ai_ rfl rfl rfl (ab_ (o := 1) rfl Tryz.underlying125 rfl zs52 rfl) rfl rfl ?_) | ((with_reducible refine bB_ ?_); refine ai_ rfl rfl rfl (cH_ rfl rfl) rfl rfl ?_) | ((with_reducible refine cL_ ?_); first | (refine bx_ rfl rfl rfl rfl rfl rfl (q21 _ (g1.trans au_) aA_) rfl rfl ?_; rintro _ _ ⟨rfl, hq⟩; all_goals (try (have hqn := hq.nx); try simp only [aU_] at hqn)) | (refine bx_ rfl rfl rfl rfl rfl rfl (q65a _ aA_) rfl rfl ?_; rintro _ _ ⟨rfl, hq⟩; all_goals (try (have hqn := hq.nx); try simp only [aU_] at hqn)) | (refine bx_ rfl rfl rfl rfl rfl rfl (q65b _ aA_) rfl rfl ?_; rintro _ _ ⟨rfl, hq⟩; all_goals (try (have hqn := hq.nx); try simp only [aU_] at hqn)) | (refine bx_ rfl rfl rfl rfl rfl rfl (q66a _ (g1.trans au_) aA_) rfl rfl ?_; rintro _ _ ⟨rfl, hq⟩; all_goals (try (have hqn := hq.nx); try simp only [aU_] at hqn))) | (refine aY_ rfl rfl rfl (fun hb => ?_) (fun hb => aw_ hb); (try simp only [aX_, reduceCtorEq] at hb))) | refine ao_ ?_) | refine ap_ ?_)
   exact rq1 rfl ⟨rfl, g1.trans au_⟩
 by_cases hE2 : spsE M0 = 0
 case neg =>
   have lD := aD.lt
   clear q67
   rw [hE1] at q66a
   generalize spsE M0 = Y at hE2 q66b
   repeat' (first | with_reducible refine ad_ ?_ | ((with_reducible refine ac_ ?_); first | ((with_reducible refine al_ ?_); first | refine aq_ (aj_ (b := h.nx + 1) (off := 0) rfl ah_ Tryz.underlying37 rfl zs37 rfl rfl) ?_ | refine aq_ (ae_ (b := h.nx + 1) (off := 10) rfl ah_ Tryz.underlying40 rfl rfl) ?_) | ((with_reducible refine bK_ (f := 15) ?_); refine aq_ (aK_ rfl rfl (c15)) ?_) | ((with_reducible refine at_ ?_); (refine as_ rfl rfl rfl rfl (q16 _ aA_) rfl rfl ?_; rintro _ _ ⟨rfl, hq⟩; all_goals (try (have hqn := hq.nx); try simp only [aU_] at hqn))) | ((with_reducible refine cC_ ?_); first | ((with_reducible refine bF_ ?_); first | refine ai_ rfl rfl rfl (aj_ (b := h.nx + 1) (off := 0) rfl ah_ Tryz.underlying37 rfl zs37 rfl rfl) rfl rfl ?_ | refine ai_ rfl rfl rfl (aj_ (b := h.nx + 1) (off := 5) rfl ah_ Tryz.underlying39 rfl zs39 rfl rfl) rfl rfl ?_ | refine ai_ rfl rfl rfl (ae_ (b := h.nx + 1) (off := 10) rfl ah_ Tryz.underlying40 rfl rfl) rfl rfl ?_ | refine ai_ rfl rfl rfl (ae_ (b := h.nx + 1) (off := 11) rfl ah_ Tryz.underlying52 rfl rfl) rfl rfl ?_ | refine ai_ rfl rfl rfl (ae_ (b := h.nx + 1) (off := 12) rfl ah_ Tryz.underlying52 rfl rfl) rfl rfl ?_) | ((with_reducible refine ig_un ?_); refine ai_ rfl rfl rfl (cG_ rfl) rfl rfl ?_) | ((with_reducible refine bc_ ?_); first | refine ai_ rfl rfl rfl (ab_ (o := 0) rfl Tryz.underlying127 rfl zs37 rfl) rfl rfl ?_ | refine ai_ rfl rfl rfl (ab_ (o := 5) rfl Tryz.underlying127 rfl zs70 rfl) rfl rfl ?_ | refine ai_ rfl rfl rfl (ab_ (o := 5) rfl Tryz.underlying70 rfl zs40 rfl) rfl rfl ?_ | refine ai_ rfl rfl rfl (ab_ (o := 0) rfl Tryz.underlying70 rfl zs39 rfl) rfl rfl ?_ | refine ai_ rfl rfl rfl (ab_ (o := 11) rfl Tryz.underlying127 rfl zs125 rfl) rfl rfl ?_ | refine ai_ rfl rfl rfl (ab_ (o := 0) rfl Tryz.underlying125 rfl zs52 rfl) rfl rfl ?_ | refine ai_ rfl rfl rfl (ab_ (o := 1) rfl Tryz.underlying125 rfl zs52 rfl) rfl rfl ?_) | ((with_reducible refine bB_ ?_); refine ai_ rfl rfl rfl (cH_ rfl rfl) rfl rfl ?_) | ((with_reducible refine cL_ ?_); first | (refine bx_ rfl rfl rfl rfl rfl rfl (q21 _ (g1.trans au_) aA_) rfl rfl ?_; rintro _ _ ⟨rfl, hq⟩; all_goals (try (have hqn := hq.nx); try simp only [aU_] at hqn)) | (refine bx_ rfl rfl rfl rfl rfl rfl (q65a _ aA_) rfl rfl ?_; rintro _ _ ⟨rfl, hq⟩; all_goals (try (have hqn := hq.nx); try simp only [aU_] at hqn)) | (refine bx_ rfl rfl rfl rfl rfl rfl (q65b _ aA_) rfl rfl ?_; rintro _ _ ⟨rfl, hq⟩; all_goals (try (have hqn := hq.nx); try simp only [aU_] at hqn)) | (refine bx_ rfl rfl rfl rfl rfl rfl (q66a _ (g1.trans au_) aA_) rfl rfl ?_; rintro _ _ ⟨rfl, hq⟩; all_goals (try (have hqn := hq.nx); try simp only [aU_] at hqn)) | (refine bx_ rfl rfl rfl rfl rfl rfl (q66b _ (g1.trans au_) aA_) rfl rfl ?_; rintro _ _ ⟨rfl, hq⟩; all_goals (try (have hqn := hq.nx); try simp only [aU_] at hqn)))) | refine ao_ ?_) | refine ap_ ?_ | (refine aG_ rfl (fun hb => ?_) (fun hb => aw_ hb); (try simp only [aX_, reduceCtorEq] at hb)))
   exact rq1 rfl ⟨rfl, g1.trans au_⟩
 have hW0 : firstNZ [allE x y u v t r sp lo cl so sl, spsE L, spsE M0] = 0 := by
   rw [hA, hE1, hE2]
   simp only [cm_]
   exact fz0
 rw [hW0] at q67
 rw [hE1] at q66a
 rw [hE2] at q66b
 obtain ⟨T, rfl⟩ : ∃ T : Nat, t = T := ⟨t.toNat, by omega⟩
 rw [Int.toNat_natCast] at q67
 have hdo := diL_ok (W := cawB cl so (insB x y u v r sp lo sl) L M0) T
 have hdle := diL_le (W := cawB cl so (insB x y u v r sp lo sl) L M0) (k := T)
 have hdg := fun q => diL_good (cl := cl) (so := so) (I := insB x y u v r sp lo sl) (L := L) (M := M0) (T := T) (by omega) q
 obtain ⟨D, hD⟩ : ∃ D, diL (cawB cl so (insB x y u v r sp lo sl) L M0) T = D := ⟨_, rfl⟩
 rw [hD] at q67 hdo hdle hdg
 clear hD hA hE1 hE2 hW0
 have q18 := fun (h' : H) (g : Grow h h') (w' : Wf h') => cf_formW (c18 (ss.grow g) hsl hns w')
 have q68a := fun (h' : H) (g : Grow h h') (w' : Wf h') => cf_formW (c68 (pp.grow g) hpm w')
 have q68b := fun (h' : H) (g : Grow h h') (w' : Wf h') => cf_formW (c68 (pw.grow g) hwm w')
 refine bq_ (ι := Unit) (fun _ => [(5, .pointer (some ⟨h.nx + 1, 0, some 0⟩))]) (fun _ h' => (Wf h' ∧ Grow h15 h')) ?_ ?_
 · clear q18 q68a q68b q67
   have n1 := g1.nx
   have l_aD := aD.lt
   repeat' (first | with_reducible refine ad_ ?_ | ((with_reducible refine ac_ ?_); first | ((with_reducible refine al_ ?_); first | refine aq_ (aj_ (b := h.nx + 1) (off := 0) rfl ah_ Tryz.underlying37 rfl zs37 rfl rfl) ?_ | refine aq_ (ae_ (b := h.nx + 1) (off := 10) rfl ah_ Tryz.underlying40 rfl rfl) ?_) | ((with_reducible refine at_ ?_); (refine as_ rfl rfl rfl rfl (q16 _ aA_) rfl rfl ?_; rintro _ _ ⟨rfl, hq⟩; all_goals (try (have hqn := hq.nx); try simp only [aU_] at hqn))) | ((with_reducible refine cC_ ?_); first | ((with_reducible refine bF_ ?_); first | refine ai_ rfl rfl rfl (aj_ (b := h.nx + 1) (off := 0) rfl ah_ Tryz.underlying37 rfl zs37 rfl rfl) rfl rfl ?_ | refine ai_ rfl rfl rfl (aj_ (b := h.nx + 1) (off := 5) rfl ah_ Tryz.underlying39 rfl zs39 rfl rfl) rfl rfl ?_ | refine ai_ rfl rfl rfl (ae_ (b := h.nx + 1) (off := 10) rfl ah_ Tryz.underlying40 rfl rfl) rfl rfl ?_ | refine ai_ rfl rfl rfl (ae_ (b := h.nx + 1) (off := 11) rfl ah_ Tryz.underlying52 rfl rfl) rfl rfl ?_ | refine ai_ rfl rfl rfl (ae_ (b := h.nx + 1) (off := 12) rfl ah_ Tryz.underlying52 rfl rfl) rfl rfl ?_) | ((with_reducible refine ig_un ?_); refine ai_ rfl rfl rfl (cG_ rfl) rfl rfl ?_) | ((with_reducible refine bc_ ?_); first | refine ai_ rfl rfl rfl (ab_ (o := 0) rfl Tryz.underlying127 rfl zs37 rfl) rfl rfl ?_ | refine ai_ rfl rfl rfl (ab_ (o := 5) rfl Tryz.underlying127 rfl zs70 rfl) rfl rfl ?_ | refine ai_ rfl rfl rfl (ab_ (o := 5) rfl Tryz.underlying70 rfl zs40 rfl) rfl rfl ?_ | refine ai_ rfl rfl rfl (ab_ (o := 0) rfl Tryz.underlying70 rfl zs39 rfl) rfl rfl ?_ | refine ai_ rfl rfl rfl (ab_ (o := 11) rfl Tryz.underlying127 rfl zs125 rfl) rfl rfl ?_ | refine ai_ rfl rfl rfl (ab_ (o := 0) rfl Tryz.underlying125 rfl zs52 rfl) rfl rfl ?_ | refine ai_ rfl rfl rfl (ab_ (o := 1) rfl Tryz.underlying125 rfl zs52 rfl) rfl rfl ?_) | ((with_reducible refine bB_ ?_); refine ai_ rfl rfl rfl (cH_ rfl rfl) rfl rfl ?_) | ((with_reducible refine cL_ ?_); first | (refine bx_ rfl rfl rfl rfl rfl rfl (q21 _ (g1.trans au_) aA_) rfl rfl ?_; rintro _ _ ⟨rfl, hq⟩; all_goals (try (have hqn := hq.nx); try simp only [aU_] at hqn)) | (refine bx_ rfl rfl rfl rfl rfl rfl (q65a _ aA_) rfl rfl ?_; rintro _ _ ⟨rfl, hq⟩; all_goals (try (have hqn := hq.nx); try simp only [aU_] at hqn)) | (refine bx_ rfl rfl rfl rfl rfl rfl (q65b _ aA_) rfl rfl ?_; rintro _ _ ⟨rfl, hq⟩; all_goals (try (have hqn := hq.nx); try simp only [aU_] at hqn)) | (refine bx_ rfl rfl rfl rfl rfl rfl (q66a _ (g1.trans au_) aA_) rfl rfl ?_; rintro _ _ ⟨rfl, hq⟩; all_goals (try (have hqn := hq.nx); try simp only [aU_] at hqn)) | (refine bx_ rfl rfl rfl rfl rfl rfl (q66b _ (g1.trans au_) aA_) rfl rfl ?_; rintro _ _ ⟨rfl, hq⟩; all_goals (try (have hqn := hq.nx); try simp only [aU_] at hqn)))) | refine ao_ ?_) | refine ap_ ?_)
   exact ⟨rfl, (), af_ ⟨rfl, trivial⟩, ⟨aA_, au_⟩⟩
 clear w1 q16 q21 q65a q65b q66a q66b
 rintro _ h16 ⟨w1, g2⟩
 have aD := aD.grow g2
 have g1 := g1.trans g2
 clear g2
 by_cases h64d : 64 < D.length
 · have eL : diaL 0 D = [] := by unfold diaL; rw [if_neg (by simp), if_pos h64d]
   have eE : diaE 0 D = 5 := by unfold diaE; rw [if_neg (by simp), if_pos h64d]
   rw [eL, eE] at q67
   have n1 := g1.nx
   have lD := aD.lt
   repeat' (first | with_reducible refine ad_ ?_ | ((with_reducible refine ac_ ?_); first | ((with_reducible refine cC_ ?_); first | ((with_reducible refine bF_ ?_); refine ai_ rfl rfl rfl (ae_ (b := h.nx + 1) (off := 4) rfl ah_ Tryz.underlying3 rfl rfl) rfl rfl ?_) | ((with_reducible refine bc_ ?_); first | refine ai_ rfl rfl rfl (ab_ (o := 0) rfl Tryz.underlying127 rfl zs37 rfl) rfl rfl ?_ | refine ai_ rfl rfl rfl (ab_ (o := 4) rfl Tryz.underlying37 rfl zs3 rfl) rfl rfl ?_) | ((with_reducible refine bB_ ?_); refine ai_ rfl rfl rfl (bM_ rfl rfl) rfl rfl ?_)) | refine ao_ ?_) | ((with_reducible refine bb_ ?_); ((with_reducible refine bd_ ?_); first | ((with_reducible refine ba_ ?_); refine aH_ (aa_ rfl) rfl rfl (ar_ rfl (aD_ rfl)) rfl rfl rfl ?_) | ((with_reducible refine bm_ ?_); refine aH_ (aa_ rfl) rfl rfl (ar_ rfl (aW_ rfl)) rfl rfl rfl ?_) | ((with_reducible refine aZ_ ?_); first | refine aO_ (aa_ rfl) rfl (ar_ rfl (aj_ (b := h.nx + 1) (off := 0) rfl ah_ Tryz.underlying37 rfl zs37 rfl rfl)) rfl rfl rfl ?_ | refine aO_ (aa_ rfl) rfl (ar_ rfl (aj_ (b := h.nx + 1) (off := 5) rfl ah_ Tryz.underlying39 rfl zs39 rfl rfl)) rfl rfl rfl ?_ | refine aO_ (aa_ rfl) rfl (ar_ rfl (ae_ (b := h.nx + 1) (off := 10) rfl ah_ Tryz.underlying40 rfl rfl)) rfl rfl rfl ?_ | refine aO_ (aa_ rfl) rfl (ar_ rfl (ae_ (b := h.nx + 1) (off := 11) rfl ah_ Tryz.underlying52 rfl rfl)) rfl rfl rfl ?_ | refine aO_ (aa_ rfl) rfl (ar_ rfl (ae_ (b := h.nx + 1) (off := 12) rfl ah_ Tryz.underlying52 rfl rfl)) rfl rfl rfl ?_) | ((with_reducible refine aC_ ?_); first | refine aH_ (aa_ rfl) rfl rfl (ar_ rfl (ab_ (o := 0) rfl Tryz.underlying127 rfl zs37 rfl)) rfl rfl rfl ?_ | refine aH_ (aa_ rfl) rfl rfl (ar_ rfl (ab_ (o := 5) rfl Tryz.underlying127 rfl zs70 rfl)) rfl rfl rfl ?_ | refine aH_ (aa_ rfl) rfl rfl (ar_ rfl (ab_ (o := 5) rfl Tryz.underlying70 rfl zs40 rfl)) rfl rfl rfl ?_ | refine aH_ (aa_ rfl) rfl rfl (ar_ rfl (ab_ (o := 0) rfl Tryz.underlying70 rfl zs39 rfl)) rfl rfl rfl ?_ | refine aH_ (aa_ rfl) rfl rfl (ar_ rfl (ab_ (o := 11) rfl Tryz.underlying127 rfl zs125 rfl)) rfl rfl rfl ?_ | refine aH_ (aa_ rfl) rfl rfl (ar_ rfl (ab_ (o := 0) rfl Tryz.underlying125 rfl zs52 rfl)) rfl rfl rfl ?_ | refine aH_ (aa_ rfl) rfl rfl (ar_ rfl (ab_ (o := 1) rfl Tryz.underlying125 rfl zs52 rfl)) rfl rfl rfl ?_) | ((with_reducible refine xk_extract ?_); refine aH_ (aa_ rfl) rfl rfl (ar_ rfl (op_extract rfl rfl)) rfl rfl rfl ?_) | ((with_reducible refine aV_ ?_); first | (refine aM_ (aa_ rfl) rfl rfl rfl rfl (q18 _ (g1.trans au_) aA_) rfl rfl ?_; rintro _ _ ⟨⟨a1, d1, rfl, s1⟩, hq⟩; all_goals (try (have hqn := hq.nx); try simp only [aU_] at hqn)) | (refine aM_ (aa_ rfl) rfl rfl rfl rfl (q68a _ (g1.trans au_) aA_) rfl rfl ?_; rintro _ _ ⟨⟨a2, d2, rfl, s2⟩, hq⟩; all_goals (try (have hqn := hq.nx); try simp only [aU_] at hqn)) | (refine aM_ (aa_ rfl) rfl rfl rfl rfl (q68b _ (g1.trans au_) aA_) rfl rfl ?_; rintro _ _ ⟨⟨a3, d3, rfl, s3⟩, hq⟩; all_goals (try (have hqn := hq.nx); try simp only [aU_] at hqn)) | (refine aM_ (aa_ rfl) rfl rfl rfl rfl (q67 _ _ _ _ hpm hwm (s1.grow au_) (s2.grow au_) (s3.grow au_) aA_) rfl rfl ?_; rintro _ _ ⟨⟨da, dc, rfl, sd⟩, hq⟩; all_goals (try (have hqn := hq.nx); try simp only [aU_] at hqn))) | with_reducible refine bj_ ?_ ?_)) | with_reducible exact aP_ | with_reducible refine aJ_ ?_ ?_ | ((with_reducible refine bi_ ?_); first | exact aS_ | refine aQ_ rfl ?_ | refine am_ rfl rfl (ar_ rfl (aj_ (b := h.nx + 1) (off := 0) rfl ah_ Tryz.underlying37 rfl zs37 (by rfl) rfl)) ?_ | refine am_ rfl rfl (ar_ rfl (aj_ (b := h.nx + 1) (off := 5) rfl ah_ Tryz.underlying39 rfl zs39 (by rfl) rfl)) ?_ | refine am_ rfl rfl (ar_ rfl (ae_ (b := h.nx + 1) (off := 10) rfl ah_ Tryz.underlying40 rfl (by rfl))) ?_ | refine am_ rfl rfl (ar_ rfl (ae_ (b := h.nx + 1) (off := 11) rfl ah_ Tryz.underlying52 rfl (by rfl))) ?_ | refine am_ rfl rfl (ar_ rfl (ae_ (b := h.nx + 1) (off := 12) rfl ah_ Tryz.underlying52 rfl (by rfl))) ?_) | refine ap_ ?_ | refine aF_ (id := 33) 23 [0, 1, 0, 4, 12, 0, 32, 96, 224, 0, 512, 1536, 4064, 0, 8192, 24576, 65504, 131071, 262143, 524287, 524287, 1048575, 4194303] [0, 1, 2, 3, 4, 5, 6, 7, 8, 9, 10, 11, 12, 13, 14, 15, 16, 17, 18, 19, 20, 21, 22] (by kernel_rfl) (by kernel_rfl) rfl rfl ?_)
   all_goals exact rq1 rfl ⟨by first | rfl | (congr 1; exact decide_eq_true (by omega)), g1.trans au_⟩
 have eL : diaL 0 D = D := by unfold diaL; rw [if_neg (by simp), if_neg h64d]
 have eE : diaE 0 D = 0 := by unfold diaE; rw [if_neg (by simp), if_neg h64d]
 rw [eL, eE] at q67
 obtain ⟨hen, z0, z2, z3, z5, hz, hzs⟩ := hdg (by omega)
 obtain ⟨N, hN⟩ : ∃ N, D.length = N := ⟨_, rfl⟩
 rw [hN] at q67 h64d hz hdle
 have q51D := fun (h' : H) (v : Value) (s1 : Sl G h' 3 v N (D.flatMap En.cells)) (w' : Wf h') => cf_formW (c51 s1 hN (by omega) w')
 have q40D := fun (h' : H) (v : Value) (s1 : Sl G h' 3 v N (D.flatMap En.cells)) (w' : Wf h') => cf_formW (c40 s1 hN (by omega) w')
 have q41D := fun (h' : H) (v : Value) (s1 : Sl G h' 3 v N (D.flatMap En.cells)) (w' : Wf h') => c41 s1 hN (by omega) w'
 have hHd : hrE D N = hrK D N := by unfold hrE; rw [if_neg (by simpa using hen)]
 rw [hHd, hz, hen] at q41D
 dsimp only [List.map] at q41D
 have hzb := hrK_bd (ens_ok hen).2 N
 rw [hz] at hzb
 have zb0 := hzb 0
 have zb2 := hzb 2
 have zb3 := hzb 3
 have zb5 := hzb 5
 simp only [List.getD, List.getElem?_cons_zero, List.getElem?_cons_succ, Option.getD_some] at zb0 zb2 zb3 zb5
 clear hzb hz hHd hen eL eE hdg
 refine bq_ (ι := Option Addr × Nat) (fun z => [(5, .pointer (some ⟨h.nx + 1, 0, some 0⟩)), (28, .slice z.1 N z.2), (29, .int .i64 (0))]) (fun z h' => (Wf h' ∧ Grow h16 h') ∧ Sl G h' 3 (.slice z.1 N z.2) N (D.flatMap En.cells)) ?_ ?_
 · clear q51D q40D q41D
   have n1 := g1.nx
   have l_aD := aD.lt
   repeat' (first | ((with_reducible refine bb_ ?_); ((with_reducible refine bd_ ?_); first | ((with_reducible refine ba_ ?_); refine aH_ (aa_ rfl) rfl rfl (ar_ rfl (aD_ rfl)) rfl rfl rfl ?_) | ((with_reducible refine bm_ ?_); refine aH_ (aa_ rfl) rfl rfl (ar_ rfl (aW_ rfl)) rfl rfl rfl ?_) | ((with_reducible refine aZ_ ?_); first | refine aO_ (aa_ rfl) rfl (ar_ rfl (aj_ (b := h.nx + 1) (off := 0) rfl ah_ Tryz.underlying37 rfl zs37 rfl rfl)) rfl rfl rfl ?_ | refine aO_ (aa_ rfl) rfl (ar_ rfl (aj_ (b := h.nx + 1) (off := 5) rfl ah_ Tryz.underlying39 rfl zs39 rfl rfl)) rfl rfl rfl ?_ | refine aO_ (aa_ rfl) rfl (ar_ rfl (ae_ (b := h.nx + 1) (off := 10) rfl ah_ Tryz.underlying40 rfl rfl)) rfl rfl rfl ?_ | refine aO_ (aa_ rfl) rfl (ar_ rfl (ae_ (b := h.nx + 1) (off := 11) rfl ah_ Tryz.underlying52 rfl rfl)) rfl rfl rfl ?_ | refine aO_ (aa_ rfl) rfl (ar_ rfl (ae_ (b := h.nx + 1) (off := 12) rfl ah_ Tryz.underlying52 rfl rfl)) rfl rfl rfl ?_) | ((with_reducible refine aC_ ?_); first | refine aH_ (aa_ rfl) rfl rfl (ar_ rfl (ab_ (o := 0) rfl Tryz.underlying127 rfl zs37 rfl)) rfl rfl rfl ?_ | refine aH_ (aa_ rfl) rfl rfl (ar_ rfl (ab_ (o := 5) rfl Tryz.underlying127 rfl zs70 rfl)) rfl rfl rfl ?_ | refine aH_ (aa_ rfl) rfl rfl (ar_ rfl (ab_ (o := 5) rfl Tryz.underlying70 rfl zs40 rfl)) rfl rfl rfl ?_ | refine aH_ (aa_ rfl) rfl rfl (ar_ rfl (ab_ (o := 0) rfl Tryz.underlying70 rfl zs39 rfl)) rfl rfl rfl ?_ | refine aH_ (aa_ rfl) rfl rfl (ar_ rfl (ab_ (o := 11) rfl Tryz.underlying127 rfl zs125 rfl)) rfl rfl rfl ?_ | refine aH_ (aa_ rfl) rfl rfl (ar_ rfl (ab_ (o := 0) rfl Tryz.underlying125 rfl zs52 rfl)) rfl rfl rfl ?_ | refine aH_ (aa_ rfl) rfl rfl (ar_ rfl (ab_ (o := 1) rfl Tryz.underlying125 rfl zs52 rfl)) rfl rfl rfl ?_) | ((with_reducible refine xk_extract ?_); refine aH_ (aa_ rfl) rfl rfl (ar_ rfl (op_extract rfl rfl)) rfl rfl rfl ?_) | ((with_reducible refine aV_ ?_); first | (refine aM_ (aa_ rfl) rfl rfl rfl rfl (q18 _ (g1.trans au_) aA_) rfl rfl ?_; rintro _ _ ⟨⟨a1, d1, rfl, s1⟩, hq⟩; all_goals (try (have hqn := hq.nx); try simp only [aU_] at hqn)) | (refine aM_ (aa_ rfl) rfl rfl rfl rfl (q68a _ (g1.trans au_) aA_) rfl rfl ?_; rintro _ _ ⟨⟨a2, d2, rfl, s2⟩, hq⟩; all_goals (try (have hqn := hq.nx); try simp only [aU_] at hqn)) | (refine aM_ (aa_ rfl) rfl rfl rfl rfl (q68b _ (g1.trans au_) aA_) rfl rfl ?_; rintro _ _ ⟨⟨a3, d3, rfl, s3⟩, hq⟩; all_goals (try (have hqn := hq.nx); try simp only [aU_] at hqn)) | (refine aM_ (aa_ rfl) rfl rfl rfl rfl (q67 _ _ _ _ hpm hwm (s1.grow au_) (s2.grow au_) (s3.grow au_) aA_) rfl rfl ?_; rintro _ _ ⟨⟨da, dc, rfl, sd0⟩, hq⟩; all_goals (try (have hqn := hq.nx); try simp only [aU_] at hqn))) | with_reducible refine bj_ ?_ ?_)) | with_reducible exact aP_ | with_reducible refine aJ_ ?_ ?_ | ((with_reducible refine bi_ ?_); first | exact aS_ | refine aQ_ rfl ?_ | refine am_ rfl rfl (ar_ rfl (aj_ (b := h.nx + 1) (off := 0) rfl ah_ Tryz.underlying37 rfl zs37 (by rfl) rfl)) ?_ | refine am_ rfl rfl (ar_ rfl (aj_ (b := h.nx + 1) (off := 5) rfl ah_ Tryz.underlying39 rfl zs39 (by rfl) rfl)) ?_ | refine am_ rfl rfl (ar_ rfl (ae_ (b := h.nx + 1) (off := 10) rfl ah_ Tryz.underlying40 rfl (by rfl))) ?_ | refine am_ rfl rfl (ar_ rfl (ae_ (b := h.nx + 1) (off := 11) rfl ah_ Tryz.underlying52 rfl (by rfl))) ?_ | refine am_ rfl rfl (ar_ rfl (ae_ (b := h.nx + 1) (off := 12) rfl ah_ Tryz.underlying52 rfl (by rfl))) ?_) | refine aF_ (id := 33) 23 [0, 1, 0, 4, 12, 0, 32, 96, 224, 0, 512, 1536, 4064, 0, 8192, 24576, 65504, 131071, 262143, 524287, 524287, 1048575, 4194303] [0, 1, 2, 3, 4, 5, 6, 7, 8, 9, 10, 11, 12, 13, 14, 15, 16, 17, 18, 19, 20, 21, 22] (by kernel_rfl) (by kernel_rfl) rfl rfl ?_)
   exact ⟨rfl, (da, dc), af_ ⟨rfl, rfl, rfl, trivial⟩, ⟨aA_, au_⟩, sd0.grow au_⟩
 clear w1 q18 q68a q68b q67
 rintro z h17 ⟨⟨w1, g2⟩, sd⟩
 have aD := aD.grow g2
 have g1 := g1.trans g2
 clear g2
 obtain ⟨da, dc⟩ := z
 dsimp only at sd ⊢
 refine bq_ (ι := Unit) (fun _ => [(5, .pointer (some ⟨h.nx + 1, 0, some 0⟩)), (28, .slice da N dc)]) (fun _ h' => (Wf h' ∧ Grow h17 h')) ?_ ?_
 · clear q51D q40D q41D
   have n1 := g1.nx
   have l_aD := aD.lt
   repeat' (first | with_reducible refine ad_ ?_ | ((with_reducible refine ac_ ?_); refine ao_ ?_) | refine ap_ ?_)
   exact ⟨rfl, (), af_ ⟨rfl, rfl, trivial⟩, ⟨aA_, au_⟩⟩
 clear w1
 rintro _ h18 ⟨w1, g2⟩
 have aD := aD.grow g2
 have sd := sd.grow g2
 have g1 := g1.trans g2
 clear g2
 refine bq_ (ι := Unit) (fun _ => [(5, .pointer (some ⟨h.nx + 1, 0, some 0⟩)), (28, .slice da N dc), (30, .int .i64 (0))]) (fun _ h' => (Wf h' ∧ Grow h18 h')) ?_ ?_
 · clear q51D q40D q41D
   have n1 := g1.nx
   have l_aD := aD.lt
   repeat' (first | with_reducible refine ad_ ?_ | ((with_reducible refine ac_ ?_); ((with_reducible refine cx_ ?_); refine aq_ (aW_ rfl) ?_)) | with_reducible refine bk_ ?_)
   exact ⟨rfl, (), af_ ⟨rfl, rfl, rfl, trivial⟩, ⟨aA_, au_⟩⟩
 clear w1
 rintro _ h19 ⟨w1, g2⟩
 have aD := aD.grow g2
 have sd := sd.grow g2
 have g1 := g1.trans g2
 clear g2
 refine bq_ (ι := Unit) (fun _ => [(5, .pointer (some ⟨h.nx + 1, 0, some 0⟩)), (28, .slice da N dc), (30, .int .i64 ((T : Nat)))]) (fun _ h' => (Wf h' ∧ Grow h19 h')) ?_ ?_
 · clear q51D q40D q41D
   have n1 := g1.nx
   have l_aD := aD.lt
   refine bq_ (ι := Unit) (fun _ => [(5, .pointer (some ⟨h.nx + 1, 0, some 0⟩)), (28, .slice da N dc), (30, .int .i64 0), (305, .slice da N dc), (306, .int .i64 (N : Nat)), (307, .int .i64 (0 : Nat))]) (fun _ h' => h19 = h') ?_ ?_
   · repeat' (first | with_reducible refine ad_ ?_ | ((with_reducible refine ac_ ?_); first | ((with_reducible refine av_ ?_); refine aq_ (ax_ rfl Tryz.underlying85) ?_) | refine ao_ ?_) | with_reducible refine bk_ ?_)
     exact ⟨rfl, (), af_ ⟨rfl, rfl, rfl, rfl, rfl, rfl, trivial⟩, rfl⟩
   rintro _ _ rfl
   refine wc_block ?_
   refine bo_ (fun p : Nat × Int => N - p.1) (fun p : Nat × Int => [(5, .pointer (some ⟨h.nx + 1, 0, some 0⟩)), (28, .slice da N dc), (30, .int .i64 p.2), (305, .slice da N dc), (306, .int .i64 (N : Nat)), (307, .int .i64 (p.1 : Nat))]) (fun p h' => (Wf h' ∧ Grow h19 h') ∧ p.1 ≤ N ∧ dOk (D.drop p.1) p.2 (pcK D p.1) T) (0, 0) (af_ ⟨rfl, rfl, rfl, rfl, rfl, rfl, trivial⟩) ⟨⟨aA_, au_⟩, Nat.zero_le _, hdo⟩ ?_
   clear w1 hdo hzs zb0 zb2 zb3 zb5 hdle htb
   rintro ⟨k, a⟩ h6 ⟨⟨w1, g2⟩, hk, hok⟩
   simp only at hk hok ⊢
   have n6 := g2.nx
   by_cases hlt : k < N
   · obtain ⟨id, i1, i3⟩ := cw_ En.len ⟨0, 0, .empty⟩ (sd.grow g2) hN Tryz.underlying85 bt_ (i := (k : Int)) hlt rfl
     rw [drop_next ⟨0, 0, .empty⟩ (by omega)] at hok
     have hpc : pcK D (k + 1) = some (D.getD k ⟨0, 0, .empty⟩).c := by unfold pcK; rw [if_neg (by omega), Nat.add_sub_cancel]
     obtain ⟨o1, o2, o3, o4⟩ := dOk_cons hok
     obtain ⟨x0, hx⟩ : ∃ x, D.getD k ⟨0, 0, .empty⟩ = x := ⟨_, rfl⟩
     rw [hx] at i3 o1 o2 o3 o4 hpc
     rw [← hpc] at o4
     clear hx hok hpc
     obtain ⟨f, t', cz⟩ := x0
     dsimp only [En.cells] at i3
     dsimp only at o1 o2 o3 o4
     subst o1
     by_cases hk0 : 0 < k
     · obtain ⟨jd, j1, j3⟩ := cw_ En.len ⟨0, 0, .empty⟩ (sd.grow g2) hN Tryz.underlying85 bt_ (i := (k : Int) - 1) (q := k - 1) (by omega) (by omega)
       have hne : ¬cz = (D.getD (k - 1) ⟨0, 0, .empty⟩).c := fun q => o3 (by unfold pcK; rw [if_neg (by omega), q])
       obtain ⟨y0, hy⟩ : ∃ x, D.getD (k - 1) ⟨0, 0, .empty⟩ = x := ⟨_, rfl⟩
       rw [hy] at j3 hne
       clear hy o3
       obtain ⟨f1, t1, c1z⟩ := y0
       dsimp only at hne
       have jc := fun (h' : H) (g' : Grow h6 h') => (show acell G h' (aadd jd 2) = some (.string c1z) from (j3 h' g').get 2 _ rfl)
       repeat' (first | with_reducible refine ad_ ?_ | ((with_reducible refine ac_ ?_); first | ((with_reducible refine an_ ?_); refine aq_ (ag_ rfl rfl i1) ?_) | ((with_reducible refine al_ ?_); first | refine aq_ (aN_ rfl Tryz.underlying133 rfl bt_ (i3 _ au_).all) ?_ | refine aq_ (ae_ (b := h6.nx) (off := 1) rfl ah_ Tryz.underlying3 rfl rfl) ?_) | ((with_reducible refine ay_ ?_); refine bQ_ (aB_ rfl rfl ah_ bt_ rfl rfl rfl rfl) ?_) | refine ao_ ?_) | ((with_reducible refine bb_ ?_); ((with_reducible refine bd_ ?_); first | ((with_reducible refine ba_ ?_); refine aH_ (aa_ rfl) rfl rfl (ar_ rfl (aD_ rfl)) rfl rfl rfl ?_) | ((with_reducible refine aZ_ ?_); refine aO_ (aa_ rfl) rfl (ar_ rfl (ae_ (b := h6.nx) (off := 0) rfl ah_ Tryz.underlying3 rfl rfl)) rfl rfl rfl ?_) | ((with_reducible refine bD_ ?_); refine aH_ (aa_ rfl) rfl rfl (ar_ rfl (cH_ rfl rfl)) rfl rfl rfl ?_) | ((with_reducible refine cj_ ?_); refine aH_ (aa_ rfl) rfl rfl (ar_ rfl (ct_ rfl rfl)) rfl rfl rfl ?_) | ((with_reducible refine aC_ ?_); first | refine aH_ (aa_ rfl) rfl rfl (ar_ rfl (ab_ (o := 0) rfl Tryz.underlying133 rfl zs79 rfl)) rfl rfl rfl ?_ | refine aH_ (aa_ rfl) rfl rfl (ar_ rfl (ab_ (o := 0) rfl Tryz.underlying79 rfl zs3 rfl)) rfl rfl rfl ?_) | ((with_reducible refine xk_g ?_); first | ((with_reducible refine cJ_ ?_); refine aH_ (aL_ rfl rfl rfl) rfl rfl (ar_ rfl (aD_ rfl)) rfl rfl rfl ?_) | ((with_reducible refine bJ_ ?_); refine aH_ (aL_ rfl rfl rfl) rfl rfl (ar_ rfl (ag_ rfl rfl j1)) rfl rfl rfl ?_) | ((with_reducible refine cK_ ?_); first | refine aO_ (aL_ rfl rfl rfl) rfl (ar_ rfl (ae_ (b := h6.nx) (off := 1) rfl ah_ Tryz.underlying3 rfl rfl)) rfl rfl rfl ?_ | refine aO_ (aL_ rfl rfl rfl) rfl (ar_ rfl (ae_ (b := h6.nx) (off := 2) rfl ah_ Tryz.underlying9 rfl rfl)) rfl rfl rfl ?_ | refine aO_ (aL_ rfl rfl rfl) rfl (ar_ rfl (az_ rfl Tryz.underlying9 rfl (jc _ au_))) rfl rfl rfl ?_) | ((with_reducible refine xg_bin ?_); first | refine aH_ (aL_ rfl rfl rfl) rfl rfl (ar_ rfl (op_seqN rfl rfl hne)) rfl rfl rfl ?_ | refine aH_ (aL_ rfl rfl rfl) rfl rfl (ar_ rfl (bM_ rfl rfl)) rfl rfl rfl ?_ | refine aH_ (aL_ rfl rfl rfl) rfl rfl (ar_ rfl (bY_ rfl rfl (w64 (by omega) (by omega)))) rfl rfl rfl ?_ | refine aH_ (aL_ rfl rfl rfl) rfl rfl (ar_ rfl (op_leq rfl rfl)) rfl rfl rfl ?_) | ((with_reducible refine xg_pick ?_); refine aH_ (aL_ rfl rfl rfl) rfl rfl (ar_ rfl (cb_ rfl rfl)) rfl rfl rfl ?_) | ((with_reducible refine cl_ ?_); first | refine aH_ (aL_ rfl rfl rfl) rfl rfl (ar_ rfl (ab_ (o := 0) rfl Tryz.underlying133 rfl zs79 rfl)) rfl rfl rfl ?_ | refine aH_ (aL_ rfl rfl rfl) rfl rfl (ar_ rfl (ab_ (o := 1) rfl Tryz.underlying79 rfl zs3 rfl)) rfl rfl rfl ?_ | refine aH_ (aL_ rfl rfl rfl) rfl rfl (ar_ rfl (ab_ (o := 2) rfl Tryz.underlying133 rfl zs9 rfl)) rfl rfl rfl ?_) | (refine bO_ rfl rfl rfl (fun hb => aw_ hb) (fun hb => ?_); (try simp only [aX_, reduceCtorEq] at hb)) | (refine bO_ rfl rfl rfl (fun hb => ?_) (fun hb => aw_ hb); (try simp only [aX_, reduceCtorEq] at hb)) | (refine bO_ rfl rfl rfl (fun hb => (of_decide_eq_true hb rfl).elim) (fun hb => ?_); (try simp only [aX_, reduceCtorEq] at hb))) | with_reducible refine bj_ ?_ ?_)) | with_reducible exact aP_ | with_reducible refine aJ_ ?_ ?_ | ((with_reducible refine bi_ ?_); first | exact aS_ | refine am_ rfl rfl (ar_ rfl (ae_ (b := h6.nx) (off := 0) rfl ah_ Tryz.underlying3 rfl (by rfl))) ?_ | refine am_ rfl rfl (ar_ rfl (ae_ (b := h6.nx) (off := 1) rfl ah_ Tryz.underlying3 rfl (by rfl))) ?_ | refine am_ rfl rfl (ar_ rfl (ae_ (b := h6.nx) (off := 2) rfl ah_ Tryz.underlying9 rfl (by rfl))) ?_ | refine am_ rfl rfl (ar_ rfl (az_ rfl Tryz.underlying9 rfl (jc _ au_))) ?_) | refine ap_ ?_ | (refine aG_ rfl (fun hb => ?_) (fun hb => aw_ hb); (try simp only [aX_, reduceCtorEq] at hb)) | refine aF_ (id := 40) 27 [0, 1, 3, 0, 15, 31, 63, 127, 255, 63, 1023, 2047, 4095, 8191, 16383, 32767, 65535, 131071, 65535, 65535, 589823, 1900543, 3997695, 8191999, 16777215, 33554431, 67108863] [0, 1, 2, 3, 4, 5, 6, 7, 8, 9, 10, 11, 12, 13, 14, 15, 16, 17, 18, 19, 20, 21, 22, 23, 24, 25, 26] (by kernel_rfl) (by kernel_rfl) rfl rfl ?_)
       exact aI_ (k + 1, t') (by simp only; omega) (af_ ⟨rfl, rfl, rfl, rfl, rfl, rfl, trivial⟩) ⟨⟨aA_, au_⟩, by simp only; omega, o4⟩
     · repeat' (first | with_reducible refine ad_ ?_ | ((with_reducible refine ac_ ?_); first | ((with_reducible refine an_ ?_); refine aq_ (ag_ rfl rfl i1) ?_) | ((with_reducible refine al_ ?_); first | refine aq_ (aN_ rfl Tryz.underlying133 rfl bt_ (i3 _ au_).all) ?_ | refine aq_ (ae_ (b := h6.nx) (off := 1) rfl ah_ Tryz.underlying3 rfl rfl) ?_) | ((with_reducible refine ay_ ?_); refine bQ_ (aB_ rfl rfl ah_ bt_ rfl rfl rfl rfl) ?_) | refine ao_ ?_) | ((with_reducible refine bb_ ?_); ((with_reducible refine bd_ ?_); first | ((with_reducible refine ba_ ?_); refine aH_ (aa_ rfl) rfl rfl (ar_ rfl (aD_ rfl)) rfl rfl rfl ?_) | ((with_reducible refine aZ_ ?_); refine aO_ (aa_ rfl) rfl (ar_ rfl (ae_ (b := h6.nx) (off := 0) rfl ah_ Tryz.underlying3 rfl rfl)) rfl rfl rfl ?_) | ((with_reducible refine cj_ ?_); refine aH_ (aa_ rfl) rfl rfl (ar_ rfl (ct_ rfl rfl)) rfl rfl rfl ?_) | ((with_reducible refine aC_ ?_); first | refine aH_ (aa_ rfl) rfl rfl (ar_ rfl (ab_ (o := 0) rfl Tryz.underlying133 rfl zs79 rfl)) rfl rfl rfl ?_ | refine aH_ (aa_ rfl) rfl rfl (ar_ rfl (ab_ (o := 0) rfl Tryz.underlying79 rfl zs3 rfl)) rfl rfl rfl ?_) | ((with_reducible refine bD_ ?_); refine aH_ (aa_ rfl) rfl rfl (ar_ rfl (cH_ rfl rfl)) rfl rfl rfl ?_) | ((with_reducible refine xk_g ?_); first | refine wx_s (wt_skip rfl rfl rfl rfl) rfl rfl ?_ | ((with_reducible refine cJ_ ?_); refine aH_ (aL_ rfl rfl rfl) rfl rfl (ar_ rfl (aD_ rfl)) rfl rfl rfl ?_) | ((with_reducible refine cK_ ?_); refine aO_ (aL_ rfl rfl rfl) rfl (ar_ rfl (ae_ (b := h6.nx) (off := 1) rfl ah_ Tryz.underlying3 rfl rfl)) rfl rfl rfl ?_) | ((with_reducible refine xg_pick ?_); refine aH_ (aL_ rfl rfl rfl) rfl rfl (ar_ rfl (ct_ rfl rfl)) rfl rfl rfl ?_) | ((with_reducible refine cl_ ?_); first | refine aH_ (aL_ rfl rfl rfl) rfl rfl (ar_ rfl (ab_ (o := 0) rfl Tryz.underlying133 rfl zs79 rfl)) rfl rfl rfl ?_ | refine aH_ (aL_ rfl rfl rfl) rfl rfl (ar_ rfl (ab_ (o := 1) rfl Tryz.underlying79 rfl zs3 rfl)) rfl rfl rfl ?_) | ((with_reducible refine xg_bin ?_); first | refine aH_ (aL_ rfl rfl rfl) rfl rfl (ar_ rfl (bM_ rfl rfl)) rfl rfl rfl ?_ | refine aH_ (aL_ rfl rfl rfl) rfl rfl (ar_ rfl (op_leq rfl rfl)) rfl rfl rfl ?_) | (refine bO_ rfl rfl rfl (fun hb => aw_ hb) (fun hb => ?_); (try simp only [aX_, reduceCtorEq] at hb)) | (refine bO_ rfl rfl rfl (fun hb => (of_decide_eq_true hb rfl).elim) (fun hb => ?_); (try simp only [aX_, reduceCtorEq] at hb))) | with_reducible refine bj_ ?_ ?_)) | with_reducible exact aP_ | with_reducible refine aJ_ ?_ ?_ | ((with_reducible refine bi_ ?_); first | exact aS_ | refine am_ rfl rfl (ar_ rfl (ae_ (b := h6.nx) (off := 0) rfl ah_ Tryz.underlying3 rfl (by rfl))) ?_ | refine am_ rfl rfl (ar_ rfl (ae_ (b := h6.nx) (off := 1) rfl ah_ Tryz.underlying3 rfl (by rfl))) ?_) | refine ap_ ?_ | (refine aG_ rfl (fun hb => ?_) (fun hb => aw_ hb); (try simp only [aX_, reduceCtorEq] at hb)) | refine aF_ (id := 40) 27 [0, 1, 3, 0, 15, 31, 63, 127, 255, 63, 1023, 2047, 4095, 8191, 16383, 32767, 65535, 131071, 65535, 65535, 589823, 1900543, 3997695, 8191999, 16777215, 33554431, 67108863] [0, 1, 2, 3, 4, 5, 6, 7, 8, 9, 10, 11, 12, 13, 14, 15, 16, 17, 18, 19, 20, 21, 22, 23, 24, 25, 26] (by kernel_rfl) (by kernel_rfl) rfl rfl ?_)
       exact aI_ (k + 1, t') (by simp only; omega) (af_ ⟨rfl, rfl, rfl, rfl, rfl, rfl, trivial⟩) ⟨⟨aA_, au_⟩, by simp only; omega, o4⟩
   · have hkn : k = N := by omega
     subst hkn
     rw [List.drop_of_length_le (by omega)] at hok
     have ha := dOk_nil hok
     subst ha
     repeat' (first | with_reducible refine ad_ ?_ | ((with_reducible refine ac_ ?_); ((with_reducible refine bG_ ?_); refine aq_ (cI_ rfl rfl) ?_)) | refine ap_ ?_ | (refine aG_ rfl (fun hb => aw_ hb) (fun hb => ?_); (try simp only [aX_, reduceCtorEq] at hb)))
     exact ⟨rfl, (), af_ ⟨rfl, rfl, rfl, trivial⟩, w1, g2⟩
 clear w1
 rintro _ h20 ⟨w1, g2⟩
 have aD := aD.grow g2
 have sd := sd.grow g2
 have g1 := g1.trans g2
 clear g2
 refine bq_ (ι := Nat) (fun b33 => [(5, .pointer (some ⟨h.nx + 1, 0, some 0⟩)), (30, .int .i64 ((T : Nat))), (33, .pointer (some ⟨b33, 0, some 0⟩)), (34, .int .i64 (0))]) (fun b33 h' => (Wf h' ∧ Grow h20 h') ∧ At h' b33 (.cells [.int .i64 z0, .int .i64 0, .int .i64 z2, .int .i64 z3, .int .i64 0, .int .i64 z5] 22 6 false)) ?_ ?_
 · have n1 := g1.nx
   have l_aD := aD.lt
   repeat' (first | with_reducible refine ad_ ?_ | ((with_reducible refine ac_ ?_); first | ((with_reducible refine ay_ ?_); refine bQ_ (aB_ rfl rfl ah_ zs22 rfl rfl rfl rfl) ?_) | ((with_reducible refine at_ ?_); first | (refine as_ rfl rfl rfl rfl (q51D _ _ (sd.grow au_) aA_) rfl rfl ?_; rintro _ _ ⟨⟨oa, od, rfl, so1⟩, hq⟩; all_goals (try (have hqn := hq.nx); try simp only [aU_] at hqn)) | (refine as_ rfl rfl rfl rfl (q40D _ _ (so1.grow au_) aA_) rfl rfl ?_; rintro _ _ ⟨⟨a3, d3, rfl, s3⟩, hq⟩; all_goals (try (have hqn := hq.nx); try simp only [aU_] at hqn)) | (refine as_ rfl rfl rfl rfl (q41D _ _ (s3.grow au_) aA_) rfl rfl ?_; rintro _ _ ⟨rfl, hq⟩; all_goals (try (have hqn := hq.nx); try simp only [aU_] at hqn))) | refine ao_ ?_) | with_reducible refine bk_ ?_)
   exact ⟨rfl, _, af_ ⟨rfl, rfl, rfl, rfl, trivial⟩, ⟨aA_, au_⟩, ah_⟩
 clear w1 q51D q40D q41D
 rintro b33 h21 ⟨⟨w1, g2⟩, a33⟩
 have aD := aD.grow g2
 have sd := sd.grow g2
 have g1 := g1.trans g2
 clear g2
 refine bq_ (ι := Unit) (fun _ => [(5, .pointer (some ⟨h.nx + 1, 0, some 0⟩)), (30, .int .i64 ((T : Nat))), (33, .pointer (some ⟨b33, 0, some 0⟩)), (34, .int .i64 (0)), (35, .int .i64 (0))]) (fun _ h' => (Wf h' ∧ Grow h21 h')) ?_ ?_
 · have n1 := g1.nx
   have l_aD := aD.lt
   have l_a33 := a33.lt
   repeat' (first | with_reducible refine ad_ ?_ | ((with_reducible refine ac_ ?_); ((with_reducible refine cx_ ?_); refine aq_ (aW_ rfl) ?_)) | with_reducible refine bk_ ?_)
   exact ⟨rfl, (), af_ ⟨rfl, rfl, rfl, rfl, rfl, trivial⟩, ⟨aA_, au_⟩⟩
 clear w1
 rintro _ h22 ⟨w1, g2⟩
 have aD := aD.grow g2
 have sd := sd.grow g2
 have a33 := a33.grow g2
 have g1 := g1.trans g2
 clear g2
 refine bq_ (ι := Unit) (fun _ => [(5, .pointer (some ⟨h.nx + 1, 0, some 0⟩)), (30, .int .i64 ((T : Nat))), (33, .pointer (some ⟨b33, 0, some 0⟩)), (34, .int .i64 (0)), (35, .int .i64 ((T : Nat)))]) (fun _ h' => (Wf h' ∧ Grow h22 h')) ?_ ?_
 · have n1 := g1.nx
   have l_aD := aD.lt
   have l_a33 := a33.lt
   refine bq_ (ι := Unit) (fun _ => [(5, .pointer (some ⟨h.nx + 1, 0, some 0⟩)), (30, .int .i64 ((T : Nat))), (33, .pointer (some ⟨b33, 0, some 0⟩)), (34, .int .i64 (0)), (35, .int .i64 (sumZ z0 z2 z3 z5 0)), (350, .agg ⟨[.int .i64 z0, .int .i64 0, .int .i64 z2, .int .i64 z3, .int .i64 0, .int .i64 z5]⟩), (351, .int .i64 (0 : Nat))]) (fun _ h' => h22 = h') ?_ ?_
   · repeat' (first | with_reducible refine ad_ ?_ | ((with_reducible refine ac_ ?_); first | ((with_reducible refine al_ ?_); refine aq_ (aj_ (b := b33) (off := 0) rfl ah_ Tryz.underlying22 rfl zs22 rfl rfl) ?_) | refine ao_ ?_) | with_reducible refine bk_ ?_)
     exact ⟨rfl, (), af_ ⟨rfl, rfl, rfl, rfl, rfl, rfl, rfl, trivial⟩, rfl⟩
   rintro _ _ rfl
   refine wc_block ?_
   refine bo_ (fun k => 6 - k) (fun k : Nat => [(5, .pointer (some ⟨h.nx + 1, 0, some 0⟩)), (30, .int .i64 ((T : Nat))), (33, .pointer (some ⟨b33, 0, some 0⟩)), (34, .int .i64 (0)), (35, .int .i64 (sumZ z0 z2 z3 z5 k)), (350, .agg ⟨[.int .i64 z0, .int .i64 0, .int .i64 z2, .int .i64 z3, .int .i64 0, .int .i64 z5]⟩), (351, .int .i64 (k : Nat))]) (fun k h' => h22 = h' ∧ k ≤ 6) 0 (af_ ⟨rfl, rfl, rfl, rfl, rfl, rfl, rfl, trivial⟩) ⟨rfl, by omega⟩ ?_
   rintro k _ ⟨rfl, hk⟩
   by_cases hlt : k < 6
   · match k, hlt with
     | 0, _ =>
       repeat' (first | with_reducible refine ad_ ?_ | ((with_reducible refine ac_ ?_); first | ((with_reducible refine bv_ ?_); refine aq_ (by_ (v := .int .i64 z0) rfl rfl Tryz.underlying22 zs3 (by decide) (by decide) rfl) ?_) | ((with_reducible refine bG_ ?_); refine aq_ (cn_ rfl rfl (v := 0 + z0) rfl (by omega)) ?_) | refine ao_ ?_) | refine ap_ ?_)
       exact aI_ (0 + 1) (by omega) (af_ ⟨rfl, rfl, rfl, rfl, rfl, rfl, rfl, trivial⟩) ⟨rfl, by omega⟩
     | 1, _ =>
       repeat' (first | with_reducible refine ad_ ?_ | ((with_reducible refine ac_ ?_); first | ((with_reducible refine bv_ ?_); refine aq_ (by_ (v := .int .i64 0) rfl rfl Tryz.underlying22 zs3 (by decide) (by decide) rfl) ?_) | ((with_reducible refine bG_ ?_); refine aq_ (cn_ rfl rfl (v := 0 + z0 + 0) rfl (by omega)) ?_) | refine ao_ ?_) | refine ap_ ?_)
       exact aI_ (1 + 1) (by omega) (af_ ⟨rfl, rfl, rfl, rfl, rfl, rfl, rfl, trivial⟩) ⟨rfl, by omega⟩
     | 2, _ =>
       repeat' (first | with_reducible refine ad_ ?_ | ((with_reducible refine ac_ ?_); first | ((with_reducible refine bv_ ?_); refine aq_ (by_ (v := .int .i64 z2) rfl rfl Tryz.underlying22 zs3 (by decide) (by decide) rfl) ?_) | ((with_reducible refine bG_ ?_); refine aq_ (cn_ rfl rfl (v := 0 + z0 + 0 + z2) rfl (by omega)) ?_) | refine ao_ ?_) | refine ap_ ?_)
       exact aI_ (2 + 1) (by omega) (af_ ⟨rfl, rfl, rfl, rfl, rfl, rfl, rfl, trivial⟩) ⟨rfl, by omega⟩
     | 3, _ =>
       repeat' (first | with_reducible refine ad_ ?_ | ((with_reducible refine ac_ ?_); first | ((with_reducible refine bv_ ?_); refine aq_ (by_ (v := .int .i64 z3) rfl rfl Tryz.underlying22 zs3 (by decide) (by decide) rfl) ?_) | ((with_reducible refine bG_ ?_); refine aq_ (cn_ rfl rfl (v := 0 + z0 + 0 + z2 + z3) rfl (by omega)) ?_) | refine ao_ ?_) | refine ap_ ?_)
       exact aI_ (3 + 1) (by omega) (af_ ⟨rfl, rfl, rfl, rfl, rfl, rfl, rfl, trivial⟩) ⟨rfl, by omega⟩
     | 4, _ =>
       repeat' (first | with_reducible refine ad_ ?_ | ((with_reducible refine ac_ ?_); first | ((with_reducible refine bv_ ?_); refine aq_ (by_ (v := .int .i64 0) rfl rfl Tryz.underlying22 zs3 (by decide) (by decide) rfl) ?_) | ((with_reducible refine bG_ ?_); refine aq_ (cn_ rfl rfl (v := 0 + z0 + 0 + z2 + z3 + 0) rfl (by omega)) ?_) | refine ao_ ?_) | refine ap_ ?_)
       exact aI_ (4 + 1) (by omega) (af_ ⟨rfl, rfl, rfl, rfl, rfl, rfl, rfl, trivial⟩) ⟨rfl, by omega⟩
     | 5, _ =>
       repeat' (first | with_reducible refine ad_ ?_ | ((with_reducible refine ac_ ?_); first | ((with_reducible refine bv_ ?_); refine aq_ (by_ (v := .int .i64 z5) rfl rfl Tryz.underlying22 zs3 (by decide) (by decide) rfl) ?_) | ((with_reducible refine bG_ ?_); refine aq_ (cn_ rfl rfl (v := 0 + z0 + 0 + z2 + z3 + 0 + z5) rfl (by omega)) ?_) | refine ao_ ?_) | refine ap_ ?_)
       exact aI_ (5 + 1) (by omega) (af_ ⟨rfl, rfl, rfl, rfl, rfl, rfl, rfl, trivial⟩) ⟨rfl, by omega⟩
   · have e : k = 6 := by omega
     subst e
     rw [← hzs]
     repeat' (first | with_reducible refine ad_ ?_ | ((with_reducible refine ac_ ?_); ((with_reducible refine bG_ ?_); refine aq_ (cI_ rfl rfl) ?_)) | refine ap_ ?_)
     exact ⟨rfl, (), af_ ⟨rfl, rfl, rfl, rfl, rfl, trivial⟩, aA_, au_⟩
 clear w1
 rintro _ h23 ⟨w1, g2⟩
 have aD := aD.grow g2
 have sd := sd.grow g2
 have a33 := a33.grow g2
 have g1 := g1.trans g2
 clear g2
 have n1 := g1.nx
 have lD := aD.lt
 have l33 := a33.lt
 repeat' (first | with_reducible refine ad_ ?_ | ((with_reducible refine ac_ ?_); first | ((with_reducible refine al_ ?_); refine aq_ (ae_ (b := h.nx + 1) (off := 4) rfl ah_ Tryz.underlying3 rfl rfl) ?_) | ((with_reducible refine cC_ ?_); first | ((with_reducible refine bH_ ?_); refine ai_ rfl rfl rfl (aD_ rfl) rfl rfl ?_) | ((with_reducible refine bF_ ?_); first | refine ai_ rfl rfl rfl (ae_ (b := b33) (off := 1) rfl ah_ Tryz.underlying3 rfl rfl) rfl rfl ?_ | refine ai_ rfl rfl rfl (ae_ (b := b33) (off := 4) rfl ah_ Tryz.underlying3 rfl rfl) rfl rfl ?_) | ((with_reducible refine ig_indexAddr ?_); first | refine ai_ rfl rfl rfl (bs_ rfl rfl (k := 1) rfl Tryz.underlying22 zs3 (by omega)) rfl rfl ?_ | refine ai_ rfl rfl rfl (bs_ rfl rfl (k := 4) rfl Tryz.underlying22 zs3 (by omega)) rfl rfl ?_) | ((with_reducible refine bB_ ?_); refine ai_ rfl rfl rfl (op_eql rfl rfl) rfl rfl ?_) | ((with_reducible refine ig_callF (f := 15) ?_); refine ai_ rfl rfl rfl (aK_ rfl rfl (c15)) rfl rfl ?_) | (refine aY_ rfl rfl rfl (fun hb => ?_) (fun hb => (of_decide_eq_false hb rfl).elim); (try simp only [aX_, reduceCtorEq] at hb))) | refine ao_ ?_) | refine ap_ ?_)
 all_goals exact rq1 rfl ⟨rfl, g1.trans au_⟩
end Go.Proofs.YtlioomhcdlicmaaGreatDoor
