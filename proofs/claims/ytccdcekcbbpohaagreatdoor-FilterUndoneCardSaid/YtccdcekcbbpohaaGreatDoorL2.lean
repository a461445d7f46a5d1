/- The law FilterUndone, walked. -/
import Derived.Test.YtccdcekcbbpohaaGreatDoorL3
set_option linter.all false
/- The law FilterUndone, walked to its end. -/
namespace Go.Proofs.YtccdcekcbbpohaaGreatDoor
open Go Go.Ab Go.Fl
attribute [local irreducible] SeqQ BlkQ LpQ RetQ Wc Wo WD WX Op1 Op1q Op1a Cf Cl From
attribute [local irreducible] Ieee.Format.order Ieee.Format.read Ieee.Format.nearest Ieee.Format.write Ieee.Format.mul Ieee.Format.div Ieee.Datum.order Ieee.Datum.integral smpE smp smpW K J U sumN lchk tchk trE hdrE appL undL undA undI undU wr ghoL rnd mulL dghL dghA rngE pR pI resR resI resC cL tR tI rowE allE fz gtap notN
set_option maxRecDepth 10000
variable {G : Base} {h : H}

theorem c34n {d : Nat} (hd : 1 ≤ d) (hd64 : d ≤ 64) (hw : Wf h) : Cf (mz G) (.func (.func 34) #[] #[]) [.int .i64 (d : Nat)] h fun r h' => (∃ a c, r = .tuple #[.slice a (notN d 4).length c, .int .i64 0] ∧ Sl G h' 1 (.slice a (notN d 4).length c) (notN d 4).length ((notN d 4).map (.int .i64))) ∧ Grow h h' :=
  (c34s (d : Int) hw).mono fun r h' ⟨⟨i, q1, q2⟩, g⟩ => by
    have rD : rngE (d : Int) 1 64 = 0 := by unfold rngE; rw [if_neg (by omega)]
    rw [rD] at q1
    rcases q2 with ⟨q2, _⟩ | ⟨_, q2, q3⟩
    · exact absurd rD q2
    · rw [Int.toNat_natCast] at q2 q3
      rw [q2] at q1 q3
      exact ⟨⟨i.1, i.2.2, q1, q3⟩, g⟩
theorem op_eqT40r {M : Mc} {l : KL} {h : H} {x y : Operand} {ty : TypeId} {a b : Int} {r : Bool} (hM : M.P = Tryz.prog) (ha : a.natAbs ≤ 2) (hb0 : b.natAbs ≤ 2) (hx : val l x = some (.complex .f64 (fz a) (fz b))) (hy : val l y = some (.complex .f64 0 0)) (hr : decide (a = 0 ∧ b = 0) = r) : Op1 M (.binOp .eql 40 x y ty) l h (.bool r) h := hr ▸ op_eqT40 hM ha hb0 hx hy
theorem made_four {r : Value} {n : Nat} {E : Int} {L : List Int} (hE : E = 4) (m : MadeF G h r n E L) : r = .tuple #[.slice none 0 0, .int .i64 4] := by
  rcases m with ⟨_, q⟩ | ⟨q, _⟩
  · rw [hE] at q; exact q
  · rw [hE] at q; exact absurd q (by decide)
set_option maxHeartbeats 8000000 in
theorem c9m {a b : Option Addr} {m c n e x : Nat} {t : List Int} {l : List Nat} (s : Sl G h 1 (.slice a m c) m (t.map (.int .i64))) (u : Sl G h 1 (.slice b n e) n (l.map (.float .f32))) (hx : x ≤ 255) (zt : tchk t = 0) (hT : t.getD 0 0 = 1 ∨ t.getD 0 0 = -1) (zq : quietB l 100 = true) (hw : Wf h) (hG : ∀ a v, laidBase a = some v → G a = some v) : Cf (mz G) (.func (.func 9) #[] #[]) [.slice a m c, .slice b n e, .int .u8 (x : Nat)] h fun r h' => r = .bool true ∧ Grow h h' := by
  have htl := s.length
  have hll := u.length
  simp at htl hll
  obtain ⟨k3, k4, k5⟩ := tchk_ok zt
  have y0 := zq
  unfold quietB at y0
  obtain ⟨u0, v0, w0⟩ := of_decide_eq_true y0
  have hm6 : m < 1000000 := by omega
  have hn6 : n < 1000000 := by omega
  have e0 : ∀ z ∈ l, smpE z = 0 := fun z hz => firstNZ_zero v0 _ (List.mem_map_of_mem hz)
  have lc0 := lchk_of (by omega) e0
  have fb := fEq_back e0
  obtain ⟨L, hL⟩ : ∃ L, l.map smp = L := ⟨_, rfl⟩
  have bL : ∀ z ∈ L, z.natAbs ≤ 100 := fun z hz => by rw [← hL] at hz; obtain ⟨x, hx, rfl⟩ := List.mem_map.1 hz; exact w0 x hx
  have bL4 : ∀ z ∈ L, z.natAbs ≤ 16384 := fun z hz => Nat.le_trans (bL z hz) (by decide)
  have nL : L.length = n := by rw [← hL]; simpa using hll
  rw [hL] at fb
  -- the delay
  obtain ⟨d, hd⟩ : ∃ d, 1 + x % 24 = d := ⟨_, rfl⟩
  have hd1 : 1 ≤ d := by omega
  have hd24 : d ≤ 24 := by omega
  have dT : (d : Int).toNat = d := rfl
  have rD : rngE (d : Int) 1 64 = 0 := by unfold rngE; rw [if_neg (by omega)]
  -- what is made
  obtain ⟨A, hA⟩ : ∃ A, appL t L = A := ⟨_, rfl⟩
  obtain ⟨g, hg⟩ : ∃ A, ghoL L d = A := ⟨_, rfl⟩
  obtain ⟨D, hD⟩ : ∃ A, dghL L d = A := ⟨_, rfl⟩
  have bA : ∀ z ∈ A, z.natAbs ≤ 16384 := fun z hz => by
    rw [← hA] at hz
    have := appL_bound k4 bL z hz
    have h2 := Nat.mul_le_mul_right (16 * 100) k3.2
    omega
  have bg : ∀ z ∈ g, z.natAbs ≤ 16384 := fun z hz => by rw [← hg] at hz; have := gho_b bL d z hz; omega
  have bD : ∀ z ∈ D, z.natAbs ≤ 16384 := fun z hz => by
    rw [← hD] at hz; unfold dghL at hz
    have := dghA_boundC bL d _ z hz
    have h2 : L.length * 100 ≤ 24 * 100 := Nat.mul_le_mul_right _ (by omega)
    omega
  have nA : A.length = n := by rw [← hA, appL_len, nL]
  have ng : g.length = n := by rw [← hg]; simp [ghoL, nL]
  have nD : D.length = n := by rw [← hD]; unfold dghL; rw [dghA_len, nL]
  obtain ⟨mA, eA⟩ := made_smp bA
  obtain ⟨mg, eg⟩ := made_smp bg
  obtain ⟨mD, eD⟩ := made_smp bD
  have lcA := lchk_of (l := A.map smpW) (by simp; omega) eA
  have lcg := lchk_of (l := g.map smpW) (by simp; omega) eg
  have lcD := lchk_of (l := D.map smpW) (by simp; omega) eD
  have uA : undL t A = L := by rw [← hA]; exact und_app (by omega) (by omega) hT k4 bL4 (by rw [hA]; exact bA)
  have dg : dghL g d = L := by rw [← hg]; exact dgh_gho hd1
  have gD : ghoL D d = L := by rw [← hD]; exact gho_dgh hd1
  have F0 : ∀ {v w : Int}, v = 0 → w = 0 → firstNZ [v, w] = 0 := fun h1 h2 => by rw [h1, h2]; rfl
  have q14 := fun (h' : H) (v w : Value) (s' : Sl G h' 1 v m (t.map (.int .i64))) (u' : Sl G h' 1 w n (l.map (.float .f32))) (w' : Wf h') => (c14 (G := G) (h := h') s' u' hm6 hn6 w' hG).mono fun r h' ⟨q, g⟩ => And.intro (made_ok (by unfold appE; exact madeE_ok (F0 zt lc0) (by rw [hL, hA]; exact bA)) q) g
  have q21 := fun (h' : H) (v w : Value) (s' : Sl G h' 1 v m (t.map (.int .i64))) (u' : Sl G h' 1 w n ((A.map smpW).map (.float .f32))) (w' : Wf h') => (c21 (G := G) (h := h') s' u' hm6 hn6 w' hG).mono fun r h' ⟨q, g⟩ => And.intro (made_ok (by unfold undU; rw [if_neg (by rw [F0 zt lcA]; simp), if_neg (by omega)]; exact madeE_ok rfl (by rw [mA, uA]; exact bL4)) q) g
  have q32 := fun (h' : H) (w : Value) (u' : Sl G h' 1 w n (l.map (.float .f32))) (w' : Wf h') => (c32 (G := G) (h := h') (d : Int) u' hn6 w' hG).mono fun r h' ⟨q, g⟩ => And.intro (made_ok (madeE_ok (F0 lc0 rD) (by rw [hL, dT, hg]; exact bg)) q) g
  have r32 := fun (h' : H) (w : Value) (u' : Sl G h' 1 w n ((D.map smpW).map (.float .f32))) (w' : Wf h') => (c32 (G := G) (h := h') (d : Int) u' hn6 w' hG).mono fun r h' ⟨q, g⟩ => And.intro (made_ok (madeE_ok (F0 lcD rD) (by rw [mD, dT, gD]; exact bL4)) q) g
  have q33 := fun (h' : H) (w : Value) (u' : Sl G h' 1 w n ((g.map smpW).map (.float .f32))) (w' : Wf h') => (c33 (G := G) (h := h') (d : Int) u' hn6 w' hG).mono fun r h' ⟨q, g⟩ => And.intro (made_ok (madeE_ok (F0 lcg rD) (by rw [mg, dT, dg]; exact bL4)) q) g
  have r33 := fun (h' : H) (w : Value) (u' : Sl G h' 1 w n (l.map (.float .f32))) (w' : Wf h') => (c33 (G := G) (h := h') (d : Int) u' hn6 w' hG).mono fun r h' ⟨q, g⟩ => And.intro (made_ok (madeE_ok (F0 lc0 rD) (by rw [hL, dT, hD]; exact bD)) q) g
  rw [hL, hA] at q14
  rw [mA, uA] at q21
  rw [hL, dT, hg] at q32
  rw [mD, dT, gD] at r32
  rw [mg, dT, dg] at q33
  rw [hL, dT, hD] at r33
  refine cf_enter0 230 [.tmp 6] Tryz.func9 rfl rfl rfl rfl ?_
  refine wc_mid (ι := Unit) (fun _ => [(0, .slice a m c), (1, .slice b n e), (2, .int .u8 (x : Nat))]) (fun _ h' => (Wf h' ∧ Grow h h')) ?_ ?_
  · repeat' (first | with_reducible refine wo_nil ?_ | ((with_reducible refine wo_any ?_); ((with_reducible refine ik_assign ?_); refine wo_op rfl (op_assign rfl) rfl rfl ?_)) | with_reducible refine wc_region ?_)
    exact ⟨rfl, (), within_lk ⟨rfl, rfl, rfl, trivial⟩, wf_A, gr_A⟩
  rintro _ ha ⟨wa, ga⟩
  refine wc_mid (ι := Unit) (fun _ => [(0, .slice a m c), (1, .slice b n e), (2, .int .u8 (x : Nat))]) (fun _ h' => (Wf h' ∧ Grow h h')) ?_ ?_
  · have q12 := fun (h' : H) (g : Grow h h') => c12 (s.grow g) hm6
    have q13 := fun (h' : H) (g : Grow h h') => c13 (L := 100) (u.grow g) (by decide)
    rw [zt] at q12
    rw [zq] at q13
    have hm9 : m ≤ 9 := by omega
    obtain ⟨td, ti, t3⟩ := slI_at (s.grow ga) (i := 0) (q := 0) (by omega) (by omega)
    rcases hT with hT | hT
    · rw [hT] at t3
      repeat' (first | with_reducible refine wo_nil ?_ | ((with_reducible refine wo_any ?_); first | ((with_reducible refine ik_move ?_); refine wo_op rfl (op_move rfl) rfl rfl ?_) | ((with_reducible refine ik_un ?_); refine wo_op rfl (op_not rfl) rfl rfl ?_) | ((with_reducible refine ik_pick ?_); refine wo_op rfl (op_pickf rfl rfl) rfl rfl ?_) | ((with_reducible refine ik_callF (f := 10) ?_); refine wo_op rfl (op_call rfl rfl (c10)) rfl rfl ?_) | ((with_reducible refine ik_g ?_); first | refine wo_gskip rfl rfl rfl rfl rfl rfl ?_ | ((with_reducible refine ig_move ?_); refine wo_grun rfl rfl rfl (op_move rfl) rfl rfl ?_) | ((with_reducible refine ig_indexAddr ?_); refine wo_grun rfl rfl rfl (op_indexAddr rfl rfl ti) rfl rfl ?_) | ((with_reducible refine ig_load ?_); refine wo_grun rfl rfl rfl (op_ldCell rfl Tryz.underlying3 rfl t3) rfl rfl ?_) | ((with_reducible refine ig_un ?_); refine wo_grun rfl rfl rfl (op_not rfl) rfl rfl ?_) | ((with_reducible refine ig_pick ?_); refine wo_grun rfl rfl rfl (op_pickf rfl rfl) rfl rfl ?_) | ((with_reducible refine ig_bin ?_); refine wo_grun rfl rfl rfl (op_neq rfl rfl) rfl rfl ?_) | ((with_reducible refine ig_callF (f := 11) ?_); refine wo_grun rfl rfl rfl (op_call rfl rfl (c11)) rfl rfl ?_) | ((with_reducible refine ig_callv ?_); first | refine wo_grun rfl rfl rfl (op_call rfl rfl (q12 _ gr_A)) rfl rfl ?_ | refine wo_grun rfl rfl rfl (op_call rfl rfl (q13 _ gr_A)) rfl rfl ?_) | (refine wo_gsplit rfl rfl rfl (fun hb => dead_A hb) (fun hb => ?_); (try simp only [decide_eq_true_eq, decide_eq_false_iff_not, Bool.not_eq_true', Bool.not_eq_false', Int.not_lt, Int.not_le, Decidable.not_not, not_true_eq_false, not_false_eq_true, beq_self_eq_true, reduceCtorEq] at hb)))) | with_reducible refine sq_norm ?_ | with_reducible refine wc_seq ?_ | with_reducible refine wc_region ?_ | with_reducible refine wc_skip ?_ | refine wc_iff rfl ?_)
      exact ⟨rfl, (), within_lk ⟨rfl, rfl, rfl, trivial⟩, wf_A, gr_A⟩
    · rw [hT] at t3
      repeat' (first | with_reducible refine wo_nil ?_ | ((with_reducible refine wo_any ?_); first | ((with_reducible refine ik_move ?_); refine wo_op rfl (op_move rfl) rfl rfl ?_) | ((with_reducible refine ik_un ?_); refine wo_op rfl (op_not rfl) rfl rfl ?_) | ((with_reducible refine ik_pick ?_); refine wo_op rfl (op_pickf rfl rfl) rfl rfl ?_) | ((with_reducible refine ik_callF (f := 10) ?_); refine wo_op rfl (op_call rfl rfl (c10)) rfl rfl ?_) | ((with_reducible refine ik_g ?_); first | ((with_reducible refine ig_move ?_); refine wo_grun rfl rfl rfl (op_move rfl) rfl rfl ?_) | ((with_reducible refine ig_indexAddr ?_); refine wo_grun rfl rfl rfl (op_indexAddr rfl rfl ti) rfl rfl ?_) | ((with_reducible refine ig_load ?_); refine wo_grun rfl rfl rfl (op_ldCell rfl Tryz.underlying3 rfl t3) rfl rfl ?_) | ((with_reducible refine ig_un ?_); refine wo_grun rfl rfl rfl (op_not rfl) rfl rfl ?_) | ((with_reducible refine ig_pick ?_); refine wo_grun rfl rfl rfl (op_pickt rfl rfl) rfl rfl ?_) | ((with_reducible refine ig_bin ?_); refine wo_grun rfl rfl rfl (op_neq rfl rfl) rfl rfl ?_) | ((with_reducible refine ig_callF (f := 11) ?_); refine wo_grun rfl rfl rfl (op_call rfl rfl (c11)) rfl rfl ?_) | ((with_reducible refine ig_callv ?_); first | refine wo_grun rfl rfl rfl (op_call rfl rfl (q12 _ gr_A)) rfl rfl ?_ | refine wo_grun rfl rfl rfl (op_call rfl rfl (q13 _ gr_A)) rfl rfl ?_) | (refine wo_gsplit rfl rfl rfl (fun hb => dead_A hb) (fun hb => ?_); (try simp only [decide_eq_true_eq, decide_eq_false_iff_not, Bool.not_eq_true', Bool.not_eq_false', Int.not_lt, Int.not_le, Decidable.not_not, not_true_eq_false, not_false_eq_true, beq_self_eq_true, reduceCtorEq] at hb)))) | with_reducible refine sq_norm ?_ | with_reducible refine wc_seq ?_ | with_reducible refine wc_region ?_ | with_reducible refine wc_skip ?_ | refine wc_iff rfl ?_)
      exact ⟨rfl, (), within_lk ⟨rfl, rfl, rfl, trivial⟩, wf_A, gr_A⟩
  clear wa ga ha
  rintro _ ha ⟨wa, ga⟩
  have la := ga.nx
  refine wc_mid (ι := Unit) (fun _ => [(0, .slice a m c), (1, .slice b n e), (7, .int .i64 (d : Nat))]) (fun _ h' => (Wf h' ∧ Grow h h')) ?_ ?_
  · have o1 : IntKind.wrap .i64 ((x : Nat) : Int) = ((x : Nat) : Int) := w64 (by omega) (by omega)
    have o2 : IntKind.wrap .i64 (1 + ((x % 24 : Nat) : Int)) = ((d : Nat) : Int) := by rw [← hd]; exact w64 (by omega) (by omega)
    repeat' (first | with_reducible refine wo_nil ?_ | ((with_reducible refine wo_any ?_); first | ((with_reducible refine ik_move ?_); refine wo_op rfl (op_move rfl) rfl rfl ?_) | ((with_reducible refine ik_assign ?_); refine wo_op rfl (op_assign rfl) rfl rfl ?_) | ((with_reducible refine ik_convert ?_); refine wo_op rfl (op_cvii rfl Tryz.underlying5 Tryz.underlying3 o1) rfl rfl ?_) | ((with_reducible refine ik_bin ?_); first | refine wo_op rfl (op_remN x 24 (x % 24) rfl rfl rfl rfl (by decide) rfl) rfl rfl ?_ | refine wo_op rfl (op_add' rfl rfl o2) rfl rfl ?_)) | with_reducible refine wc_region ?_)
    exact ⟨rfl, (), within_lk ⟨rfl, rfl, rfl, trivial⟩, wf_A, gr_A⟩
  clear wa ga ha la
  rintro _ ha ⟨wa, ga⟩
  have la := ga.nx
  refine wc_mid (ι := Option Addr × Nat) (fun i => [(0, .slice a m c), (1, .slice b n e), (7, .int .i64 (d : Nat)), (8, .slice i.1 n i.2), (9, .int .i64 0)]) (fun i h' => (Wf h' ∧ Grow h h') ∧ Sl G h' 1 (.slice i.1 n i.2) n (((A).map smpW).map (.float .f32))) ?_ ?_
  · repeat' (first | with_reducible refine wo_nil ?_ | ((with_reducible refine wo_any ?_); first | ((with_reducible refine ik_move ?_); refine wo_op rfl (op_move rfl) rfl rfl ?_) | ((with_reducible refine ik_assign ?_); refine wo_op rfl (op_assign rfl) rfl rfl ?_) | ((with_reducible refine ik_extract ?_); refine wo_op rfl (op_extract rfl rfl) rfl rfl ?_) | ((with_reducible refine ik_callF (f := 15) ?_); (refine wo_call rfl rfl rfl rfl (c15 (s.grow gr_A) hm6) rfl rfl ?_; rintro _ _ ⟨si, hq, hwi⟩; all_goals ((try (have hqn := hq.nx)); (try simp only [H.nx_push, H.nx_set, H.nx_bump] at hqn)))) | ((with_reducible refine ik_callF (f := 16) ?_); (refine wo_call rfl rfl rfl rfl (c16 (u.grow gr_A) hn6) rfl rfl ?_; rintro _ _ ⟨sf, hq, hwf⟩; all_goals ((try (have hqn := hq.nx)); (try simp only [H.nx_push, H.nx_set, H.nx_bump] at hqn)))) | ((with_reducible refine ik_callv ?_); (refine wo_call rfl rfl rfl rfl (q14 _ _ _ (si.grow gr_A) (sf.grow gr_A) wf_A) rfl rfl ?_; rintro _ _ ⟨⟨y8, z8, rfl, s8⟩, hq⟩; all_goals ((try (have hqn := hq.nx)); (try simp only [H.nx_push, H.nx_set, H.nx_bump] at hqn))))) | with_reducible refine wc_region ?_)
    exact ⟨rfl, (y8, z8), within_lk ⟨rfl, rfl, rfl, rfl, rfl, trivial⟩, ⟨wf_A, gr_A⟩, s8.grow gr_A⟩
  clear wa ga ha la 
  rintro ⟨y8, z8⟩ ha ⟨⟨wa, ga⟩, s8⟩
  simp only at s8 ⊢
  have la := ga.nx
  refine wc_mid (ι := Option Addr × Nat) (fun i => [(0, .slice a m c), (1, .slice b n e), (7, .int .i64 (d : Nat)), (8, .slice y8 n z8), (9, .int .i64 0), (10, .slice i.1 n i.2), (11, .int .i64 0)]) (fun i h' => (Wf h' ∧ Grow h h') ∧ Sl G h' 1 (.slice y8 n z8) n (((A).map smpW).map (.float .f32)) ∧ Sl G h' 1 (.slice i.1 n i.2) n (((g).map smpW).map (.float .f32))) ?_ ?_
  · repeat' (first | with_reducible refine wo_nil ?_ | ((with_reducible refine wo_any ?_); first | ((with_reducible refine ik_move ?_); refine wo_op rfl (op_move rfl) rfl rfl ?_) | ((with_reducible refine ik_assign ?_); refine wo_op rfl (op_assign rfl) rfl rfl ?_) | ((with_reducible refine ik_extract ?_); refine wo_op rfl (op_extract rfl rfl) rfl rfl ?_) | ((with_reducible refine ik_callF (f := 16) ?_); (refine wo_call rfl rfl rfl rfl (c16 (u.grow gr_A) hn6) rfl rfl ?_; rintro _ _ ⟨sf, hq, hwf⟩; all_goals ((try (have hqn := hq.nx)); (try simp only [H.nx_push, H.nx_set, H.nx_bump] at hqn)))) | ((with_reducible refine ik_callv ?_); (refine wo_call rfl rfl rfl rfl (q32 _ _ (sf.grow gr_A) wf_A) rfl rfl ?_; rintro _ _ ⟨⟨y10, z10, rfl, s10⟩, hq⟩; all_goals ((try (have hqn := hq.nx)); (try simp only [H.nx_push, H.nx_set, H.nx_bump] at hqn))))) | with_reducible refine wc_region ?_)
    exact ⟨rfl, (y10, z10), within_lk ⟨rfl, rfl, rfl, rfl, rfl, rfl, rfl, trivial⟩, ⟨wf_A, gr_A⟩, s8.grow gr_A, s10.grow gr_A⟩
  clear wa ga ha la s8
  rintro ⟨y10, z10⟩ ha ⟨⟨wa, ga⟩, s8, s10⟩
  simp only at s10 ⊢
  have la := ga.nx
  refine wc_mid (ι := Unit) (fun _ => [(0, .slice a m c), (1, .slice b n e), (7, .int .i64 (d : Nat)), (8, .slice y8 n z8), (10, .slice y10 n z10)]) (fun _ h' => (Wf h' ∧ Grow h h') ∧ Sl G h' 1 (.slice y8 n z8) n (((A).map smpW).map (.float .f32)) ∧ Sl G h' 1 (.slice y10 n z10) n (((g).map smpW).map (.float .f32))) ?_ ?_
  · repeat' (first | with_reducible refine wo_nil ?_ | ((with_reducible refine wo_any ?_); first | ((with_reducible refine ik_move ?_); refine wo_op rfl (op_move rfl) rfl rfl ?_) | ((with_reducible refine ik_pick ?_); refine wo_op rfl (op_pickf rfl rfl) rfl rfl ?_) | ((with_reducible refine ik_bin ?_); refine wo_op rfl (op_neq rfl rfl) rfl rfl ?_) | ((with_reducible refine ik_g ?_); first | ((with_reducible refine ig_move ?_); refine wo_grun rfl rfl rfl (op_move rfl) rfl rfl ?_) | ((with_reducible refine ig_bin ?_); refine wo_grun rfl rfl rfl (op_neq rfl rfl) rfl rfl ?_))) | with_reducible refine sq_norm ?_ | with_reducible refine wc_seq ?_ | with_reducible refine wc_region ?_ | with_reducible refine wc_skip ?_ | refine wc_iff rfl ?_)
    exact ⟨rfl, (), within_lk ⟨rfl, rfl, rfl, rfl, rfl, trivial⟩, ⟨wf_A, gr_A⟩, s8.grow gr_A, s10.grow gr_A⟩
  clear wa ga ha la s8 s10
  rintro _ ha ⟨⟨wa, ga⟩, s8, s10⟩
  have la := ga.nx
  refine wc_mid (ι := Option Addr × Nat) (fun i => [(0, .slice a m c), (1, .slice b n e), (7, .int .i64 (d : Nat)), (8, .slice y8 n z8), (10, .slice y10 n z10), (12, .slice i.1 n i.2), (13, .int .i64 0)]) (fun i h' => (Wf h' ∧ Grow h h') ∧ Sl G h' 1 (.slice y8 n z8) n (((A).map smpW).map (.float .f32)) ∧ Sl G h' 1 (.slice y10 n z10) n (((g).map smpW).map (.float .f32)) ∧ Sl G h' 1 (.slice i.1 n i.2) n (((L).map smpW).map (.float .f32))) ?_ ?_
  · repeat' (first | with_reducible refine wo_nil ?_ | ((with_reducible refine wo_any ?_); first | ((with_reducible refine ik_move ?_); refine wo_op rfl (op_move rfl) rfl rfl ?_) | ((with_reducible refine ik_assign ?_); refine wo_op rfl (op_assign rfl) rfl rfl ?_) | ((with_reducible refine ik_extract ?_); refine wo_op rfl (op_extract rfl rfl) rfl rfl ?_) | ((with_reducible refine ik_callF (f := 15) ?_); (refine wo_call rfl rfl rfl rfl (c15 (s.grow gr_A) hm6) rfl rfl ?_; rintro _ _ ⟨si, hq, hwi⟩; all_goals ((try (have hqn := hq.nx)); (try simp only [H.nx_push, H.nx_set, H.nx_bump] at hqn)))) | ((with_reducible refine ik_callF (f := 16) ?_); (refine wo_call rfl rfl rfl rfl (c16 (s8.grow gr_A) hn6) rfl rfl ?_; rintro _ _ ⟨sf, hq, hwf⟩; all_goals ((try (have hqn := hq.nx)); (try simp only [H.nx_push, H.nx_set, H.nx_bump] at hqn)))) | ((with_reducible refine ik_callv ?_); (refine wo_call rfl rfl rfl rfl (q21 _ _ _ (si.grow gr_A) (sf.grow gr_A) wf_A) rfl rfl ?_; rintro _ _ ⟨⟨y12, z12, rfl, s12⟩, hq⟩; all_goals ((try (have hqn := hq.nx)); (try simp only [H.nx_push, H.nx_set, H.nx_bump] at hqn))))) | with_reducible refine wc_region ?_)
    exact ⟨rfl, (y12, z12), within_lk ⟨rfl, rfl, rfl, rfl, rfl, rfl, rfl, trivial⟩, ⟨wf_A, gr_A⟩, s8.grow gr_A, s10.grow gr_A, s12.grow gr_A⟩
  clear wa ga ha la s8 s10
  rintro ⟨y12, z12⟩ ha ⟨⟨wa, ga⟩, s8, s10, s12⟩
  simp only at s12 ⊢
  have la := ga.nx
  refine wc_mid (ι := Option Addr × Nat) (fun i => [(0, .slice a m c), (1, .slice b n e), (7, .int .i64 (d : Nat)), (8, .slice y8 n z8), (10, .slice y10 n z10), (12, .slice y12 n z12), (13, .int .i64 0), (14, .slice i.1 n i.2), (15, .int .i64 0)]) (fun i h' => (Wf h' ∧ Grow h h') ∧ Sl G h' 1 (.slice y8 n z8) n (((A).map smpW).map (.float .f32)) ∧ Sl G h' 1 (.slice y10 n z10) n (((g).map smpW).map (.float .f32)) ∧ Sl G h' 1 (.slice y12 n z12) n (((L).map smpW).map (.float .f32)) ∧ Sl G h' 1 (.slice i.1 n i.2) n (((L).map smpW).map (.float .f32))) ?_ ?_
  · repeat' (first | with_reducible refine wo_nil ?_ | ((with_reducible refine wo_any ?_); first | ((with_reducible refine ik_move ?_); refine wo_op rfl (op_move rfl) rfl rfl ?_) | ((with_reducible refine ik_assign ?_); refine wo_op rfl (op_assign rfl) rfl rfl ?_) | ((with_reducible refine ik_extract ?_); refine wo_op rfl (op_extract rfl rfl) rfl rfl ?_) | ((with_reducible refine ik_callF (f := 16) ?_); (refine wo_call rfl rfl rfl rfl (c16 (s10.grow gr_A) hn6) rfl rfl ?_; rintro _ _ ⟨sf, hq, hwf⟩; all_goals ((try (have hqn := hq.nx)); (try simp only [H.nx_push, H.nx_set, H.nx_bump] at hqn)))) | ((with_reducible refine ik_callv ?_); (refine wo_call rfl rfl rfl rfl (q33 _ _ (sf.grow gr_A) wf_A) rfl rfl ?_; rintro _ _ ⟨⟨y14, z14, rfl, s14⟩, hq⟩; all_goals ((try (have hqn := hq.nx)); (try simp only [H.nx_push, H.nx_set, H.nx_bump] at hqn))))) | with_reducible refine wc_region ?_)
    exact ⟨rfl, (y14, z14), within_lk ⟨rfl, rfl, rfl, rfl, rfl, rfl, rfl, rfl, rfl, trivial⟩, ⟨wf_A, gr_A⟩, s8.grow gr_A, s10.grow gr_A, s12.grow gr_A, s14.grow gr_A⟩
  clear wa ga ha la s8 s10 s12
  rintro ⟨y14, z14⟩ ha ⟨⟨wa, ga⟩, s8, s10, s12, s14⟩
  simp only at s14 ⊢
  have la := ga.nx
  have q19 := fun (h' : H) (v w : Value) (s1 : Sl G h' 1 v n ((L.map smpW).map (.float .f32))) (s2 : Sl G h' 1 w n (l.map (.float .f32))) => c19g s1 s2 hn6 fb
  refine wc_mid (ι := Unit) (fun _ => [(0, .slice a m c), (1, .slice b n e), (7, .int .i64 (d : Nat)), (10, .slice y10 n z10)]) (fun _ h' => (Wf h' ∧ Grow h h') ∧ Sl G h' 1 (.slice y10 n z10) n (((g).map smpW).map (.float .f32))) ?_ ?_
  · repeat' (first | with_reducible refine wo_nil ?_ | ((with_reducible refine wo_any ?_); first | ((with_reducible refine ik_move ?_); refine wo_op rfl (op_move rfl) rfl rfl ?_) | ((with_reducible refine ik_pick ?_); refine wo_op rfl (op_pickf rfl rfl) rfl rfl ?_) | ((with_reducible refine ik_bin ?_); refine wo_op rfl (op_neq rfl rfl) rfl rfl ?_) | ((with_reducible refine ik_g ?_); first | ((with_reducible refine ig_move ?_); refine wo_grun rfl rfl rfl (op_move rfl) rfl rfl ?_) | ((with_reducible refine ig_un ?_); refine wo_grun rfl rfl rfl (op_not rfl) rfl rfl ?_) | ((with_reducible refine ig_bin ?_); refine wo_grun rfl rfl rfl (op_neq rfl rfl) rfl rfl ?_) | ((with_reducible refine ig_callv ?_); first | (refine wo_gcall rfl rfl rfl rfl rfl rfl (q19 _ _ _ (s12.grow gr_A) (u.grow gr_A)) rfl rfl ?_; rintro _ _ ⟨rfl, hq⟩; all_goals ((try (have hqn := hq.nx)); (try simp only [H.nx_push, H.nx_set, H.nx_bump] at hqn))) | (refine wo_gcall rfl rfl rfl rfl rfl rfl (q19 _ _ _ (s14.grow gr_A) (u.grow gr_A)) rfl rfl ?_; rintro _ _ ⟨rfl, hq⟩; all_goals ((try (have hqn := hq.nx)); (try simp only [H.nx_push, H.nx_set, H.nx_bump] at hqn)))))) | with_reducible refine sq_norm ?_ | with_reducible refine wc_seq ?_ | with_reducible refine wc_region ?_ | with_reducible refine wc_skip ?_ | refine wc_iff rfl ?_)
    exact ⟨rfl, (), within_lk ⟨rfl, rfl, rfl, rfl, trivial⟩, ⟨wf_A, gr_A⟩, s10.grow gr_A⟩
  clear wa ga ha la s8 s10 s12 s14
  rintro _ ha ⟨⟨wa, ga⟩, s10⟩
  have la := ga.nx
  refine wc_mid (ι := Unit) (fun _ => [(0, .slice a m c), (1, .slice b n e), (7, .int .i64 (d : Nat)), (10, .slice y10 n z10)]) (fun _ h' => (Wf h' ∧ Grow h h') ∧ Sl G h' 1 (.slice y10 n z10) n (((g).map smpW).map (.float .f32))) ?_ ?_
  · rcases hLg : anyLarge (undL t L) with _ | _
    · obtain ⟨U, hU⟩ : ∃ U, undL t L = U := ⟨_, rfl⟩
      rw [hU] at hLg
      have bU := not_large hLg
      have nU : U.length = n := by rw [← hU]; unfold undL; rw [undA_len, nL]
      obtain ⟨mU, eU⟩ := made_smp bU
      have lcU := lchk_of (l := U.map smpW) (by simp; omega) eU
      have aU : appL t U = L := by rw [← hU]; exact app_und (by omega) (by omega) hT k4 bL4 (by rw [hU]; exact bU)
      have r21 := fun (h' : H) (v w : Value) (s' : Sl G h' 1 v m (t.map (.int .i64))) (u' : Sl G h' 1 w n (l.map (.float .f32))) (w' : Wf h') => (c21 (G := G) (h := h') s' u' hm6 hn6 w' hG).mono fun r h' ⟨q, g⟩ => And.intro (made_ok (by unfold undU; rw [if_neg (by rw [F0 zt lc0]; simp), if_neg (by omega)]; exact madeE_ok rfl (by rw [hL, hU]; exact bU)) q) g
      have r14 := fun (h' : H) (v w : Value) (s' : Sl G h' 1 v m (t.map (.int .i64))) (u' : Sl G h' 1 w n ((U.map smpW).map (.float .f32))) (w' : Wf h') => (c14 (G := G) (h := h') s' u' hm6 hn6 w' hG).mono fun r h' ⟨q, g⟩ => And.intro (made_ok (by unfold appE; exact madeE_ok (F0 zt lcU) (by rw [mU, aU]; exact bL4)) q) g
      rw [hL, hU] at r21
      rw [mU, aU] at r14
      repeat' (first | with_reducible refine wo_nil ?_ | ((with_reducible refine wo_any ?_); first | ((with_reducible refine ik_move ?_); refine wo_op rfl (op_move rfl) rfl rfl ?_) | ((with_reducible refine ik_assign ?_); refine wo_op rfl (op_assign rfl) rfl rfl ?_) | ((with_reducible refine ik_pick ?_); refine wo_op rfl (op_pickf rfl rfl) rfl rfl ?_) | ((with_reducible refine ik_bin ?_); first | refine wo_op rfl (op_neq rfl rfl) rfl rfl ?_ | refine wo_op rfl (op_eql rfl rfl) rfl rfl ?_) | ((with_reducible refine ik_extract ?_); refine wo_op rfl (op_extract rfl rfl) rfl rfl ?_) | ((with_reducible refine ik_callF (f := 15) ?_); (refine wo_call rfl rfl rfl rfl (c15 (s.grow gr_A) hm6) rfl rfl ?_; rintro _ _ ⟨si, hq, hwi⟩; all_goals ((try (have hqn := hq.nx)); (try simp only [H.nx_push, H.nx_set, H.nx_bump] at hqn)))) | ((with_reducible refine ik_callF (f := 16) ?_); first | (refine wo_call rfl rfl rfl rfl (c16 (u.grow gr_A) hn6) rfl rfl ?_; rintro _ _ ⟨sf, hq, hwf⟩; all_goals ((try (have hqn := hq.nx)); (try simp only [H.nx_push, H.nx_set, H.nx_bump] at hqn))) | (refine wo_call rfl rfl rfl rfl (c16 (s16.grow gr_A) hn6) rfl rfl ?_; rintro _ _ ⟨sf2, hq, hwf2⟩; all_goals ((try (have hqn := hq.nx)); (try simp only [H.nx_push, H.nx_set, H.nx_bump] at hqn)))) | ((with_reducible refine ik_callv ?_); first | (refine wo_call rfl rfl rfl rfl (r21 _ _ _ (si.grow gr_A) (sf.grow gr_A) wf_A) rfl rfl ?_; rintro _ _ ⟨⟨y16, z16, rfl, s16⟩, hq⟩; all_goals ((try (have hqn := hq.nx)); (try simp only [H.nx_push, H.nx_set, H.nx_bump] at hqn))) | (refine wo_call rfl rfl rfl rfl (r14 _ _ _ (si.grow gr_A) (sf2.grow gr_A) wf_A) rfl rfl ?_; rintro _ _ ⟨⟨y18, z18, rfl, s18⟩, hq⟩; all_goals ((try (have hqn := hq.nx)); (try simp only [H.nx_push, H.nx_set, H.nx_bump] at hqn)))) | ((with_reducible refine ik_g ?_); first | ((with_reducible refine ig_move ?_); refine wo_grun rfl rfl rfl (op_move rfl) rfl rfl ?_) | ((with_reducible refine ig_un ?_); refine wo_grun rfl rfl rfl (op_not rfl) rfl rfl ?_) | ((with_reducible refine ig_callv ?_); (refine wo_gcall rfl rfl rfl rfl rfl rfl (q19 _ _ _ (s18.grow gr_A) (u.grow gr_A)) rfl rfl ?_; rintro _ _ ⟨rfl, hq⟩; all_goals ((try (have hqn := hq.nx)); (try simp only [H.nx_push, H.nx_set, H.nx_bump] at hqn)))))) | with_reducible refine sq_norm ?_ | with_reducible refine wc_seq ?_ | with_reducible refine wc_region ?_ | with_reducible refine wc_skip ?_ | refine wc_ift rfl ?_ | refine wc_iff rfl ?_)
      exact ⟨rfl, (), within_lk ⟨rfl, rfl, rfl, rfl, trivial⟩, ⟨wf_A, gr_A⟩, s10.grow gr_A⟩
    · have r21 := fun (h' : H) (v w : Value) (s' : Sl G h' 1 v m (t.map (.int .i64))) (u' : Sl G h' 1 w n (l.map (.float .f32))) (w' : Wf h') => (c21 (G := G) (h := h') s' u' hm6 hn6 w' hG).mono fun r h' ⟨q, g⟩ => And.intro (made_four (by unfold undU; rw [if_neg (by rw [F0 zt lc0]; simp), if_neg (by omega), hL, madeE_zero, hLg]; rfl) q) g
      repeat' (first | with_reducible refine wo_nil ?_ | ((with_reducible refine wo_any ?_); first | ((with_reducible refine ik_move ?_); refine wo_op rfl (op_move rfl) rfl rfl ?_) | ((with_reducible refine ik_assign ?_); refine wo_op rfl (op_assign rfl) rfl rfl ?_) | ((with_reducible refine ik_bin ?_); first | refine wo_op rfl (op_neq rfl rfl) rfl rfl ?_ | refine wo_op rfl (op_eql rfl rfl) rfl rfl ?_) | ((with_reducible refine ik_extract ?_); refine wo_op rfl (op_extract rfl rfl) rfl rfl ?_) | ((with_reducible refine ik_callF (f := 15) ?_); (refine wo_call rfl rfl rfl rfl (c15 (s.grow gr_A) hm6) rfl rfl ?_; rintro _ _ ⟨si, hq, hwi⟩; all_goals ((try (have hqn := hq.nx)); (try simp only [H.nx_push, H.nx_set, H.nx_bump] at hqn)))) | ((with_reducible refine ik_callF (f := 16) ?_); (refine wo_call rfl rfl rfl rfl (c16 (u.grow gr_A) hn6) rfl rfl ?_; rintro _ _ ⟨sf, hq, hwf⟩; all_goals ((try (have hqn := hq.nx)); (try simp only [H.nx_push, H.nx_set, H.nx_bump] at hqn)))) | ((with_reducible refine ik_callv ?_); (refine wo_call rfl rfl rfl rfl (r21 _ _ _ (si.grow gr_A) (sf.grow gr_A) wf_A) rfl rfl ?_; rintro _ _ ⟨rfl, hq⟩; all_goals ((try (have hqn := hq.nx)); (try simp only [H.nx_push, H.nx_set, H.nx_bump] at hqn))))) | with_reducible refine sq_norm ?_ | with_reducible refine wc_seq ?_ | with_reducible refine wc_region ?_ | with_reducible refine wc_skip ?_ | refine wc_iff rfl ?_)
      exact ⟨rfl, (), within_lk ⟨rfl, rfl, rfl, rfl, trivial⟩, ⟨wf_A, gr_A⟩, s10.grow gr_A⟩
  clear wa ga ha la s10
  rintro _ ha ⟨⟨wa, ga⟩, s10⟩
  have la := ga.nx
  refine wc_mid (ι := Option Addr × Nat) (fun i => [(0, .slice a m c), (1, .slice b n e), (7, .int .i64 (d : Nat)), (10, .slice y10 n z10), (20, .slice i.1 n i.2), (21, .int .i64 0)]) (fun i h' => (Wf h' ∧ Grow h h') ∧ Sl G h' 1 (.slice y10 n z10) n (((g).map smpW).map (.float .f32)) ∧ Sl G h' 1 (.slice i.1 n i.2) n (((D).map smpW).map (.float .f32))) ?_ ?_
  · repeat' (first | with_reducible refine wo_nil ?_ | ((with_reducible refine wo_any ?_); first | ((with_reducible refine ik_move ?_); refine wo_op rfl (op_move rfl) rfl rfl ?_) | ((with_reducible refine ik_assign ?_); refine wo_op rfl (op_assign rfl) rfl rfl ?_) | ((with_reducible refine ik_extract ?_); refine wo_op rfl (op_extract rfl rfl) rfl rfl ?_) | ((with_reducible refine ik_callF (f := 16) ?_); (refine wo_call rfl rfl rfl rfl (c16 (u.grow gr_A) hn6) rfl rfl ?_; rintro _ _ ⟨sf, hq, hwf⟩; all_goals ((try (have hqn := hq.nx)); (try simp only [H.nx_push, H.nx_set, H.nx_bump] at hqn)))) | ((with_reducible refine ik_callv ?_); (refine wo_call rfl rfl rfl rfl (r33 _ _ (sf.grow gr_A) wf_A) rfl rfl ?_; rintro _ _ ⟨⟨y20, z20, rfl, s20⟩, hq⟩; all_goals ((try (have hqn := hq.nx)); (try simp only [H.nx_push, H.nx_set, H.nx_bump] at hqn))))) | with_reducible refine wc_region ?_)
    exact ⟨rfl, (y20, z20), within_lk ⟨rfl, rfl, rfl, rfl, rfl, rfl, trivial⟩, ⟨wf_A, gr_A⟩, s10.grow gr_A, s20.grow gr_A⟩
  clear wa ga ha la s10
  rintro ⟨y20, z20⟩ ha ⟨⟨wa, ga⟩, s10, s20⟩
  simp only at s20 ⊢
  have la := ga.nx
  refine wc_mid (ι := Unit) (fun _ => [(0, .slice a m c), (1, .slice b n e), (7, .int .i64 (d : Nat)), (10, .slice y10 n z10), (20, .slice y20 n z20)]) (fun _ h' => (Wf h' ∧ Grow h h') ∧ Sl G h' 1 (.slice y10 n z10) n (((g).map smpW).map (.float .f32)) ∧ Sl G h' 1 (.slice y20 n z20) n (((D).map smpW).map (.float .f32))) ?_ ?_
  · repeat' (first | with_reducible refine wo_nil ?_ | ((with_reducible refine wo_any ?_); first | ((with_reducible refine ik_move ?_); refine wo_op rfl (op_move rfl) rfl rfl ?_) | ((with_reducible refine ik_bin ?_); refine wo_op rfl (op_neq rfl rfl) rfl rfl ?_)) | with_reducible refine sq_norm ?_ | with_reducible refine wc_seq ?_ | with_reducible refine wc_region ?_ | with_reducible refine wc_skip ?_ | refine wc_iff rfl ?_)
    exact ⟨rfl, (), within_lk ⟨rfl, rfl, rfl, rfl, rfl, trivial⟩, ⟨wf_A, gr_A⟩, s10.grow gr_A, s20.grow gr_A⟩
  clear wa ga ha la s10 s20
  rintro _ ha ⟨⟨wa, ga⟩, s10, s20⟩
  have la := ga.nx
  refine wc_mid (ι := Option Addr × Nat) (fun i => [(0, .slice a m c), (1, .slice b n e), (7, .int .i64 (d : Nat)), (10, .slice y10 n z10), (20, .slice y20 n z20), (22, .slice i.1 n i.2), (23, .int .i64 0)]) (fun i h' => (Wf h' ∧ Grow h h') ∧ Sl G h' 1 (.slice y10 n z10) n (((g).map smpW).map (.float .f32)) ∧ Sl G h' 1 (.slice y20 n z20) n (((D).map smpW).map (.float .f32)) ∧ Sl G h' 1 (.slice i.1 n i.2) n (((L).map smpW).map (.float .f32))) ?_ ?_
  · repeat' (first | with_reducible refine wo_nil ?_ | ((with_reducible refine wo_any ?_); first | ((with_reducible refine ik_move ?_); refine wo_op rfl (op_move rfl) rfl rfl ?_) | ((with_reducible refine ik_assign ?_); refine wo_op rfl (op_assign rfl) rfl rfl ?_) | ((with_reducible refine ik_extract ?_); refine wo_op rfl (op_extract rfl rfl) rfl rfl ?_) | ((with_reducible refine ik_callF (f := 16) ?_); (refine wo_call rfl rfl rfl rfl (c16 (s20.grow gr_A) hn6) rfl rfl ?_; rintro _ _ ⟨sf, hq, hwf⟩; all_goals ((try (have hqn := hq.nx)); (try simp only [H.nx_push, H.nx_set, H.nx_bump] at hqn)))) | ((with_reducible refine ik_callv ?_); (refine wo_call rfl rfl rfl rfl (r32 _ _ (sf.grow gr_A) wf_A) rfl rfl ?_; rintro _ _ ⟨⟨y22, z22, rfl, s22⟩, hq⟩; all_goals ((try (have hqn := hq.nx)); (try simp only [H.nx_push, H.nx_set, H.nx_bump] at hqn))))) | with_reducible refine wc_region ?_)
    exact ⟨rfl, (y22, z22), within_lk ⟨rfl, rfl, rfl, rfl, rfl, rfl, rfl, trivial⟩, ⟨wf_A, gr_A⟩, s10.grow gr_A, s20.grow gr_A, s22.grow gr_A⟩
  clear wa ga ha la s10 s20
  rintro ⟨y22, z22⟩ ha ⟨⟨wa, ga⟩, s10, s20, s22⟩
  simp only at s22 ⊢
  have la := ga.nx
  refine wc_mid (ι := Unit) (fun _ => [(0, .slice a m c), (1, .slice b n e), (7, .int .i64 (d : Nat)), (10, .slice y10 n z10)]) (fun _ h' => (Wf h' ∧ Grow h h') ∧ Sl G h' 1 (.slice y10 n z10) n (((g).map smpW).map (.float .f32))) ?_ ?_
  · repeat' (first | with_reducible refine wo_nil ?_ | ((with_reducible refine wo_any ?_); first | ((with_reducible refine ik_move ?_); refine wo_op rfl (op_move rfl) rfl rfl ?_) | ((with_reducible refine ik_pick ?_); refine wo_op rfl (op_pickf rfl rfl) rfl rfl ?_) | ((with_reducible refine ik_bin ?_); refine wo_op rfl (op_neq rfl rfl) rfl rfl ?_) | ((with_reducible refine ik_g ?_); first | ((with_reducible refine ig_move ?_); refine wo_grun rfl rfl rfl (op_move rfl) rfl rfl ?_) | ((with_reducible refine ig_un ?_); refine wo_grun rfl rfl rfl (op_not rfl) rfl rfl ?_) | ((with_reducible refine ig_callv ?_); (refine wo_gcall rfl rfl rfl rfl rfl rfl (q19 _ _ _ (s22.grow gr_A) (u.grow gr_A)) rfl rfl ?_; rintro _ _ ⟨rfl, hq⟩; all_goals ((try (have hqn := hq.nx)); (try simp only [H.nx_push, H.nx_set, H.nx_bump] at hqn)))))) | with_reducible refine sq_norm ?_ | with_reducible refine wc_seq ?_ | with_reducible refine wc_region ?_ | with_reducible refine wc_skip ?_ | refine wc_iff rfl ?_)
    exact ⟨rfl, (), within_lk ⟨rfl, rfl, rfl, rfl, trivial⟩, ⟨wf_A, gr_A⟩, s10.grow gr_A⟩
  clear wa ga ha la s10 s20 s22
  rintro _ ha ⟨⟨wa, ga⟩, s10⟩
  have la := ga.nx
  by_cases h8 : 8 ≤ d
  · repeat' (first | with_reducible refine wo_nil ?_ | ((with_reducible refine wo_any ?_); first | ((with_reducible refine ik_move ?_); refine wo_op rfl (op_move rfl) rfl rfl ?_) | ((with_reducible refine ik_assign ?_); refine wo_op rfl (op_assign rfl) rfl rfl ?_) | ((with_reducible refine ik_bin ?_); refine wo_op rfl (op_geq rfl rfl) rfl rfl ?_)) | with_reducible refine sq_norm ?_ | with_reducible refine wc_seq ?_ | with_reducible refine wc_region ?_ | with_reducible refine wc_ret ?_ | with_reducible refine sq_ret ?_ | (refine wc_if rfl (fun hb => ?_) (fun hb => dead_A hb); (try simp only [decide_eq_true_eq, decide_eq_false_iff_not, Bool.not_eq_true', Bool.not_eq_false', Int.not_lt, Int.not_le, Decidable.not_not, not_true_eq_false, not_false_eq_true, beq_self_eq_true, reduceCtorEq] at hb)))
    exact rq1 rfl ⟨rfl, gr_A⟩
  refine wc_mid (ι := Unit) (fun _ => [(0, .slice a m c), (1, .slice b n e), (7, .int .i64 (d : Nat)), (10, .slice y10 n z10)]) (fun _ h' => (Wf h' ∧ Grow h h') ∧ Sl G h' 1 (.slice y10 n z10) n (((g).map smpW).map (.float .f32))) ?_ ?_
  · repeat' (first | with_reducible refine wo_nil ?_ | ((with_reducible refine wo_any ?_); first | ((with_reducible refine ik_move ?_); refine wo_op rfl (op_move rfl) rfl rfl ?_) | ((with_reducible refine ik_bin ?_); refine wo_op rfl (op_geq rfl rfl) rfl rfl ?_)) | with_reducible refine sq_norm ?_ | with_reducible refine wc_seq ?_ | with_reducible refine wc_region ?_ | with_reducible refine wc_skip ?_ | (refine wc_if rfl (fun hb => dead_A hb) (fun hb => ?_); (try simp only [decide_eq_true_eq, decide_eq_false_iff_not, Bool.not_eq_true', Bool.not_eq_false', Int.not_lt, Int.not_le, Decidable.not_not, not_true_eq_false, not_false_eq_true, beq_self_eq_true, reduceCtorEq] at hb)))
    exact ⟨rfl, (), within_lk ⟨rfl, rfl, rfl, rfl, trivial⟩, ⟨wf_A, gr_A⟩, s10.grow gr_A⟩
  clear wa ga ha la s10
  rintro _ ha ⟨⟨wa, ga⟩, s10⟩
  have la := ga.nx
  have hd7 : d ≤ 7 := by omega
  have tk := gtap_ok hd1 hd7
  have ag : appL (gtap d) L = g := by rw [app_gtap hd1, hg]
  have rC : resC (gtap d) (d + 1) = [cxv (gtap d) (d + 1) 0, cxv (gtap d) (d + 1) 1, cxv (gtap d) (d + 1) 2, cxv (gtap d) (d + 1) 3] := by unfold resC; rw [if_pos tk, cL4]
  obtain ⟨N, hN1, hN2⟩ : ∃ N : Nat, (d : Int) + 1 = (N : Int) ∧ N = d + 1 := ⟨d + 1, by omega, rfl⟩
  have hs1 : (List.replicate N (Value.int .i64 0)).set 0 (.int .i64 1) = ((List.range N).map fun k => if k = 0 then (1 : Int) else 0).map (Value.int .i64) := by
    refine List.ext_getElem (by simp) fun i h1 h2 => ?_
    simp only [List.getElem_set, List.getElem_map, List.getElem_range, List.getElem_replicate]
    by_cases q : i = 0
    · subst q; simp
    · rw [if_neg (fun e => q e.symm), if_neg q]
  have hs2 : (((List.range N).map fun k => if k = 0 then (1 : Int) else 0).map (Value.int .i64)).set d (.int .i64 (-1)) = (gtap d).map (Value.int .i64) := by
    unfold gtap
    rw [← hN2]
    exact row_set (by rw [if_neg (by omega), if_pos rfl]) fun i hi => by simp [hi]
  rw [← hN2] at rC
  refine wc_mid (ι := Nat) (fun p => [(0, .slice a m c), (1, .slice b n e), (7, .int .i64 (d : Nat)), (10, .slice y10 n z10), (24, .slice (some ⟨p, 0, some 0⟩) N N)]) (fun p h' => (Wf h' ∧ Grow ha h') ∧ At h' p (.cells (List.replicate N (.int .i64 0)) 3 1 false) ∧ ha.nx ≤ p) ?_ ?_
  · repeat' (first | with_reducible refine wo_nil ?_ | ((with_reducible refine wo_any ?_); first | ((with_reducible refine ik_move ?_); refine wo_op rfl (op_move rfl) rfl rfl ?_) | ((with_reducible refine ik_assign ?_); refine wo_op rfl (op_assign rfl) rfl rfl ?_) | ((with_reducible refine ik_makeSlice ?_); refine wo_op rfl (op_mkSlI N rfl rfl hN1 Tryz.underlying22 zs3 zb3 zz3 rfl (by omega) (by omega)) rfl rfl ?_) | ((with_reducible refine ik_bin ?_); refine wo_op rfl (op_add' rfl rfl (w64 (by omega) (by omega))) rfl rfl ?_)) | with_reducible refine wc_region ?_)
    exact ⟨rfl, _, within_lk ⟨rfl, rfl, rfl, rfl, rfl, trivial⟩, ⟨wf_A, gr_A⟩, at_A, Nat.le_refl _⟩
  rintro p g1 ⟨⟨w1, gg⟩, ap, hp⟩
  have l1 := gg.nx
  have lp := ap.lt
  refine wc_mid (ι := Unit) (fun _ => [(0, .slice a m c), (1, .slice b n e), (7, .int .i64 (d : Nat)), (10, .slice y10 n z10), (24, .slice (some ⟨p, 0, some 0⟩) N N)]) (fun _ h' => (Wf h' ∧ Grow ha h') ∧ Sl G h' 1 (.slice (some ⟨p, 0, some 0⟩) N N) N ((gtap d).map (.int .i64))) ?_ ?_
  · repeat' (first | with_reducible refine wo_nil ?_ | ((with_reducible refine wo_any ?_); first | ((with_reducible refine ik_move ?_); refine wo_op rfl (op_move rfl) rfl rfl ?_) | ((with_reducible refine ik_indexAddr ?_); first | refine wo_op rfl (op_idxSl (o := 0) rfl rfl Tryz.underlying22 zs3 (by omega) (by omega) (by omega)) rfl rfl ?_ | refine wo_op rfl (op_idxSl (o := d) rfl rfl Tryz.underlying22 zs3 (by omega) (by omega) (by omega)) rfl rfl ?_) | ((with_reducible refine ik_store ?_); first | refine wo_op0 rfl (op_stIdx rfl rfl at_A rfl zs3 (by simp; omega) rfl hs1) rfl ?_ | refine wo_op0 rfl (op_stIdx rfl rfl at_A rfl zs3 (by simp; omega) rfl hs2) rfl ?_)) | with_reducible refine wc_region ?_)
    exact ⟨rfl, (), within_lk ⟨rfl, rfl, rfl, rfl, rfl, trivial⟩, ⟨wf_A, gr_A⟩, Sl.ofAt (at_A) (by simp [gtap, hN2]) (Nat.le_refl _)⟩
  clear w1 gg l1 lp ap
  rintro _ g1 ⟨⟨w1, gg⟩, s24⟩
  have l1 := gg.nx
  have r14 := fun (h' : H) (v w : Value) (s' : Sl G h' 1 v N ((gtap d).map (.int .i64))) (u' : Sl G h' 1 w n (l.map (.float .f32))) (w' : Wf h') => (c14 (G := G) (h := h') s' u' (by omega) hn6 w' hG).mono fun r h' ⟨q, g⟩ => And.intro (made_ok (by unfold appE; exact madeE_ok (F0 tk lc0) (by rw [hL, ag]; exact bg)) q) g
  rw [hL, ag] at r14
  refine wc_mid (ι := Option Addr × Nat) (fun i => [(0, .slice a m c), (1, .slice b n e), (7, .int .i64 (d : Nat)), (10, .slice y10 n z10), (24, .slice (some ⟨p, 0, some 0⟩) N N), (25, .slice i.1 n i.2), (26, .int .i64 0)]) (fun i h' => (Wf h' ∧ Grow ha h') ∧ Sl G h' 1 (.slice (some ⟨p, 0, some 0⟩) N N) N ((gtap d).map (.int .i64)) ∧ Sl G h' 1 (.slice i.1 n i.2) n (((g).map smpW).map (.float .f32))) ?_ ?_
  · repeat' (first | with_reducible refine wo_nil ?_ | ((with_reducible refine wo_any ?_); first | ((with_reducible refine ik_move ?_); refine wo_op rfl (op_move rfl) rfl rfl ?_) | ((with_reducible refine ik_assign ?_); refine wo_op rfl (op_assign rfl) rfl rfl ?_) | ((with_reducible refine ik_extract ?_); refine wo_op rfl (op_extract rfl rfl) rfl rfl ?_) | ((with_reducible refine ik_callF (f := 15) ?_); (refine wo_call rfl rfl rfl rfl (c15 (s24.grow gr_A) (by omega)) rfl rfl ?_; rintro _ _ ⟨si, hq, hwi⟩; all_goals ((try (have hqn := hq.nx)); (try simp only [H.nx_push, H.nx_set, H.nx_bump] at hqn)))) | ((with_reducible refine ik_callF (f := 16) ?_); (refine wo_call rfl rfl rfl rfl (c16 (u.grow (ga.trans gr_A)) hn6) rfl rfl ?_; rintro _ _ ⟨sf, hq, hwf⟩; all_goals ((try (have hqn := hq.nx)); (try simp only [H.nx_push, H.nx_set, H.nx_bump] at hqn)))) | ((with_reducible refine ik_callv ?_); (refine wo_call rfl rfl rfl rfl (r14 _ _ _ (si.grow gr_A) (sf.grow gr_A) wf_A) rfl rfl ?_; rintro _ _ ⟨⟨y25, z25, rfl, s25⟩, hq⟩; all_goals ((try (have hqn := hq.nx)); (try simp only [H.nx_push, H.nx_set, H.nx_bump] at hqn))))) | with_reducible refine wc_region ?_)
    exact ⟨rfl, (y25, z25), within_lk ⟨rfl, rfl, rfl, rfl, rfl, rfl, rfl, trivial⟩, ⟨wf_A, gr_A⟩, s24.grow gr_A, s25.grow gr_A⟩
  clear w1 gg l1 s24
  rintro ⟨y25, z25⟩ g1 ⟨⟨w1, gg⟩, s24, s25⟩
  simp only at s25 ⊢
  have l1 := gg.nx
  have q22 := fun (h' : H) (v : Value) (s' : Sl G h' 1 v N ((gtap d).map (.int .i64))) (w' : Wf h') => c22 (G := G) (h := h') s' (by omega) w' hG
  rw [rC, tk] at q22
  refine wc_mid (ι := Nat) (fun k => [(0, .slice a m c), (1, .slice b n e), (7, .int .i64 (d : Nat)), (10, .slice y10 n z10), (24, .slice (some ⟨p, 0, some 0⟩) N N), (25, .slice y25 n z25), (26, .int .i64 0), (27, .pointer (some ⟨k, 0, some 0⟩)), (28, .int .i64 0)]) (fun k h' => (Wf h' ∧ Grow ha h') ∧ Sl G h' 1 (.slice y25 n z25) n (((g).map smpW).map (.float .f32)) ∧ At h' k (.cells [cxv (gtap d) N 0, cxv (gtap d) N 1, cxv (gtap d) N 2, cxv (gtap d) N 3] 41 4 false)) ?_ ?_
  · repeat' (first | with_reducible refine wo_nil ?_ | ((with_reducible refine wo_any ?_); first | ((with_reducible refine ik_move ?_); refine wo_op rfl (op_move rfl) rfl rfl ?_) | ((with_reducible refine ik_assign ?_); refine wo_op rfl (op_assign rfl) rfl rfl ?_) | ((with_reducible refine ik_extract ?_); refine wo_op rfl (op_extract rfl rfl) rfl rfl ?_) | ((with_reducible refine ik_store ?_); refine wo_op0 rfl (op_stAgg rfl rfl at_A zs41 rfl rfl rfl rfl) rfl ?_) | ((with_reducible refine ik_alloc ?_); refine wo_op rfl (op_alloc zz41 zs41 rfl rfl rfl) rfl rfl ?_) | ((with_reducible refine ik_callF (f := 15) ?_); (refine wo_call rfl rfl rfl rfl (c15 (s24.grow gr_A) (by omega)) rfl rfl ?_; rintro _ _ ⟨si, hq, hwi⟩; all_goals ((try (have hqn := hq.nx)); (try simp only [H.nx_push, H.nx_set, H.nx_bump] at hqn)))) | ((with_reducible refine ik_callv ?_); (refine wo_call rfl rfl rfl rfl (q22 _ _ (si.grow gr_A) wf_A) rfl rfl ?_; rintro _ _ ⟨rfl, hq⟩; all_goals ((try (have hqn := hq.nx)); (try simp only [H.nx_push, H.nx_set, H.nx_bump] at hqn))))) | with_reducible refine wc_region ?_)
    exact ⟨rfl, _, within_lk ⟨rfl, rfl, rfl, rfl, rfl, rfl, rfl, rfl, rfl, trivial⟩, ⟨wf_A, gr_A⟩, s25.grow gr_A, at_A⟩
  clear w1 gg l1 s24 s25
  rintro k g1 ⟨⟨w1, gg⟩, s25, ak⟩
  have l1 := gg.nx
  have lk := ak.lt
  have q34 := fun (h' : H) (w' : Wf h') => c34n (G := G) (h := h') hd1 (by omega) w'
  refine wc_mid (ι := Option Addr × Nat) (fun i => [(0, .slice a m c), (1, .slice b n e), (7, .int .i64 (d : Nat)), (10, .slice y10 n z10), (25, .slice y25 n z25), (26, .int .i64 0), (27, .pointer (some ⟨k, 0, some 0⟩)), (28, .int .i64 0), (29, .slice i.1 (notN d 4).length i.2), (30, .int .i64 0)]) (fun i h' => (Wf h' ∧ Grow ha h') ∧ Sl G h' 1 (.slice y25 n z25) n (((g).map smpW).map (.float .f32)) ∧ At h' k (.cells [cxv (gtap d) N 0, cxv (gtap d) N 1, cxv (gtap d) N 2, cxv (gtap d) N 3] 41 4 false) ∧ Sl G h' 1 (.slice i.1 (notN d 4).length i.2) (notN d 4).length ((notN d 4).map (.int .i64))) ?_ ?_
  · repeat' (first | with_reducible refine wo_nil ?_ | ((with_reducible refine wo_any ?_); first | ((with_reducible refine ik_move ?_); refine wo_op rfl (op_move rfl) rfl rfl ?_) | ((with_reducible refine ik_assign ?_); refine wo_op rfl (op_assign rfl) rfl rfl ?_) | ((with_reducible refine ik_extract ?_); refine wo_op rfl (op_extract rfl rfl) rfl rfl ?_) | ((with_reducible refine ik_callv ?_); (refine wo_call rfl rfl rfl rfl (q34 _ wf_A) rfl rfl ?_; rintro _ _ ⟨⟨y29, z29, rfl, s29⟩, hq⟩; all_goals ((try (have hqn := hq.nx)); (try simp only [H.nx_push, H.nx_set, H.nx_bump] at hqn))))) | with_reducible refine wc_region ?_)
    exact ⟨rfl, (y29, z29), within_lk ⟨rfl, rfl, rfl, rfl, rfl, rfl, rfl, rfl, rfl, rfl, trivial⟩, ⟨wf_A, gr_A⟩, s25.grow gr_A, at_A, s29.grow gr_A⟩
  clear w1 gg l1 s25 ak lk
  rintro ⟨y29, z29⟩ g1 ⟨⟨w1, gg⟩, s25, ak, s29⟩
  simp only at s29 ⊢
  have l1 := gg.nx
  have lk := ak.lt
  have p19 := fun (h' : H) (v w : Value) (s1 : Sl G h' 1 v n ((g.map smpW).map (.float .f32))) (s2 : Sl G h' 1 w n ((g.map smpW).map (.float .f32))) => c19g s1 s2 hn6 (smpW_selfL (large_no bg))
  refine wc_mid (ι := Unit) (fun _ => [(27, .pointer (some ⟨k, 0, some 0⟩)), (29, .slice y29 (notN d 4).length z29)]) (fun _ h' => (Wf h' ∧ Grow ha h') ∧ At h' k (.cells [cxv (gtap d) N 0, cxv (gtap d) N 1, cxv (gtap d) N 2, cxv (gtap d) N 3] 41 4 false) ∧ Sl G h' 1 (.slice y29 (notN d 4).length z29) (notN d 4).length ((notN d 4).map (.int .i64))) ?_ ?_
  · repeat' (first | with_reducible refine wo_nil ?_ | ((with_reducible refine wo_any ?_); first | ((with_reducible refine ik_move ?_); refine wo_op rfl (op_move rfl) rfl rfl ?_) | ((with_reducible refine ik_pick ?_); refine wo_op rfl (op_pickf rfl rfl) rfl rfl ?_) | ((with_reducible refine ik_bin ?_); refine wo_op rfl (op_neq rfl rfl) rfl rfl ?_) | ((with_reducible refine ik_g ?_); first | ((with_reducible refine ig_move ?_); refine wo_grun rfl rfl rfl (op_move rfl) rfl rfl ?_) | ((with_reducible refine ig_un ?_); refine wo_grun rfl rfl rfl (op_not rfl) rfl rfl ?_) | ((with_reducible refine ig_bin ?_); refine wo_grun rfl rfl rfl (op_neq rfl rfl) rfl rfl ?_) | ((with_reducible refine ig_callv ?_); (refine wo_gcall rfl rfl rfl rfl rfl rfl (p19 _ _ _ (s25.grow gr_A) (s10.grow (Grow.trans gg gr_A))) rfl rfl ?_; rintro _ _ ⟨rfl, hq⟩; all_goals ((try (have hqn := hq.nx)); (try simp only [H.nx_push, H.nx_set, H.nx_bump] at hqn)))))) | with_reducible refine sq_norm ?_ | with_reducible refine wc_seq ?_ | with_reducible refine wc_region ?_ | with_reducible refine wc_skip ?_ | refine wc_iff rfl ?_)
    exact ⟨rfl, (), within_lk ⟨rfl, rfl, trivial⟩, ⟨wf_A, gr_A⟩, at_A, s29.grow gr_A⟩
  clear w1 gg l1 s25 ak lk s29
  rintro _ g1 ⟨⟨w1, gg⟩, ak, s29⟩
  have l1 := gg.nx
  have lk := ak.lt
  repeat' (first | with_reducible refine wo_nil ?_ | ((with_reducible refine wo_any ?_); first | ((with_reducible refine ik_move ?_); refine wo_op rfl (op_move rfl) rfl rfl ?_) | ((with_reducible refine ik_load ?_); refine wo_op rfl (op_ldAgg rfl at_A Tryz.underlying41 rfl zs41 rfl rfl) rfl rfl ?_)) | with_reducible refine sq_norm ?_ | with_reducible refine wc_seq ?_ | with_reducible refine wc_region ?_ | with_reducible refine wc_block ?_)
  refine wc_loop (fun q : Nat => 4 - q) (fun q => [(29, .slice y29 (notN d 4).length z29), (218, .agg ⟨[cxv (gtap d) N 0, cxv (gtap d) N 1, cxv (gtap d) N 2, cxv (gtap d) N 3]⟩), (219, .int .i64 (q : Nat))]) (fun q h' => ((Wf h' ∧ Grow ha h') ∧ Sl G h' 1 (.slice y29 (notN d 4).length z29) (notN d 4).length ((notN d 4).map (.int .i64))) ∧ q ≤ 4) 0 (within_lk ⟨rfl, rfl, rfl, trivial⟩) ⟨⟨⟨wf_A, gr_A⟩, s29.grow gr_A⟩, Nat.zero_le _⟩ ?_
  clear w1 gg l1 lk ak s29
  rintro q g1 ⟨⟨⟨w1, gg⟩, s29⟩, hq4⟩
  by_cases hq : q < 4
  · have pv : apart Tryz.prog 40 ⟨[cxv (gtap d) N 0, cxv (gtap d) N 1, cxv (gtap d) N 2, cxv (gtap d) N 3]⟩ (((q : Nat) : Int).toNat * 1) = some (.complex .f64 (fz (resR (gtap d) q N)) (fz (resI (gtap d) q N))) := by
      match q, hq with
      | 0, _ | 1, _ | 2, _ | 3, _ => rfl
    have hni := notch_iff (k := q) hd1 hq
    obtain ⟨e1, e2⟩ := (res_gtap hd1 q (d + 1)).2 rfl
    have bp0 := pR_b 0
    have bp1 := pR_b (3 * d * q % 4)
    have bi0 := pI_b 0
    have bi1 := pI_b (3 * d * q % 4)
    rw [← hN2] at hni e1 e2
    have b1 : (resR (gtap d) q N).natAbs ≤ 2 := by omega
    have b2 : (resI (gtap d) q N).natAbs ≤ 2 := by omega
    have hnl := notN_len d 4
    have q61 := fun (h' : H) (g : Grow g1 h') (w' : Wf h') => c61 ((q : Nat) : Int) (s29.grow g) (by omega) w'
    have hdec : decide (resR (gtap d) q N = 0 ∧ resI (gtap d) q N = 0) = decide (((q : Nat) : Int) ∈ notN d 4) := decide_eq_decide.2 hni
    rcases hB : decide (((q : Nat) : Int) ∈ notN d 4) with _ | _
    · rw [hB] at hdec q61
      repeat' (first | with_reducible refine wo_nil ?_ | ((with_reducible refine wo_any ?_); first | ((with_reducible refine ik_move ?_); refine wo_op rfl (op_move rfl) rfl rfl ?_) | ((with_reducible refine ik_assign ?_); refine wo_op rfl (op_assign rfl) rfl rfl ?_) | ((with_reducible refine ik_index ?_); refine wo_op rfl (op_idxVal rfl rfl Tryz.underlying41 zs40 (by omega) (by omega) pv) rfl rfl ?_) | ((with_reducible refine ik_bin ?_); first | refine wo_op rfl (op_eqT40r rfl b1 b2 rfl rfl hdec) rfl rfl ?_ | refine wo_op rfl (op_add' rfl rfl (w64 (by omega) (by omega))) rfl rfl ?_ | refine wo_op rfl (op_lss rfl rfl) rfl rfl ?_ | refine wo_op rfl (op_bneq rfl rfl Tryz.underlying4) rfl rfl ?_) | ((with_reducible refine ik_callv ?_); (refine wo_call rfl rfl rfl rfl (q61 _ gr_A wf_A) rfl rfl ?_; rintro _ _ ⟨rfl, hq⟩; all_goals ((try (have hqn := hq.nx)); (try simp only [H.nx_push, H.nx_set, H.nx_bump] at hqn))))) | with_reducible refine sq_norm ?_ | with_reducible refine wc_seq ?_ | with_reducible refine wc_region ?_ | with_reducible refine wc_skip ?_ | with_reducible refine wc_block ?_ | with_reducible refine bq_norm ?_ | refine wc_iff rfl ?_ | (refine wc_if rfl (fun hb => ?_) (fun hb => dead_A hb); (try simp only [decide_eq_true_eq, decide_eq_false_iff_not, Bool.not_eq_true', Bool.not_eq_false', Int.not_lt, Int.not_le, Decidable.not_not, not_true_eq_false, not_false_eq_true, beq_self_eq_true, reduceCtorEq] at hb)))
      exact lq_norm (q + 1) (by omega) (within_lk ⟨rfl, rfl, rfl, trivial⟩) ⟨⟨⟨wf_A, gr_A⟩, s29.grow gr_A⟩, by omega⟩
    · rw [hB] at hdec q61
      repeat' (first | with_reducible refine wo_nil ?_ | ((with_reducible refine wo_any ?_); first | ((with_reducible refine ik_move ?_); refine wo_op rfl (op_move rfl) rfl rfl ?_) | ((with_reducible refine ik_assign ?_); refine wo_op rfl (op_assign rfl) rfl rfl ?_) | ((with_reducible refine ik_index ?_); refine wo_op rfl (op_idxVal rfl rfl Tryz.underlying41 zs40 (by omega) (by omega) pv) rfl rfl ?_) | ((with_reducible refine ik_bin ?_); first | refine wo_op rfl (op_eqT40r rfl b1 b2 rfl rfl hdec) rfl rfl ?_ | refine wo_op rfl (op_add' rfl rfl (w64 (by omega) (by omega))) rfl rfl ?_ | refine wo_op rfl (op_lss rfl rfl) rfl rfl ?_ | refine wo_op rfl (op_bneq rfl rfl Tryz.underlying4) rfl rfl ?_) | ((with_reducible refine ik_callv ?_); (refine wo_call rfl rfl rfl rfl (q61 _ gr_A wf_A) rfl rfl ?_; rintro _ _ ⟨rfl, hq⟩; all_goals ((try (have hqn := hq.nx)); (try simp only [H.nx_push, H.nx_set, H.nx_bump] at hqn))))) | with_reducible refine sq_norm ?_ | with_reducible refine wc_seq ?_ | with_reducible refine wc_region ?_ | with_reducible refine wc_skip ?_ | with_reducible refine wc_block ?_ | with_reducible refine bq_norm ?_ | refine wc_iff rfl ?_ | (refine wc_if rfl (fun hb => ?_) (fun hb => dead_A hb); (try simp only [decide_eq_true_eq, decide_eq_false_iff_not, Bool.not_eq_true', Bool.not_eq_false', Int.not_lt, Int.not_le, Decidable.not_not, not_true_eq_false, not_false_eq_true, beq_self_eq_true, reduceCtorEq] at hb)))
      exact lq_norm (q + 1) (by omega) (within_lk ⟨rfl, rfl, rfl, trivial⟩) ⟨⟨⟨wf_A, gr_A⟩, s29.grow gr_A⟩, by omega⟩
  · repeat' (first | with_reducible refine wo_nil ?_ | ((with_reducible refine wo_any ?_); first | ((with_reducible refine ik_assign ?_); refine wo_op rfl (op_assign rfl) rfl rfl ?_) | ((with_reducible refine ik_bin ?_); refine wo_op rfl (op_lss rfl rfl) rfl rfl ?_)) | with_reducible refine sq_norm ?_ | with_reducible refine wc_seq ?_ | with_reducible refine wc_region ?_ | with_reducible refine wc_ret ?_ | with_reducible refine wc_exit ?_ | with_reducible refine sq_exit ?_ | with_reducible refine lq_exit ?_ | refine bq_eq rfl ?_ | (refine wc_if rfl (fun hb => dead_A hb) (fun hb => ?_); (try simp only [decide_eq_true_eq, decide_eq_false_iff_not, Bool.not_eq_true', Bool.not_eq_false', Int.not_lt, Int.not_le, Decidable.not_not, not_true_eq_false, not_false_eq_true, beq_self_eq_true, reduceCtorEq] at hb)))
    exact rq1 rfl ⟨rfl, gr_A⟩
theorem c9 {a b : Option Addr} {m c n e x : Nat} {t : List Int} {l : List Nat} (s : Sl G h 1 (.slice a m c) m (t.map (.int .i64))) (u : Sl G h 1 (.slice b n e) n (l.map (.float .f32))) (hx : x ≤ 255) (hw : Wf h) (hG : ∀ a v, laidBase a = some v → G a = some v) : Cf (mz G) (.func (.func 9) #[] #[]) [.slice a m c, .slice b n e, .int .u8 (x : Nat)] h fun r h' => r = .bool true ∧ Grow h h' := by
  by_cases hS : m ≤ 9 ∧ tchk t = 0 ∧ (t.getD 0 0 = 1 ∨ t.getD 0 0 = -1) ∧ quietB l 100 = true
  · exact c9m s u hx hS.2.1 hS.2.2.1 hS.2.2.2 hw hG
  · exact c9n s u hS hw
end Go.Proofs.YtccdcekcbbpohaaGreatDoor
