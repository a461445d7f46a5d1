/- Survey: invoices entry by entry, both ways. -/
import Derived.Test.YtlioomhcdlicmaaGreatDoorC18
import Derived.Test.YtlioomhcdlicmaaGreatDoorC17
import Derived.Test.YtlioomhcdlicmaaGreatDoorC14
import Derived.Test.YtlioomhcdlicmaaGreatDoorC8
set_option linter.all false
/- Survey: invoices entry by entry, both ways. -/
namespace Go.Proofs.YtlioomhcdlicmaaGreatDoor
open Go Go.Ab Go.Fl
attribute [local irreducible] SeqQ BlkQ LpQ RetQ Wc Wo WD WX Op1 Op1q Op1a Cf Cl From
attribute [local irreducible] Ieee.Format.order Ieee.Format.read Ieee.Format.nearest Ieee.Format.write Ieee.Format.mul Ieee.Format.div Ieee.Format.sqrt Ieee.Datum.order Ieee.Datum.integral K U rngE errN ptE firstNZ vesE watE sgE sgsE allE hitB sqD insB qsL lvl rn rl altB isNameB nmE foE clE accL othL rtE ctE
set_option maxRecDepth 10000
variable {G : Base} {h : H}
attribute [local irreducible] spE numM cauW cnum cauN enE hrK ensE rssE lowN lowD
theorem op_mulE {M : Mc} {l : KL} {h : H} {t : TypeId} {x y : Operand} {ty : TypeId} {A B v : Int} (hx : val l x = some (.int .i64 A)) (hy : val l y = some (.int .i64 B)) (hv : A * B = v) (h1 : -1000000000000 ≤ v ∧ v ≤ 1000000000000) : Op1 M (.binOp .mul t x y ty) l h (.int .i64 v) h :=
 op_mul' hx hy (by rw [hv]; exact w64 (by omega) (by omega))
theorem op_subE {M : Mc} {l : KL} {h : H} {t : TypeId} {x y : Operand} {ty : TypeId} {A B v : Int} (hx : val l x = some (.int .i64 A)) (hy : val l y = some (.int .i64 B)) (hv : A - B = v) (h1 : -1000000000000 ≤ v ∧ v ≤ 1000000000000) : Op1 M (.binOp .sub t x y ty) l h (.int .i64 v) h :=
 bY_ hx hy (by rw [hv]; exact w64 (by omega) (by omega))
theorem op_maxE {M : Mc} {l : KL} {h : H} {x y : Operand} {tys : Array TypeId} {A B v : Int} (hx : val l x = some (.int .i64 A)) (hy : val l y = some (.int .i64 B)) (hv : max A B = v) : Op1 M (.call ⟨.builtin .max, #[x, y], tys⟩) l h (.int .i64 v) h := hv ▸ op_max hx hy
theorem cg_ {a b : Int} (h1 : 0 ≤ a ∧ a ≤ 6400000) (h2 : -10000 ≤ b ∧ b ≤ 10000) : -64000000000 ≤ a * b ∧ a * b ≤ 64000000000 := by
 have e1 : a * b ≤ 6400000 * 10000 := by
   by_cases q : 0 ≤ b
   · exact Int.mul_le_mul h1.2 h2.2 q (by omega)
   · have := Int.mul_nonpos_of_nonneg_of_nonpos h1.1 (show b ≤ 0 by omega)
     omega
 have e2 : a * (-b) ≤ 6400000 * 10000 := by
   by_cases q : 0 ≤ -b
   · exact Int.mul_le_mul h1.2 (by omega) q (by omega)
   · have := Int.mul_nonpos_of_nonneg_of_nonpos h1.1 (show -b ≤ 0 by omega)
     omega
 rw [Int.mul_neg] at e2
 omega
theorem rt_ok {c0 c1 c2 c3 c4 c5 : Int} (hh : rtE c0 c1 c2 c3 c4 c5 = 0) : (-10000 ≤ c0 ∧ c0 ≤ 10000) ∧ (-10000 ≤ c1 ∧ c1 ≤ 10000) ∧ (-10000 ≤ c2 ∧ c2 ≤ 10000) ∧ (-10000 ≤ c3 ∧ c3 ≤ 10000) ∧ (-10000 ≤ c4 ∧ c4 ≤ 10000) ∧ -10000 ≤ c5 ∧ c5 ≤ 10000 := by
 unfold rtE at hh
 have e := fun k (hk : k < 6) => errN_all hh hk
 exact ⟨rng_ok (e 0 (by decide)), rng_ok (e 1 (by decide)), rng_ok (e 2 (by decide)), rng_ok (e 3 (by decide)), rng_ok (e 4 (by decide)), rng_ok (e 5 (by decide))⟩
theorem ct_ok {c0 c1 c2 c3 c4 c5 c6 c7 c8 : Int} (hh : ctE c0 c1 c2 c3 c4 c5 c6 c7 c8 = 0) : (-10000 ≤ c0 ∧ c0 ≤ 10000) ∧ (-10000 ≤ c1 ∧ c1 ≤ 10000) ∧ (-10000 ≤ c2 ∧ c2 ≤ 10000) ∧ (-10000 ≤ c3 ∧ c3 ≤ 10000) ∧ (-10000 ≤ c4 ∧ c4 ≤ 10000) ∧ (-10000 ≤ c5 ∧ c5 ≤ 10000) ∧ (0 ≤ c6 ∧ c6 ≤ 100000) ∧ (0 ≤ c7 ∧ c7 ≤ 10000) ∧ 0 ≤ c8 ∧ c8 ≤ 10000 := by
 unfold ctE at hh
 have e := bX_ hh
 obtain ⟨b0, b1, b2, b3, b4, b5⟩ := rt_ok (e (rtE c0 c1 c2 c3 c4 c5) (by simp))
 exact ⟨b0, b1, b2, b3, b4, b5, rng_ok (e _ (by simp)), rng_ok (e _ (by simp)), rng_ok (e _ (by simp))⟩
def bilE (c0 c1 c2 c3 c4 c5 c6 c7 c8 : Int) (l : List En) (rs : List Rs) : Int := firstNZ [ctE c0 c1 c2 c3 c4 c5 c6 c7 c8, ensE l, rssE rs]
def bilL (H : List Int) (c0 c1 c2 c3 c4 c5 c6 c7 c8 : Int) (na no : Nat) : List Int := [H.getD 0 0 * c0, H.getD 1 0 * c1, max (H.getD 2 0 - c6) 0 * c2, H.getD 3 0 * c3, H.getD 4 0 * c4, H.getD 5 0 * c5, (na : Int) * c7 - (no : Int) * c8, ((na : Int) * c7 - (no : Int) * c8) + H.getD 0 0 * c0 + H.getD 1 0 * c1 + max (H.getD 2 0 - c6) 0 * c2 + H.getD 3 0 * c3 + H.getD 4 0 * c4 + H.getD 5 0 * c5]
def bilC (c0 c1 c2 c3 c4 c5 c6 c7 c8 : Int) (l : List En) (rs : List Rs) : List Value := if bilE c0 c1 c2 c3 c4 c5 c6 c7 c8 l rs = 0 then (bilL (hrK l l.length) c0 c1 c2 c3 c4 c5 c6 c7 c8 (accL rs).length (othL rs).length).map (.int .i64) else [.int .i64 0, .int .i64 0, .int .i64 0, .int .i64 0, .int .i64 0, .int .i64 0, .int .i64 0, .int .i64 0]
theorem bilL_eq {z0 z1 z2 z3 z4 z5 c0 c1 c2 c3 c4 c5 c6 c7 c8 : Int} {na no : Nat} : bilL [z0, z1, z2, z3, z4, z5] c0 c1 c2 c3 c4 c5 c6 c7 c8 na no = [z0 * c0, z1 * c1, max (z2 - c6) 0 * c2, z3 * c3, z4 * c4, z5 * c5, (na : Int) * c7 - (no : Int) * c8, ((na : Int) * c7 - (no : Int) * c8) + z0 * c0 + z1 * c1 + max (z2 - c6) 0 * c2 + z3 * c3 + z4 * c4 + z5 * c5] := rfl
theorem acc_len (l : List Rs) : (accL l).length ≤ l.length := by have := acc_cnt l; omega
theorem oth_len (l : List Rs) : (othL l).length ≤ l.length := by have := acc_cnt l; omega
theorem rss_len {l : List Rs} (hh : rssE l = 0) : l.length ≤ 64 := by
 unfold rssE at hh
 split at hh
 · cases hh
 · omega
theorem cau_weather : cauN ⟨⟨[119, 101, 97, 116, 104, 101, 114]⟩⟩ = ((2 : Nat) : Int) := by unfold cauN cauW; simp [cnum]
theorem Two.form {lo : Nat} {h : H} {v w : Value} {A O : List ByteArray} (q : Two lo h v w A O) : ∃ a c b d, v = .slice a A.length c ∧ w = .slice b O.length d ∧ Sl G h 1 (.slice a A.length c) A.length (A.map Value.string) ∧ Sl G h 1 (.slice b O.length d) O.length (O.map Value.string) := by
 obtain ⟨q1, q2, _⟩ := q
 have s1 := q1.sl (G := G) (by simp)
 have s2 := q2.sl (G := G) (by simp)
 obtain ⟨a, c, e1⟩ := s1.form
 obtain ⟨b, d, e2⟩ := s2.form
 rw [e1] at s1
 rw [e2] at s2
 exact ⟨a, c, b, d, e1, e2, s1, s2⟩
def bcK (a0 a1 a2 a3 a4 a5 L : Int) : Nat → List Value
 | 0 => [.int .i64 0, .int .i64 0, .int .i64 0, .int .i64 0, .int .i64 0, .int .i64 0, .int .i64 L, .int .i64 0]
 | 1 => [.int .i64 a0, .int .i64 0, .int .i64 0, .int .i64 0, .int .i64 0, .int .i64 0, .int .i64 L, .int .i64 0]
 | 2 => [.int .i64 a0, .int .i64 a1, .int .i64 0, .int .i64 0, .int .i64 0, .int .i64 0, .int .i64 L, .int .i64 0]
 | 3 => [.int .i64 a0, .int .i64 a1, .int .i64 a2, .int .i64 0, .int .i64 0, .int .i64 0, .int .i64 L, .int .i64 0]
 | 4 => [.int .i64 a0, .int .i64 a1, .int .i64 a2, .int .i64 a3, .int .i64 0, .int .i64 0, .int .i64 L, .int .i64 0]
 | 5 => [.int .i64 a0, .int .i64 a1, .int .i64 a2, .int .i64 a3, .int .i64 a4, .int .i64 0, .int .i64 L, .int .i64 0]
 | _ => [.int .i64 a0, .int .i64 a1, .int .i64 a2, .int .i64 a3, .int .i64 a4, .int .i64 a5, .int .i64 L, .int .i64 0]
set_option maxHeartbeats 32000000 in
theorem c56 {c0 c1 c2 c3 c4 c5 c6 c7 c8 : Int} {va ra : Option Addr} {n vc m rc : Nat} {l : List En} {rs : List Rs} (s : Sl G h 3 (.slice va n vc) n (l.flatMap En.cells)) (hl : l.length = n) (hn : n < 1000000) (sr : Sl G h 3 (.slice ra m rc) m (rs.flatMap Rs.cells)) (hrl : rs.length = m) (hm : m < 1000000) (hw : Wf h) : Cf (mz G) (.func (.func 56) #[] #[]) [.agg ⟨[.int .i64 c0, .int .i64 c1, .int .i64 c2, .int .i64 c3, .int .i64 c4, .int .i64 c5, .int .i64 c6, .int .i64 c7, .int .i64 c8]⟩, .slice va n vc, .slice ra m rc] h fun r h' => r = .tuple #[.agg ⟨bilC c0 c1 c2 c3 c4 c5 c6 c7 c8 l rs⟩, .int .i64 (bilE c0 c1 c2 c3 c4 c5 c6 c7 c8 l rs)] ∧ Grow h h' := by
 have q62 := fun (h' : H) (w' : Wf h') => c62 (G := G) (h := h') (c0 := c0) (c1 := c1) (c2 := c2) (c3 := c3) (c4 := c4) (c5 := c5) (c6 := c6) (c7 := c7) (c8 := c8) w'
 have q49 := fun (h' : H) (g : Grow h h') (w' : Wf h') => c49 (s.grow g) hl hn w'
 have q54 := fun (h' : H) (g : Grow h h') (w' : Wf h') => (c54 (sr.grow g) hrl hm w').mono (Q' := fun r h2 => (∃ a c b d, r = .tuple #[.slice a (if rssE rs = 0 then accL rs else []).length c, .slice b (if rssE rs = 0 then othL rs else []).length d, .int .i64 (rssE rs)]) ∧ Grow h' h2) (fun r h2 ⟨⟨x, y, e, q⟩, g⟩ => by
   obtain ⟨a, c, b, d, e1, e2, _⟩ := q.form (G := G)
   subst e1 e2
   exact ⟨⟨a, c, b, d, e⟩, g⟩)
 have qf := fun (h' : H) (v : Value) (s : Sl G h' 1 v 2 ([ctE c0 c1 c2 c3 c4 c5 c6 c7 c8, ensE l].map (.int .i64))) => c93 s (by omega)
 rw [firstNZ_two] at qf
 have hE : bilE c0 c1 c2 c3 c4 c5 c6 c7 c8 l rs = if ctE c0 c1 c2 c3 c4 c5 c6 c7 c8 ≠ 0 then ctE c0 c1 c2 c3 c4 c5 c6 c7 c8 else if ensE l ≠ 0 then ensE l else rssE rs := by
   unfold bilE
   by_cases e1 : ctE c0 c1 c2 c3 c4 c5 c6 c7 c8 = 0
   · rw [e1, cm_, firstNZ_two]; rw [if_neg (show ¬((0 : Int) ≠ 0) by simp)]
   · rw [firstNZ_one e1, if_pos e1]
 have hb0 : bilE c0 c1 c2 c3 c4 c5 c6 c7 c8 l rs ≠ 0 → bilC c0 c1 c2 c3 c4 c5 c6 c7 c8 l rs = [.int .i64 0, .int .i64 0, .int .i64 0, .int .i64 0, .int .i64 0, .int .i64 0, .int .i64 0, .int .i64 0] := fun q => by unfold bilC; rw [if_neg q]
 by_cases hc : ctE c0 c1 c2 c3 c4 c5 c6 c7 c8 = 0
 case neg =>
   rw [if_pos hc] at hE
   rw [hb0 (by rw [hE]; exact hc), hE]
   rw [if_pos hc] at qf
   clear hb0 hE
   generalize ctE c0 c1 c2 c3 c4 c5 c6 c7 c8 = E at hc q62 qf ⊢
   generalize ensE l = D at q49 qf
   refine ak_ 81 [.cell 6 29, .tmp 7] Tryz.func56 rfl rfl rfl rfl ?_
   repeat' (first | with_reducible refine ad_ ?_ | ((with_reducible refine ac_ ?_); first | ((with_reducible refine al_ ?_); refine aq_ (aj_ rfl ah_ Tryz.underlying114 rfl cs_ rfl rfl) ?_) | ((with_reducible refine aE_ ?_); refine aq_ (aR_ rfl Tryz.underlying238 zs26 zz26 rfl rfl) ?_) | ((with_reducible refine ay_ ?_); refine bQ_ (aB_ rfl rfl ah_ zs29 rfl rfl rfl rfl) ?_) | ((with_reducible refine at_ ?_); first | refine aq_ (aK_ rfl rfl (qf _ _ (Sl.ofAt (show At _ _ (.cells [.int .i64 E, .int .i64 D] 26 1 false) from ah_) rfl (Nat.le_refl _)))) ?_ | (refine as_ rfl rfl rfl rfl (q62 _ aA_) rfl rfl ?_; rintro _ _ ⟨rfl, hq⟩; all_goals (try (have hqn := hq.nx); try simp only [aU_] at hqn)) | (refine as_ rfl rfl rfl rfl (q49 _ au_ aA_) rfl rfl ?_; rintro _ _ ⟨rfl, hq⟩; all_goals (try (have hqn := hq.nx); try simp only [aU_] at hqn))) | refine ao_ ?_) | refine ap_ ?_ | (refine aG_ rfl (fun hb => ?_) (fun hb => aw_ hb); (try simp only [aX_, reduceCtorEq] at hb)))
   exact rqc2 rfl (ldAgg ah_ Tryz.underlying29 rfl zs29 rfl rfl) rfl ⟨rfl, au_⟩
 rw [if_neg (by simpa using hc)] at hE qf
 by_cases he : ensE l = 0
 case neg =>
   rw [if_pos he] at hE
   rw [hb0 (by rw [hE]; exact he), hE]
   rw [hc] at q62 qf
   clear hb0 hE
   generalize ensE l = D at he q49 qf ⊢
   refine ak_ 81 [.cell 6 29, .tmp 7] Tryz.func56 rfl rfl rfl rfl ?_
   repeat' (first | with_reducible refine ad_ ?_ | ((with_reducible refine ac_ ?_); first | ((with_reducible refine al_ ?_); refine aq_ (aj_ rfl ah_ Tryz.underlying114 rfl cs_ rfl rfl) ?_) | ((with_reducible refine aE_ ?_); refine aq_ (aR_ rfl Tryz.underlying238 zs26 zz26 rfl rfl) ?_) | ((with_reducible refine ay_ ?_); refine bQ_ (aB_ rfl rfl ah_ zs29 rfl rfl rfl rfl) ?_) | ((with_reducible refine at_ ?_); first | refine aq_ (aK_ rfl rfl (qf _ _ (Sl.ofAt (show At _ _ (.cells [.int .i64 0, .int .i64 D] 26 1 false) from ah_) rfl (Nat.le_refl _)))) ?_ | (refine as_ rfl rfl rfl rfl (q62 _ aA_) rfl rfl ?_; rintro _ _ ⟨rfl, hq⟩; all_goals (try (have hqn := hq.nx); try simp only [aU_] at hqn)) | (refine as_ rfl rfl rfl rfl (q49 _ au_ aA_) rfl rfl ?_; rintro _ _ ⟨rfl, hq⟩; all_goals (try (have hqn := hq.nx); try simp only [aU_] at hqn))) | refine ao_ ?_) | refine ap_ ?_ | (refine aG_ rfl (fun hb => ?_) (fun hb => aw_ hb); (try simp only [aX_, reduceCtorEq] at hb)))
   exact rqc2 rfl (ldAgg ah_ Tryz.underlying29 rfl zs29 rfl rfl) rfl ⟨rfl, au_⟩
 rw [if_neg (by simpa using he)] at hE
 by_cases hr : rssE rs = 0
 case neg =>
   rw [hb0 (by rw [hE]; exact hr), hE]
   rw [hc] at q62 qf
   rw [he] at q49 qf
   rw [if_neg hr, if_neg hr] at q54
   clear hb0 hE
   generalize rssE rs = D at hr q54 ⊢
   refine ak_ 81 [.cell 6 29, .tmp 7] Tryz.func56 rfl rfl rfl rfl ?_
   repeat' (first | with_reducible refine ad_ ?_ | ((with_reducible refine ac_ ?_); first | ((with_reducible refine al_ ?_); refine aq_ (aj_ rfl ah_ Tryz.underlying114 rfl cs_ rfl rfl) ?_) | ((with_reducible refine aE_ ?_); refine aq_ (aR_ rfl Tryz.underlying238 zs26 zz26 rfl rfl) ?_) | ((with_reducible refine ay_ ?_); refine bQ_ (aB_ rfl rfl ah_ zs29 rfl rfl rfl rfl) ?_) | ((with_reducible refine at_ ?_); first | refine aq_ (aK_ rfl rfl (qf _ _ (Sl.ofAt (show At _ _ (.cells [.int .i64 0, .int .i64 0] 26 1 false) from ah_) rfl (Nat.le_refl _)))) ?_ | (refine as_ rfl rfl rfl rfl (q62 _ aA_) rfl rfl ?_; rintro _ _ ⟨rfl, hq⟩; all_goals (try (have hqn := hq.nx); try simp only [aU_] at hqn)) | (refine as_ rfl rfl rfl rfl (q49 _ au_ aA_) rfl rfl ?_; rintro _ _ ⟨rfl, hq⟩; all_goals (try (have hqn := hq.nx); try simp only [aU_] at hqn)) | (refine as_ rfl rfl rfl rfl (q54 _ au_ aA_) rfl rfl ?_; rintro _ _ ⟨⟨xa, xc, xb, xd, rfl⟩, hq⟩; all_goals (try (have hqn := hq.nx); try simp only [aU_] at hqn))) | refine ao_ ?_) | refine ap_ ?_ | (refine aG_ rfl (fun hb => ?_) (fun hb => aw_ hb); (try simp only [aX_, reduceCtorEq] at hb)))
   exact rqc2 rfl (ldAgg ah_ Tryz.underlying29 rfl zs29 rfl rfl) rfl ⟨rfl, au_⟩
 rw [if_pos hr, if_pos hr, hr] at q54
 have hBC : bilC c0 c1 c2 c3 c4 c5 c6 c7 c8 l rs = (bilL (hrK l l.length) c0 c1 c2 c3 c4 c5 c6 c7 c8 (accL rs).length (othL rs).length).map (.int .i64) := by unfold bilC; rw [if_pos (hE.trans hr)]
 rw [hBC, hE, hr]
 obtain ⟨h64, hv⟩ := ens_ok he
 have q108 := fun (h' : H) (g : Grow h h') (w' : Wf h') => c108 (s.grow g) hl (by omega) hv w'
 rw [hc] at q62 qf
 rw [he] at q49 qf
 obtain ⟨z0, z1, z2, z3, z4, z5, hz⟩ := six (hrK_len (l := l) l.length)
 obtain ⟨⟨p0, q0⟩, ⟨p1, q1⟩, ⟨p2, q2⟩, ⟨p3, q3⟩, ⟨p4, q4⟩, p5, q5⟩ := six_bd hv (n := l.length) (by omega) hz
 obtain ⟨⟨r0, s0⟩, ⟨r1, s1⟩, ⟨r2, s2⟩, ⟨r3, s3⟩, ⟨r4, s4⟩, ⟨r5, s5⟩, ⟨r6, s6⟩, ⟨r7, s7⟩, r8, s8⟩ := ct_ok hc
 have hbl : bilL (hrK l l.length) c0 c1 c2 c3 c4 c5 c6 c7 c8 (accL rs).length (othL rs).length = [z0 * c0, z1 * c1, max (z2 - c6) 0 * c2, z3 * c3, z4 * c4, z5 * c5, ((accL rs).length : Int) * c7 - ((othL rs).length : Int) * c8, (((accL rs).length : Int) * c7 - ((othL rs).length : Int) * c8) + z0 * c0 + z1 * c1 + max (z2 - c6) 0 * c2 + z3 * c3 + z4 * c4 + z5 * c5] := by rw [hz, bilL_eq]
 obtain ⟨P, hP⟩ : ∃ P, max (z2 - c6) 0 = P := ⟨_, rfl⟩
 have hPb : 0 ≤ P ∧ P ≤ 6400000 := by omega
 rw [hbl, hP]
 have na := acc_len rs
 have no := oth_len rs
 have h64r := rss_len hr
 rw [show hrK l n = [z0, z1, z2, z3, z4, z5] from by rw [← hl]; exact hz] at q108
 dsimp only [List.map] at q108 ⊢
 obtain ⟨NA, hNA⟩ : ∃ k, (accL rs).length = k := ⟨_, rfl⟩
 obtain ⟨NO, hNO⟩ : ∃ k, (othL rs).length = k := ⟨_, rfl⟩
 rw [hNA] at q54 na ⊢
 rw [hNO] at q54 no ⊢
 have m0 := cg_ (a := z0) (b := c0) (by omega) (by omega)
 have m1 := cg_ (a := z1) (b := c1) (by omega) (by omega)
 have m2 := cg_ (a := P) (b := c2) (by omega) (by omega)
 have m3 := cg_ (a := z3) (b := c3) (by omega) (by omega)
 have m4 := cg_ (a := z4) (b := c4) (by omega) (by omega)
 have m5 := cg_ (a := z5) (b := c5) (by omega) (by omega)
 have m7 := cg_ (a := (NA : Int)) (b := c7) (by omega) (by omega)
 have m8 := cg_ (a := (NO : Int)) (b := c8) (by omega) (by omega)
 obtain ⟨a0, e0⟩ : ∃ a, z0 * c0 = a := ⟨_, rfl⟩
 obtain ⟨a1, e1⟩ : ∃ a, z1 * c1 = a := ⟨_, rfl⟩
 obtain ⟨a2, e2⟩ : ∃ a, P * c2 = a := ⟨_, rfl⟩
 obtain ⟨a3, e3⟩ : ∃ a, z3 * c3 = a := ⟨_, rfl⟩
 obtain ⟨a4, e4⟩ : ∃ a, z4 * c4 = a := ⟨_, rfl⟩
 obtain ⟨a5, e5⟩ : ∃ a, z5 * c5 = a := ⟨_, rfl⟩
 obtain ⟨x7, e7⟩ : ∃ a, (NA : Int) * c7 = a := ⟨_, rfl⟩
 obtain ⟨x8, e8⟩ : ∃ a, (NO : Int) * c8 = a := ⟨_, rfl⟩
 rw [e0] at m0 ⊢
 rw [e1] at m1 ⊢
 rw [e2] at m2 ⊢
 rw [e3] at m3 ⊢
 rw [e4] at m4 ⊢
 rw [e5] at m5 ⊢
 rw [e7] at m7 ⊢
 rw [e8] at m8 ⊢
 obtain ⟨L, hL⟩ : ∃ L, x7 - x8 = L := ⟨_, rfl⟩
 rw [hL]
 have mL : -1000000000000 ≤ L ∧ L ≤ 1000000000000 := by omega
 have q122 := fun (h' : H) (w' : Wf h') => c122 (G := G) (h := h') (L := L) (T := 0) (a0 := a0) (a1 := a1) (a2 := a2) (a3 := a3) (a4 := a4) (a5 := a5) (by omega) (by omega) (by omega) (by omega) (by omega) (by omega) mL w'
 have qr0 := fun (h' : H) (w' : Wf h') => c156 (G := G) (h := h') (c0 := c0) (c1 := c1) (c2 := c2) (c3 := c3) (c4 := c4) (c5 := c5) (c6 := c6) (c7 := c7) (c8 := c8) w'
 have qr1 := fun (h' : H) (w' : Wf h') => c157 (G := G) (h := h') (c0 := c0) (c1 := c1) (c2 := c2) (c3 := c3) (c4 := c4) (c5 := c5) (c6 := c6) (c7 := c7) (c8 := c8) w'
 have qr2 := fun (h' : H) (w' : Wf h') => c158 (G := G) (h := h') (c0 := c0) (c1 := c1) (c2 := c2) (c3 := c3) (c4 := c4) (c5 := c5) (c6 := c6) (c7 := c7) (c8 := c8) w'
 have qr3 := fun (h' : H) (w' : Wf h') => c159 (G := G) (h := h') (c0 := c0) (c1 := c1) (c2 := c2) (c3 := c3) (c4 := c4) (c5 := c5) (c6 := c6) (c7 := c7) (c8 := c8) w'
 have qr4 := fun (h' : H) (w' : Wf h') => c160 (G := G) (h := h') (c0 := c0) (c1 := c1) (c2 := c2) (c3 := c3) (c4 := c4) (c5 := c5) (c6 := c6) (c7 := c7) (c8 := c8) w'
 have qr5 := fun (h' : H) (w' : Wf h') => c161 (G := G) (h := h') (c0 := c0) (c1 := c1) (c2 := c2) (c3 := c3) (c4 := c4) (c5 := c5) (c6 := c6) (c7 := c7) (c8 := c8) w'
 have q109 := fun (h' : H) (w' : Wf h') => c109v (G := G) (h := h') w'
 have q116 := fun (h' : H) (w' : Wf h') => (c116 (G := G) (h := h') w').mono (Q' := fun r h2 => (∃ b, r = .map (some b) ∧ b < h2.nx ∧ At h2 b (.map numM)) ∧ Grow h' h2) (fun r h2 ⟨e1, e2, e3⟩ => ⟨⟨_, e1, e2.lt, e2⟩, e3⟩)
 have lkn := fun (h' : H) (b : Nat) (at1 : At h' b (.map numM)) => lk_num0 (G := G) at1 cau_weather
 clear hb0 hE hBC hc he hr hv hz hbl hNA hNO
 refine ak_ 81 [.cell 6 29, .tmp 7] Tryz.func56 rfl rfl rfl rfl ?_
 refine bq_ (ι := Unit) (fun _ => [(1, .slice va n vc), (2, .slice ra m rc), (3, .pointer (some ⟨h.nx, 0, some 0⟩)), (6, .pointer (some ⟨h.nx + 1, 0, some 0⟩))]) (fun _ h' => (Wf h' ∧ Grow h h') ∧ At h' h.nx (.cells [.int .i64 c0, .int .i64 c1, .int .i64 c2, .int .i64 c3, .int .i64 c4, .int .i64 c5, .int .i64 c6, .int .i64 c7, .int .i64 c8] 114 9 false) ∧ At h' (h.nx + 1) (.cells [.int .i64 0, .int .i64 0, .int .i64 0, .int .i64 0, .int .i64 0, .int .i64 0, .int .i64 0, .int .i64 0] 29 8 false)) ?_ ?_
 · clear q122 qr0 qr1 qr2 qr3 qr4 qr5
   repeat' (first | with_reducible refine ad_ ?_ | ((with_reducible refine ac_ ?_); refine ao_ ?_) | with_reducible refine bk_ ?_)
   exact ⟨rfl, (), af_ ⟨rfl, rfl, rfl, rfl, trivial⟩, ⟨aA_, au_⟩, ah_, ah_⟩
 rintro _ h1 ⟨⟨w1, g1⟩, aC, aI⟩
 refine bq_ (ι := Unit) (fun _ => [(1, .slice va n vc), (2, .slice ra m rc), (3, .pointer (some ⟨h.nx, 0, some 0⟩)), (6, .pointer (some ⟨h.nx + 1, 0, some 0⟩))]) (fun _ h' => Wf h' ∧ Grow h1 h') ?_ ?_
 · clear q122 qr0 qr1 qr2 qr3 qr4 qr5
   have lC := aC.lt
   have n1 := g1.nx
   repeat' (first | with_reducible refine ad_ ?_ | ((with_reducible refine ac_ ?_); first | ((with_reducible refine al_ ?_); refine aq_ (aj_ rfl ah_ Tryz.underlying114 rfl cs_ rfl rfl) ?_) | ((with_reducible refine aE_ ?_); refine aq_ (aR_ rfl Tryz.underlying238 zs26 zz26 rfl rfl) ?_) | ((with_reducible refine at_ ?_); first | refine aq_ (aK_ rfl rfl (qf _ _ (Sl.ofAt (show At _ _ (.cells [.int .i64 0, .int .i64 0] 26 1 false) from ah_) rfl (Nat.le_refl _)))) ?_ | (refine as_ rfl rfl rfl rfl (q62 _ aA_) rfl rfl ?_; rintro _ _ ⟨rfl, hq⟩; all_goals (try (have hqn := hq.nx); try simp only [aU_] at hqn)) | (refine as_ rfl rfl rfl rfl (q49 _ (g1.trans au_) aA_) rfl rfl ?_; rintro _ _ ⟨rfl, hq⟩; all_goals (try (have hqn := hq.nx); try simp only [aU_] at hqn))) | refine ao_ ?_) | refine ap_ ?_)
   exact ⟨rfl, (), af_ ⟨rfl, rfl, rfl, rfl, trivial⟩, aA_, au_⟩
 clear w1 q62 q49 qf
 rintro _ h2 ⟨w1, g2⟩
 have aC := aC.grow g2
 have aI := aI.grow g2
 have g1 := g1.trans g2
 clear g2
 refine bq_ (ι := Option Addr × Nat × Option Addr × Nat) (fun z => [(1, .slice va n vc), (3, .pointer (some ⟨h.nx, 0, some 0⟩)), (6, .pointer (some ⟨h.nx + 1, 0, some 0⟩)), (9, .slice z.1 NA z.2.1), (10, .slice z.2.2.1 NO z.2.2.2), (11, .int .i64 0)]) (fun z h' => Wf h' ∧ Grow h2 h') ?_ ?_
 · clear q122 qr0 qr1 qr2 qr3 qr4 qr5
   have n1 := g1.nx
   repeat' (first | with_reducible refine ad_ ?_ | ((with_reducible refine ac_ ?_); first | ((with_reducible refine at_ ?_); (refine as_ rfl rfl rfl rfl (q54 _ (g1.trans au_) aA_) rfl rfl ?_; rintro _ _ ⟨⟨xa, xc, xb, xd, rfl⟩, hq⟩; all_goals (try (have hqn := hq.nx); try simp only [aU_] at hqn))) | refine ao_ ?_) | with_reducible refine bk_ ?_)
   exact ⟨rfl, (xa, xc, xb, xd), af_ ⟨rfl, rfl, rfl, rfl, rfl, rfl, trivial⟩, aA_, au_⟩
 clear w1 q54
 rintro ⟨xa, xc, xb, xd⟩ h3 ⟨w1, g2⟩
 dsimp only
 have aC := aC.grow g2
 have aI := aI.grow g2
 have g1 := g1.trans g2
 have n0 := g1.nx
 have lC0 := aC.lt
 have lI0 := aI.lt
 clear g2
 refine bq_ (ι := Unit) (fun _ => [(1, .slice va n vc), (3, .pointer (some ⟨h.nx, 0, some 0⟩)), (6, .pointer (some ⟨h.nx + 1, 0, some 0⟩)), (9, .slice xa NA xc), (10, .slice xb NO xd)]) (fun _ h' => h3 = h') ?_ ?_
 · repeat' (first | with_reducible refine ad_ ?_ | ((with_reducible refine ac_ ?_); refine ao_ ?_) | refine ap_ ?_)
   exact ⟨rfl, (), af_ ⟨rfl, rfl, rfl, rfl, rfl, trivial⟩, rfl⟩
 rintro _ _ rfl
 refine bq_ (ι := Nat) (fun b12 => [(1, .slice va n vc), (3, .pointer (some ⟨h.nx, 0, some 0⟩)), (6, .pointer (some ⟨h.nx + 1, 0, some 0⟩)), (12, .pointer (some ⟨b12, 0, some 0⟩))]) (fun b12 h' => (Wf h' ∧ Grow h3 h') ∧ h3.nx ≤ b12 ∧ At h' b12 (.cells [.int .i64 0, .int .i64 0, .int .i64 0, .int .i64 0, .int .i64 0, .int .i64 0, .int .i64 L, .int .i64 0] 29 8 false)) ?_ ?_
 · clear q122 qr0 qr1 qr2 qr3 qr4 qr5
   have lC := aC.lt
   repeat' (first | with_reducible refine ad_ ?_ | ((with_reducible refine ac_ ?_); first | ((with_reducible refine bG_ ?_); first | refine aq_ (op_mulE rfl rfl e7 (by omega)) ?_ | refine aq_ (op_mulE rfl rfl e8 (by omega)) ?_ | refine aq_ (op_subE rfl rfl hL mL) ?_) | ((with_reducible refine al_ ?_); refine aq_ (ae_ rfl ah_ Tryz.underlying3 rfl rfl) ?_) | ((with_reducible refine ay_ ?_); refine bQ_ (aB_ rfl rfl ah_ zs29 rfl rfl rfl rfl) ?_) | ((with_reducible refine av_ ?_); refine aq_ (ax_ rfl Tryz.underlying25) ?_) | refine ao_ ?_) | with_reducible refine bk_ ?_)
   exact ⟨rfl, h3.nx, af_ ⟨rfl, rfl, rfl, rfl, trivial⟩, ⟨aA_, au_⟩, Nat.le_refl _, (show At _ h3.nx (.cells [.int .i64 0, .int .i64 0, .int .i64 0, .int .i64 0, .int .i64 0, .int .i64 0, .int .i64 L, .int .i64 0] 29 8 false) from ah_)⟩
 clear w1 m7 m8 e7 e8 hL
 rintro b12 h4 ⟨⟨w1, g2⟩, hb12, a12⟩
 have lb12 := a12.lt
 have aC := aC.grow g2
 have aI := aI.grow g2
 have g1 := g1.trans g2
 have n3 := g2.nx
 clear g2
 refine bq_ (ι := Nat) (fun b13 => [(1, .slice va n vc), (3, .pointer (some ⟨h.nx, 0, some 0⟩)), (6, .pointer (some ⟨h.nx + 1, 0, some 0⟩)), (12, .pointer (some ⟨b12, 0, some 0⟩)), (13, .pointer (some ⟨b13, 0, some 0⟩))]) (fun b13 h' => (Wf h' ∧ Grow h4 h') ∧ h4.nx ≤ b13 ∧ At h' b13 (.cells [.int .i64 z0, .int .i64 z1, .int .i64 z2, .int .i64 z3, .int .i64 z4, .int .i64 z5] 22 6 false)) ?_ ?_
 · clear q122 qr0 qr1 qr2 qr3 qr4 qr5
   have n1 := g1.nx
   repeat' (first | with_reducible refine ad_ ?_ | ((with_reducible refine ac_ ?_); first | ((with_reducible refine ay_ ?_); refine bQ_ (aB_ rfl rfl ah_ zs22 rfl rfl rfl rfl) ?_) | ((with_reducible refine at_ ?_); (refine as_ rfl rfl rfl rfl (q108 _ (g1.trans au_) aA_) rfl rfl ?_; rintro _ _ ⟨rfl, hq⟩; all_goals (try (have hqn := hq.nx); try simp only [aU_] at hqn))) | refine ao_ ?_) | with_reducible refine bk_ ?_)
   refine ⟨rfl, _, af_ ⟨rfl, rfl, rfl, rfl, rfl, trivial⟩, ⟨aA_, au_⟩, ?_, ah_⟩
   first | omega | (simp only [H.nx_push, H.nx_set, H.nx_bump] at *; omega)
 clear w1 q108
 rintro b13 h5 ⟨⟨w1, g2⟩, hb13, a13⟩
 have aC := aC.grow g2
 have aI := aI.grow g2
 have a12 := a12.grow g2
 have g1 := g1.trans g2
 have n4 := g2.nx
 clear g2
 refine bq_ (ι := Unit) (fun _ => [(3, .pointer (some ⟨h.nx, 0, some 0⟩)), (6, .pointer (some ⟨h.nx + 1, 0, some 0⟩)), (12, .pointer (some ⟨b12, 0, some 0⟩)), (13, .pointer (some ⟨b13, 0, some 0⟩)), (14, .int .i64 2)]) (fun _ h' => Wf h' ∧ Grow h5 h') ?_ ?_
 · clear q122 qr0 qr1 qr2 qr3 qr4 qr5
   repeat' (first | with_reducible refine ad_ ?_ | ((with_reducible refine ac_ ?_); first | ((with_reducible refine at_ ?_); (refine as_ rfl rfl rfl rfl (q116 _ aA_) rfl rfl ?_; rintro _ _ ⟨⟨b, rfl, ltb, atb⟩, hq⟩; all_goals (try (have hqn := hq.nx); try simp only [aU_] at hqn))) | refine ao_ ?_) | with_reducible refine bk_ ?_ | ((with_reducible refine ac_ ?_); refine aq_ (cc_ rfl rfl (lkn _ _ ah_)) ?_))
   exact ⟨rfl, (), af_ ⟨rfl, rfl, rfl, rfl, rfl, trivial⟩, aA_, au_⟩
 clear w1 q116 lkn
 rintro _ h6 ⟨w1, g2⟩
 have aC := aC.grow g2
 have aI := aI.grow g2
 have a12 := a12.grow g2
 have a13 := a13.grow g2
 have n5 := g2.nx
 have l13 := a13.lt
 have l12 := a12.lt
 have g1 := g1.trans g2
 clear g2
 refine bq_ (ι := Unit) (fun _ => [(3, .pointer (some ⟨h.nx, 0, some 0⟩)), (6, .pointer (some ⟨h.nx + 1, 0, some 0⟩)), (12, .pointer (some ⟨b12, 0, some 0⟩)), (13, .pointer (some ⟨b13, 0, some 0⟩))]) (fun _ h' => (Wf h' ∧ Grow h h') ∧ (At h' h.nx (.cells [.int .i64 c0, .int .i64 c1, .int .i64 c2, .int .i64 c3, .int .i64 c4, .int .i64 c5, .int .i64 c6, .int .i64 c7, .int .i64 c8] 114 9 false) ∧ At h' (h.nx + 1) (.cells [.int .i64 0, .int .i64 0, .int .i64 0, .int .i64 0, .int .i64 0, .int .i64 0, .int .i64 0, .int .i64 0] 29 8 false)) ∧ At h' b12 (.cells [.int .i64 0, .int .i64 0, .int .i64 0, .int .i64 0, .int .i64 0, .int .i64 0, .int .i64 L, .int .i64 0] 29 8 false) ∧ At h' b13 (.cells [.int .i64 z0, .int .i64 z1, .int .i64 P, .int .i64 z3, .int .i64 z4, .int .i64 z5] 22 6 false)) ?_ ?_
 · clear q122 qr0 qr1 qr2 qr3 qr4 qr5
   have lC := aC.lt
   have lI := aI.lt
   repeat' (first | ((with_reducible refine bb_ ?_); ((with_reducible refine bd_ ?_); first | ((with_reducible refine ba_ ?_); refine aH_ (aa_ rfl) rfl rfl (ar_ rfl (aD_ rfl)) rfl rfl rfl ?_) | ((with_reducible refine aT_ ?_); refine aH_ (aa_ rfl) rfl rfl (ar_ rfl (bs_ rfl rfl (k := 2) rfl Tryz.underlying22 zs3 (by omega))) rfl rfl rfl ?_) | ((with_reducible refine aZ_ ?_); first | refine aO_ (aa_ rfl) rfl (ar_ rfl (ae_ (b := b13) (off := 2) rfl ah_ Tryz.underlying3 rfl rfl)) rfl rfl rfl ?_ | refine aO_ (aa_ rfl) rfl (ar_ rfl (ae_ (b := h.nx) (off := 6) rfl ah_ Tryz.underlying3 rfl rfl)) rfl rfl rfl ?_) | ((with_reducible refine xk_callb ?_); refine aH_ (aa_ rfl) rfl rfl (ar_ rfl (op_maxE rfl rfl hP)) rfl rfl rfl ?_) | ((with_reducible refine bN_ ?_); refine wx_ee0 (aa_ rfl) rfl rfl (bA_ (b := b13) (o := 2) (cs := [.int .i64 z0, .int .i64 z1, .int .i64 P, .int .i64 z3, .int .i64 z4, .int .i64 z5]) rfl rfl ah_ rfl zs3 (Nat.le_of_ble_eq_true rfl) rfl rfl) rfl ?_) | ((with_reducible refine bD_ ?_); refine aH_ (aa_ rfl) rfl rfl (ar_ rfl (bY_ rfl rfl (w64 (by omega) (by omega)))) rfl rfl rfl ?_) | ((with_reducible refine aC_ ?_); refine aH_ (aa_ rfl) rfl rfl (ar_ rfl (ab_ (o := 6) rfl Tryz.underlying114 rfl zs3 rfl)) rfl rfl rfl ?_) | with_reducible refine bj_ ?_ ?_)) | with_reducible exact aP_ | with_reducible refine aJ_ ?_ ?_ | ((with_reducible refine bi_ ?_); first | exact aS_ | refine aQ_ rfl ?_ | refine am_ rfl rfl (ar_ rfl (ae_ (b := b13) (off := 2) rfl ah_ Tryz.underlying3 rfl (by rfl))) ?_ | refine am_ rfl rfl (ar_ rfl (ae_ (b := h.nx) (off := 6) rfl ah_ Tryz.underlying3 rfl (by rfl))) ?_) | refine aF_ (id := 10) 10 [0, 0, 2, 6, 0, 16, 62, 126, 255, 511] [0, 1, 2, 3, 4, 5, 6, 7, 8, 9] (by kernel_rfl) (by kernel_rfl) rfl rfl ?_)
   exact ⟨rfl, (), af_ ⟨rfl, rfl, rfl, rfl, trivial⟩, ⟨aA_, au_⟩, ⟨ah_, ah_⟩, ah_, ah_⟩
 clear w1 a13 a12 aC aI g1 l13 l12
 rintro _ h7 ⟨⟨w1, g1⟩, ⟨aC, aI⟩, a12, a13⟩
 have l13 := a13.lt
 refine bq_ (ι := Unit) (fun _ => [(6, .pointer (some ⟨h.nx + 1, 0, some 0⟩)), (12, .pointer (some ⟨b12, 0, some 0⟩))]) (fun _ h' => (Wf h' ∧ Grow h h') ∧ At h' (h.nx + 1) (.cells [.int .i64 0, .int .i64 0, .int .i64 0, .int .i64 0, .int .i64 0, .int .i64 0, .int .i64 0, .int .i64 0] 29 8 false) ∧ At h' b12 (.cells [.int .i64 a0, .int .i64 a1, .int .i64 a2, .int .i64 a3, .int .i64 a4, .int .i64 a5, .int .i64 L, .int .i64 0] 29 8 false)) ?_ ?_
 · refine bq_ (ι := Unit) (fun _ => [(3, .pointer (some ⟨h.nx, 0, some 0⟩)), (6, .pointer (some ⟨h.nx + 1, 0, some 0⟩)), (12, .pointer (some ⟨b12, 0, some 0⟩)), (13, .pointer (some ⟨b13, 0, some 0⟩)), (62, .agg ⟨[.string ⟨⟨[115, 104, 111, 111, 116]⟩⟩, .bool false, .func (.func 156) #[] #[], .string ⟨⟨[116, 117, 114, 110]⟩⟩, .bool false, .func (.func 157) #[] #[], .string ⟨⟨[119, 101, 97, 116, 104, 101, 114]⟩⟩, .bool true, .func (.func 158) #[] #[], .string ⟨⟨[97, 110, 105, 109, 97, 108]⟩⟩, .bool true, .func (.func 159) #[] #[], .string ⟨⟨[103, 101, 97, 114]⟩⟩, .bool true, .func (.func 160) #[] #[], .string ⟨⟨[115, 104, 97, 114, 101]⟩⟩, .bool true, .func (.func 161) #[] #[]]⟩), (63, .int .i64 (0 : Nat))]) (fun _ h' => (Wf h' ∧ Grow h h') ∧ (At h' h.nx (.cells [.int .i64 c0, .int .i64 c1, .int .i64 c2, .int .i64 c3, .int .i64 c4, .int .i64 c5, .int .i64 c6, .int .i64 c7, .int .i64 c8] 114 9 false) ∧ At h' (h.nx + 1) (.cells [.int .i64 0, .int .i64 0, .int .i64 0, .int .i64 0, .int .i64 0, .int .i64 0, .int .i64 0, .int .i64 0] 29 8 false)) ∧ At h' b12 (.cells [.int .i64 0, .int .i64 0, .int .i64 0, .int .i64 0, .int .i64 0, .int .i64 0, .int .i64 L, .int .i64 0] 29 8 false) ∧ At h' b13 (.cells [.int .i64 z0, .int .i64 z1, .int .i64 P, .int .i64 z3, .int .i64 z4, .int .i64 z5] 22 6 false)) ?_ ?_
   · clear q122 qr0 qr1 qr2 qr3 qr4 qr5
     have lC := aC.lt
     have lI := aI.lt
     have l12 := a12.lt
     repeat' (first | with_reducible refine ad_ ?_ | ((with_reducible refine ac_ ?_); first | ((with_reducible refine at_ ?_); (refine as_ rfl rfl rfl rfl (q109 _ aA_) rfl rfl ?_; rintro _ _ ⟨rfl, hq⟩; all_goals (try (have hqn := hq.nx); try simp only [aU_] at hqn))) | refine ao_ ?_) | with_reducible refine bk_ ?_)
     exact ⟨rfl, (), af_ ⟨rfl, rfl, rfl, rfl, rfl, rfl, trivial⟩, ⟨aA_, au_⟩, ⟨ah_, ah_⟩, ah_, ah_⟩
   clear w1 g1 aC aI a12 a13 l13 q109
   rintro _ h7 ⟨⟨w1, g1⟩, ⟨aC, aI⟩, a12, a13⟩
   refine wc_block ?_
   refine bo_ (fun k => 6 - k) (fun k : Nat => [(3, .pointer (some ⟨h.nx, 0, some 0⟩)), (6, .pointer (some ⟨h.nx + 1, 0, some 0⟩)), (12, .pointer (some ⟨b12, 0, some 0⟩)), (13, .pointer (some ⟨b13, 0, some 0⟩)), (62, .agg ⟨[.string ⟨⟨[115, 104, 111, 111, 116]⟩⟩, .bool false, .func (.func 156) #[] #[], .string ⟨⟨[116, 117, 114, 110]⟩⟩, .bool false, .func (.func 157) #[] #[], .string ⟨⟨[119, 101, 97, 116, 104, 101, 114]⟩⟩, .bool true, .func (.func 158) #[] #[], .string ⟨⟨[97, 110, 105, 109, 97, 108]⟩⟩, .bool true, .func (.func 159) #[] #[], .string ⟨⟨[103, 101, 97, 114]⟩⟩, .bool true, .func (.func 160) #[] #[], .string ⟨⟨[115, 104, 97, 114, 101]⟩⟩, .bool true, .func (.func 161) #[] #[]]⟩), (63, .int .i64 (k : Nat))]) (fun k h' => (Wf h' ∧ Grow h h') ∧ k ≤ 6 ∧ (At h' h.nx (.cells [.int .i64 c0, .int .i64 c1, .int .i64 c2, .int .i64 c3, .int .i64 c4, .int .i64 c5, .int .i64 c6, .int .i64 c7, .int .i64 c8] 114 9 false) ∧ At h' (h.nx + 1) (.cells [.int .i64 0, .int .i64 0, .int .i64 0, .int .i64 0, .int .i64 0, .int .i64 0, .int .i64 0, .int .i64 0] 29 8 false)) ∧ At h' b12 (.cells (bcK a0 a1 a2 a3 a4 a5 L k) 29 8 false) ∧ At h' b13 (.cells [.int .i64 z0, .int .i64 z1, .int .i64 P, .int .i64 z3, .int .i64 z4, .int .i64 z5] 22 6 false)) 0 (af_ ⟨rfl, rfl, rfl, rfl, rfl, rfl, trivial⟩) ⟨⟨w1, g1⟩, by omega, ⟨aC, aI⟩, a12, a13⟩ ?_
   clear w1 g1 aC aI a12 a13 q122
   rintro k h8 ⟨⟨w1, g1⟩, hk, ⟨aC, aI⟩, a12, a13⟩
   have n8 := g1.nx
   have l12 := a12.lt
   have l13 := a13.lt
   have lI := aI.lt
   by_cases hlt : k < 6
   · match k, hlt with
     | 0, _ =>
       have a12 : At h8 b12 (.cells [.int .i64 0, .int .i64 0, .int .i64 0, .int .i64 0, .int .i64 0, .int .i64 0, .int .i64 L, .int .i64 0] 29 8 false) := a12
       repeat' (first | with_reducible refine ad_ ?_ | ((with_reducible refine ac_ ?_); first | ((with_reducible refine bv_ ?_); refine aq_ (by_ (v := .agg ⟨[.string ⟨⟨[115, 104, 111, 111, 116]⟩⟩, .bool false, .func (.func 156) #[] #[]]⟩) rfl rfl Tryz.underlying192 ce_ (by decide) (by decide) rfl) ?_) | ((with_reducible refine ay_ ?_); refine bQ_ (aB_ rfl rfl ah_ ce_ rfl rfl rfl rfl) ?_) | refine ao_ ?_) | ((with_reducible refine bb_ ?_); ((with_reducible refine bd_ ?_); first | ((with_reducible refine ba_ ?_); refine aH_ (aa_ rfl) rfl rfl (ar_ rfl (aD_ rfl)) rfl rfl rfl ?_) | ((with_reducible refine aT_ ?_); refine aH_ (aa_ rfl) rfl rfl (ar_ rfl (bs_ rfl rfl (k := 0) rfl Tryz.underlying22 zs3 (by omega))) rfl rfl rfl ?_) | ((with_reducible refine aZ_ ?_); first | refine aO_ (aa_ rfl) rfl (ar_ rfl (ae_ (b := b13) (off := 0) rfl ah_ Tryz.underlying3 rfl rfl)) rfl rfl rfl ?_ | refine aO_ (aa_ rfl) rfl (ar_ rfl (aj_ rfl ah_ Tryz.underlying114 rfl cs_ rfl rfl)) rfl rfl rfl ?_ | refine aO_ (aa_ rfl) rfl (ar_ rfl (ae_ rfl ah_ Tryz.underlying189 rfl rfl)) rfl rfl rfl ?_) | ((with_reducible refine bD_ ?_); refine aH_ (aa_ rfl) rfl rfl (ar_ rfl (op_mulE rfl rfl e0 (by omega))) rfl rfl rfl ?_) | ((with_reducible refine bN_ ?_); refine wx_ee0 (aa_ rfl) rfl rfl (bA_ (b := b12) (o := 0) (cs := [.int .i64 a0, .int .i64 0, .int .i64 0, .int .i64 0, .int .i64 0, .int .i64 0, .int .i64 L, .int .i64 0]) rfl rfl ah_ rfl zs3 (Nat.le_of_ble_eq_true rfl) rfl rfl) rfl ?_) | ((with_reducible refine aC_ ?_); first | refine aH_ (aa_ rfl) rfl rfl (ar_ rfl (ab_ (o := 2) rfl Tryz.underlying191 rfl zs189 rfl)) rfl rfl rfl ?_ | refine aH_ (aa_ rfl) rfl rfl (ar_ rfl (ab_ (o := 0) rfl Tryz.underlying29 rfl zs22 rfl)) rfl rfl rfl ?_) | ((with_reducible refine aV_ ?_); (refine aM_ (aa_ rfl) rfl rfl rfl rfl (qr0 _ aA_) rfl rfl ?_; rintro _ _ ⟨rfl, hq⟩; all_goals (try (have hqn := hq.nx); try simp only [aU_] at hqn))) | with_reducible refine bj_ ?_ ?_)) | with_reducible exact aP_ | with_reducible refine aJ_ ?_ ?_ | ((with_reducible refine bi_ ?_); first | exact aS_ | refine aQ_ rfl ?_ | refine am_ rfl rfl (ar_ rfl (ae_ (b := b13) (off := 0) rfl ah_ Tryz.underlying3 rfl (by rfl))) ?_ | refine am_ rfl rfl (ar_ rfl (aj_ rfl ah_ Tryz.underlying114 rfl cs_ (by rfl) rfl)) ?_ | refine am_ rfl rfl (ar_ rfl (ae_ rfl ah_ Tryz.underlying189 rfl (by rfl))) ?_) | refine ap_ ?_ | refine aF_ (id := 14) 12 [0, 0, 2, 6, 0, 16, 0, 112, 254, 0, 1023, 2047] [0, 1, 2, 3, 4, 5, 6, 7, 8, 9, 10, 11] (by kernel_rfl) (by kernel_rfl) rfl rfl ?_)
       exact aI_ (0 + 1) (by omega) (af_ ⟨rfl, rfl, rfl, rfl, rfl, rfl, trivial⟩) ⟨⟨aA_, au_⟩, by omega, ⟨ah_, ah_⟩, (show At _ b12 (.cells [.int .i64 a0, .int .i64 0, .int .i64 0, .int .i64 0, .int .i64 0, .int .i64 0, .int .i64 L, .int .i64 0] 29 8 false) from ah_), ah_⟩
     | 1, _ =>
       have a12 : At h8 b12 (.cells [.int .i64 a0, .int .i64 0, .int .i64 0, .int .i64 0, .int .i64 0, .int .i64 0, .int .i64 L, .int .i64 0] 29 8 false) := a12
       repeat' (first | with_reducible refine ad_ ?_ | ((with_reducible refine ac_ ?_); first | ((with_reducible refine bv_ ?_); refine aq_ (by_ (v := .agg ⟨[.string ⟨⟨[116, 117, 114, 110]⟩⟩, .bool false, .func (.func 157) #[] #[]]⟩) rfl rfl Tryz.underlying192 ce_ (by decide) (by decide) rfl) ?_) | ((with_reducible refine ay_ ?_); refine bQ_ (aB_ rfl rfl ah_ ce_ rfl rfl rfl rfl) ?_) | refine ao_ ?_) | ((with_reducible refine bb_ ?_); ((with_reducible refine bd_ ?_); first | ((with_reducible refine ba_ ?_); refine aH_ (aa_ rfl) rfl rfl (ar_ rfl (aD_ rfl)) rfl rfl rfl ?_) | ((with_reducible refine aT_ ?_); refine aH_ (aa_ rfl) rfl rfl (ar_ rfl (bs_ rfl rfl (k := 1) rfl Tryz.underlying22 zs3 (by omega))) rfl rfl rfl ?_) | ((with_reducible refine aZ_ ?_); first | refine aO_ (aa_ rfl) rfl (ar_ rfl (ae_ (b := b13) (off := 1) rfl ah_ Tryz.underlying3 rfl rfl)) rfl rfl rfl ?_ | refine aO_ (aa_ rfl) rfl (ar_ rfl (aj_ rfl ah_ Tryz.underlying114 rfl cs_ rfl rfl)) rfl rfl rfl ?_ | refine aO_ (aa_ rfl) rfl (ar_ rfl (ae_ rfl ah_ Tryz.underlying189 rfl rfl)) rfl rfl rfl ?_) | ((with_reducible refine bD_ ?_); refine aH_ (aa_ rfl) rfl rfl (ar_ rfl (op_mulE rfl rfl e1 (by omega))) rfl rfl rfl ?_) | ((with_reducible refine bN_ ?_); refine wx_ee0 (aa_ rfl) rfl rfl (bA_ (b := b12) (o := 1) (cs := [.int .i64 a0, .int .i64 a1, .int .i64 0, .int .i64 0, .int .i64 0, .int .i64 0, .int .i64 L, .int .i64 0]) rfl rfl ah_ rfl zs3 (Nat.le_of_ble_eq_true rfl) rfl rfl) rfl ?_) | ((with_reducible refine aC_ ?_); first | refine aH_ (aa_ rfl) rfl rfl (ar_ rfl (ab_ (o := 2) rfl Tryz.underlying191 rfl zs189 rfl)) rfl rfl rfl ?_ | refine aH_ (aa_ rfl) rfl rfl (ar_ rfl (ab_ (o := 0) rfl Tryz.underlying29 rfl zs22 rfl)) rfl rfl rfl ?_) | ((with_reducible refine aV_ ?_); (refine aM_ (aa_ rfl) rfl rfl rfl rfl (qr1 _ aA_) rfl rfl ?_; rintro _ _ ⟨rfl, hq⟩; all_goals (try (have hqn := hq.nx); try simp only [aU_] at hqn))) | with_reducible refine bj_ ?_ ?_)) | with_reducible exact aP_ | with_reducible refine aJ_ ?_ ?_ | ((with_reducible refine bi_ ?_); first | exact aS_ | refine aQ_ rfl ?_ | refine am_ rfl rfl (ar_ rfl (ae_ (b := b13) (off := 1) rfl ah_ Tryz.underlying3 rfl (by rfl))) ?_ | refine am_ rfl rfl (ar_ rfl (aj_ rfl ah_ Tryz.underlying114 rfl cs_ (by rfl) rfl)) ?_ | refine am_ rfl rfl (ar_ rfl (ae_ rfl ah_ Tryz.underlying189 rfl (by rfl))) ?_) | refine ap_ ?_ | refine aF_ (id := 14) 12 [0, 0, 2, 6, 0, 16, 0, 112, 254, 0, 1023, 2047] [0, 1, 2, 3, 4, 5, 6, 7, 8, 9, 10, 11] (by kernel_rfl) (by kernel_rfl) rfl rfl ?_)
       exact aI_ (1 + 1) (by omega) (af_ ⟨rfl, rfl, rfl, rfl, rfl, rfl, trivial⟩) ⟨⟨aA_, au_⟩, by omega, ⟨ah_, ah_⟩, (show At _ b12 (.cells [.int .i64 a0, .int .i64 a1, .int .i64 0, .int .i64 0, .int .i64 0, .int .i64 0, .int .i64 L, .int .i64 0] 29 8 false) from ah_), ah_⟩
     | 2, _ =>
       have a12 : At h8 b12 (.cells [.int .i64 a0, .int .i64 a1, .int .i64 0, .int .i64 0, .int .i64 0, .int .i64 0, .int .i64 L, .int .i64 0] 29 8 false) := a12
       repeat' (first | with_reducible refine ad_ ?_ | ((with_reducible refine ac_ ?_); first | ((with_reducible refine bv_ ?_); refine aq_ (by_ (v := .agg ⟨[.string ⟨⟨[119, 101, 97, 116, 104, 101, 114]⟩⟩, .bool true, .func (.func 158) #[] #[]]⟩) rfl rfl Tryz.underlying192 ce_ (by decide) (by decide) rfl) ?_) | ((with_reducible refine ay_ ?_); refine bQ_ (aB_ rfl rfl ah_ ce_ rfl rfl rfl rfl) ?_) | refine ao_ ?_) | ((with_reducible refine bb_ ?_); ((with_reducible refine bd_ ?_); first | ((with_reducible refine ba_ ?_); refine aH_ (aa_ rfl) rfl rfl (ar_ rfl (aD_ rfl)) rfl rfl rfl ?_) | ((with_reducible refine aT_ ?_); refine aH_ (aa_ rfl) rfl rfl (ar_ rfl (bs_ rfl rfl (k := 2) rfl Tryz.underlying22 zs3 (by omega))) rfl rfl rfl ?_) | ((with_reducible refine aZ_ ?_); first | refine aO_ (aa_ rfl) rfl (ar_ rfl (ae_ (b := b13) (off := 2) rfl ah_ Tryz.underlying3 rfl rfl)) rfl rfl rfl ?_ | refine aO_ (aa_ rfl) rfl (ar_ rfl (aj_ rfl ah_ Tryz.underlying114 rfl cs_ rfl rfl)) rfl rfl rfl ?_ | refine aO_ (aa_ rfl) rfl (ar_ rfl (ae_ rfl ah_ Tryz.underlying189 rfl rfl)) rfl rfl rfl ?_) | ((with_reducible refine bD_ ?_); refine aH_ (aa_ rfl) rfl rfl (ar_ rfl (op_mulE rfl rfl e2 (by omega))) rfl rfl rfl ?_) | ((with_reducible refine bN_ ?_); refine wx_ee0 (aa_ rfl) rfl rfl (bA_ (b := b12) (o := 2) (cs := [.int .i64 a0, .int .i64 a1, .int .i64 a2, .int .i64 0, .int .i64 0, .int .i64 0, .int .i64 L, .int .i64 0]) rfl rfl ah_ rfl zs3 (Nat.le_of_ble_eq_true rfl) rfl rfl) rfl ?_) | ((with_reducible refine aC_ ?_); first | refine aH_ (aa_ rfl) rfl rfl (ar_ rfl (ab_ (o := 2) rfl Tryz.underlying191 rfl zs189 rfl)) rfl rfl rfl ?_ | refine aH_ (aa_ rfl) rfl rfl (ar_ rfl (ab_ (o := 0) rfl Tryz.underlying29 rfl zs22 rfl)) rfl rfl rfl ?_) | ((with_reducible refine aV_ ?_); (refine aM_ (aa_ rfl) rfl rfl rfl rfl (qr2 _ aA_) rfl rfl ?_; rintro _ _ ⟨rfl, hq⟩; all_goals (try (have hqn := hq.nx); try simp only [aU_] at hqn))) | with_reducible refine bj_ ?_ ?_)) | with_reducible exact aP_ | with_reducible refine aJ_ ?_ ?_ | ((with_reducible refine bi_ ?_); first | exact aS_ | refine aQ_ rfl ?_ | refine am_ rfl rfl (ar_ rfl (ae_ (b := b13) (off := 2) rfl ah_ Tryz.underlying3 rfl (by rfl))) ?_ | refine am_ rfl rfl (ar_ rfl (aj_ rfl ah_ Tryz.underlying114 rfl cs_ (by rfl) rfl)) ?_ | refine am_ rfl rfl (ar_ rfl (ae_ rfl ah_ Tryz.underlying189 rfl (by rfl))) ?_) | refine ap_ ?_ | refine aF_ (id := 14) 12 [0, 0, 2, 6, 0, 16, 0, 112, 254, 0, 1023, 2047] [0, 1, 2, 3, 4, 5, 6, 7, 8, 9, 10, 11] (by kernel_rfl) (by kernel_rfl) rfl rfl ?_)
       exact aI_ (2 + 1) (by omega) (af_ ⟨rfl, rfl, rfl, rfl, rfl, rfl, trivial⟩) ⟨⟨aA_, au_⟩, by omega, ⟨ah_, ah_⟩, (show At _ b12 (.cells [.int .i64 a0, .int .i64 a1, .int .i64 a2, .int .i64 0, .int .i64 0, .int .i64 0, .int .i64 L, .int .i64 0] 29 8 false) from ah_), ah_⟩
     | 3, _ =>
       have a12 : At h8 b12 (.cells [.int .i64 a0, .int .i64 a1, .int .i64 a2, .int .i64 0, .int .i64 0, .int .i64 0, .int .i64 L, .int .i64 0] 29 8 false) := a12
       repeat' (first | with_reducible refine ad_ ?_ | ((with_reducible refine ac_ ?_); first | ((with_reducible refine bv_ ?_); refine aq_ (by_ (v := .agg ⟨[.string ⟨⟨[97, 110, 105, 109, 97, 108]⟩⟩, .bool true, .func (.func 159) #[] #[]]⟩) rfl rfl Tryz.underlying192 ce_ (by decide) (by decide) rfl) ?_) | ((with_reducible refine ay_ ?_); refine bQ_ (aB_ rfl rfl ah_ ce_ rfl rfl rfl rfl) ?_) | refine ao_ ?_) | ((with_reducible refine bb_ ?_); ((with_reducible refine bd_ ?_); first | ((with_reducible refine ba_ ?_); refine aH_ (aa_ rfl) rfl rfl (ar_ rfl (aD_ rfl)) rfl rfl rfl ?_) | ((with_reducible refine aT_ ?_); refine aH_ (aa_ rfl) rfl rfl (ar_ rfl (bs_ rfl rfl (k := 3) rfl Tryz.underlying22 zs3 (by omega))) rfl rfl rfl ?_) | ((with_reducible refine aZ_ ?_); first | refine aO_ (aa_ rfl) rfl (ar_ rfl (ae_ (b := b13) (off := 3) rfl ah_ Tryz.underlying3 rfl rfl)) rfl rfl rfl ?_ | refine aO_ (aa_ rfl) rfl (ar_ rfl (aj_ rfl ah_ Tryz.underlying114 rfl cs_ rfl rfl)) rfl rfl rfl ?_ | refine aO_ (aa_ rfl) rfl (ar_ rfl (ae_ rfl ah_ Tryz.underlying189 rfl rfl)) rfl rfl rfl ?_) | ((with_reducible refine bD_ ?_); refine aH_ (aa_ rfl) rfl rfl (ar_ rfl (op_mulE rfl rfl e3 (by omega))) rfl rfl rfl ?_) | ((with_reducible refine bN_ ?_); refine wx_ee0 (aa_ rfl) rfl rfl (bA_ (b := b12) (o := 3) (cs := [.int .i64 a0, .int .i64 a1, .int .i64 a2, .int .i64 a3, .int .i64 0, .int .i64 0, .int .i64 L, .int .i64 0]) rfl rfl ah_ rfl zs3 (Nat.le_of_ble_eq_true rfl) rfl rfl) rfl ?_) | ((with_reducible refine aC_ ?_); first | refine aH_ (aa_ rfl) rfl rfl (ar_ rfl (ab_ (o := 2) rfl Tryz.underlying191 rfl zs189 rfl)) rfl rfl rfl ?_ | refine aH_ (aa_ rfl) rfl rfl (ar_ rfl (ab_ (o := 0) rfl Tryz.underlying29 rfl zs22 rfl)) rfl rfl rfl ?_) | ((with_reducible refine aV_ ?_); (refine aM_ (aa_ rfl) rfl rfl rfl rfl (qr3 _ aA_) rfl rfl ?_; rintro _ _ ⟨rfl, hq⟩; all_goals (try (have hqn := hq.nx); try simp only [aU_] at hqn))) | with_reducible refine bj_ ?_ ?_)) | with_reducible exact aP_ | with_reducible refine aJ_ ?_ ?_ | ((with_reducible refine bi_ ?_); first | exact aS_ | refine aQ_ rfl ?_ | refine am_ rfl rfl (ar_ rfl (ae_ (b := b13) (off := 3) rfl ah_ Tryz.underlying3 rfl (by rfl))) ?_ | refine am_ rfl rfl (ar_ rfl (aj_ rfl ah_ Tryz.underlying114 rfl cs_ (by rfl) rfl)) ?_ | refine am_ rfl rfl (ar_ rfl (ae_ rfl ah_ Tryz.underlying189 rfl (by rfl))) ?_) | refine ap_ ?_ | refine aF_ (id := 14) 12 [0, 0, 2, 6, 0, 16, 0, 112, 254, 0, 1023, 2047] [0, 1, 2, 3, 4, 5, 6, 7, 8, 9, 10, 11] (by kernel_rfl) (by kernel_rfl) rfl rfl ?_)
       exact aI_ (3 + 1) (by omega) (af_ ⟨rfl, rfl, rfl, rfl, rfl, rfl, trivial⟩) ⟨⟨aA_, au_⟩, by omega, ⟨ah_, ah_⟩, (show At _ b12 (.cells [.int .i64 a0, .int .i64 a1, .int .i64 a2, .int .i64 a3, .int .i64 0, .int .i64 0, .int .i64 L, .int .i64 0] 29 8 false) from ah_), ah_⟩
     | 4, _ =>
       have a12 : At h8 b12 (.cells [.int .i64 a0, .int .i64 a1, .int .i64 a2, .int .i64 a3, .int .i64 0, .int .i64 0, .int .i64 L, .int .i64 0] 29 8 false) := a12
       repeat' (first | with_reducible refine ad_ ?_ | ((with_reducible refine ac_ ?_); first | ((with_reducible refine bv_ ?_); refine aq_ (by_ (v := .agg ⟨[.string ⟨⟨[103, 101, 97, 114]⟩⟩, .bool true, .func (.func 160) #[] #[]]⟩) rfl rfl Tryz.underlying192 ce_ (by decide) (by decide) rfl) ?_) | ((with_reducible refine ay_ ?_); refine bQ_ (aB_ rfl rfl ah_ ce_ rfl rfl rfl rfl) ?_) | refine ao_ ?_) | ((with_reducible refine bb_ ?_); ((with_reducible refine bd_ ?_); first | ((with_reducible refine ba_ ?_); refine aH_ (aa_ rfl) rfl rfl (ar_ rfl (aD_ rfl)) rfl rfl rfl ?_) | ((with_reducible refine aT_ ?_); refine aH_ (aa_ rfl) rfl rfl (ar_ rfl (bs_ rfl rfl (k := 4) rfl Tryz.underlying22 zs3 (by omega))) rfl rfl rfl ?_) | ((with_reducible refine aZ_ ?_); first | refine aO_ (aa_ rfl) rfl (ar_ rfl (ae_ (b := b13) (off := 4) rfl ah_ Tryz.underlying3 rfl rfl)) rfl rfl rfl ?_ | refine aO_ (aa_ rfl) rfl (ar_ rfl (aj_ rfl ah_ Tryz.underlying114 rfl cs_ rfl rfl)) rfl rfl rfl ?_ | refine aO_ (aa_ rfl) rfl (ar_ rfl (ae_ rfl ah_ Tryz.underlying189 rfl rfl)) rfl rfl rfl ?_) | ((with_reducible refine bD_ ?_); refine aH_ (aa_ rfl) rfl rfl (ar_ rfl (op_mulE rfl rfl e4 (by omega))) rfl rfl rfl ?_) | ((with_reducible refine bN_ ?_); refine wx_ee0 (aa_ rfl) rfl rfl (bA_ (b := b12) (o := 4) (cs := [.int .i64 a0, .int .i64 a1, .int .i64 a2, .int .i64 a3, .int .i64 a4, .int .i64 0, .int .i64 L, .int .i64 0]) rfl rfl ah_ rfl zs3 (Nat.le_of_ble_eq_true rfl) rfl rfl) rfl ?_) | ((with_reducible refine aC_ ?_); first | refine aH_ (aa_ rfl) rfl rfl (ar_ rfl (ab_ (o := 2) rfl Tryz.underlying191 rfl zs189 rfl)) rfl rfl rfl ?_ | refine aH_ (aa_ rfl) rfl rfl (ar_ rfl (ab_ (o := 0) rfl Tryz.underlying29 rfl zs22 rfl)) rfl rfl rfl ?_) | ((with_reducible refine aV_ ?_); (refine aM_ (aa_ rfl) rfl rfl rfl rfl (qr4 _ aA_) rfl rfl ?_; rintro _ _ ⟨rfl, hq⟩; all_goals (try (have hqn := hq.nx); try simp only [aU_] at hqn))) | with_reducible refine bj_ ?_ ?_)) | with_reducible exact aP_ | with_reducible refine aJ_ ?_ ?_ | ((with_reducible refine bi_ ?_); first | exact aS_ | refine aQ_ rfl ?_ | refine am_ rfl rfl (ar_ rfl (ae_ (b := b13) (off := 4) rfl ah_ Tryz.underlying3 rfl (by rfl))) ?_ | refine am_ rfl rfl (ar_ rfl (aj_ rfl ah_ Tryz.underlying114 rfl cs_ (by rfl) rfl)) ?_ | refine am_ rfl rfl (ar_ rfl (ae_ rfl ah_ Tryz.underlying189 rfl (by rfl))) ?_) | refine ap_ ?_ | refine aF_ (id := 14) 12 [0, 0, 2, 6, 0, 16, 0, 112, 254, 0, 1023, 2047] [0, 1, 2, 3, 4, 5, 6, 7, 8, 9, 10, 11] (by kernel_rfl) (by kernel_rfl) rfl rfl ?_)
       exact aI_ (4 + 1) (by omega) (af_ ⟨rfl, rfl, rfl, rfl, rfl, rfl, trivial⟩) ⟨⟨aA_, au_⟩, by omega, ⟨ah_, ah_⟩, (show At _ b12 (.cells [.int .i64 a0, .int .i64 a1, .int .i64 a2, .int .i64 a3, .int .i64 a4, .int .i64 0, .int .i64 L, .int .i64 0] 29 8 false) from ah_), ah_⟩
     | 5, _ =>
       have a12 : At h8 b12 (.cells [.int .i64 a0, .int .i64 a1, .int .i64 a2, .int .i64 a3, .int .i64 a4, .int .i64 0, .int .i64 L, .int .i64 0] 29 8 false) := a12
       repeat' (first | with_reducible refine ad_ ?_ | ((with_reducible refine ac_ ?_); first | ((with_reducible refine bv_ ?_); refine aq_ (by_ (v := .agg ⟨[.string ⟨⟨[115, 104, 97, 114, 101]⟩⟩, .bool true, .func (.func 161) #[] #[]]⟩) rfl rfl Tryz.underlying192 ce_ (by decide) (by decide) rfl) ?_) | ((with_reducible refine ay_ ?_); refine bQ_ (aB_ rfl rfl ah_ ce_ rfl rfl rfl rfl) ?_) | refine ao_ ?_) | ((with_reducible refine bb_ ?_); ((with_reducible refine bd_ ?_); first | ((with_reducible refine ba_ ?_); refine aH_ (aa_ rfl) rfl rfl (ar_ rfl (aD_ rfl)) rfl rfl rfl ?_) | ((with_reducible refine aT_ ?_); refine aH_ (aa_ rfl) rfl rfl (ar_ rfl (bs_ rfl rfl (k := 5) rfl Tryz.underlying22 zs3 (by omega))) rfl rfl rfl ?_) | ((with_reducible refine aZ_ ?_); first | refine aO_ (aa_ rfl) rfl (ar_ rfl (ae_ (b := b13) (off := 5) rfl ah_ Tryz.underlying3 rfl rfl)) rfl rfl rfl ?_ | refine aO_ (aa_ rfl) rfl (ar_ rfl (aj_ rfl ah_ Tryz.underlying114 rfl cs_ rfl rfl)) rfl rfl rfl ?_ | refine aO_ (aa_ rfl) rfl (ar_ rfl (ae_ rfl ah_ Tryz.underlying189 rfl rfl)) rfl rfl rfl ?_) | ((with_reducible refine bD_ ?_); refine aH_ (aa_ rfl) rfl rfl (ar_ rfl (op_mulE rfl rfl e5 (by omega))) rfl rfl rfl ?_) | ((with_reducible refine bN_ ?_); refine wx_ee0 (aa_ rfl) rfl rfl (bA_ (b := b12) (o := 5) (cs := [.int .i64 a0, .int .i64 a1, .int .i64 a2, .int .i64 a3, .int .i64 a4, .int .i64 a5, .int .i64 L, .int .i64 0]) rfl rfl ah_ rfl zs3 (Nat.le_of_ble_eq_true rfl) rfl rfl) rfl ?_) | ((with_reducible refine aC_ ?_); first | refine aH_ (aa_ rfl) rfl rfl (ar_ rfl (ab_ (o := 2) rfl Tryz.underlying191 rfl zs189 rfl)) rfl rfl rfl ?_ | refine aH_ (aa_ rfl) rfl rfl (ar_ rfl (ab_ (o := 0) rfl Tryz.underlying29 rfl zs22 rfl)) rfl rfl rfl ?_) | ((with_reducible refine aV_ ?_); (refine aM_ (aa_ rfl) rfl rfl rfl rfl (qr5 _ aA_) rfl rfl ?_; rintro _ _ ⟨rfl, hq⟩; all_goals (try (have hqn := hq.nx); try simp only [aU_] at hqn))) | with_reducible refine bj_ ?_ ?_)) | with_reducible exact aP_ | with_reducible refine aJ_ ?_ ?_ | ((with_reducible refine bi_ ?_); first | exact aS_ | refine aQ_ rfl ?_ | refine am_ rfl rfl (ar_ rfl (ae_ (b := b13) (off := 5) rfl ah_ Tryz.underlying3 rfl (by rfl))) ?_ | refine am_ rfl rfl (ar_ rfl (aj_ rfl ah_ Tryz.underlying114 rfl cs_ (by rfl) rfl)) ?_ | refine am_ rfl rfl (ar_ rfl (ae_ rfl ah_ Tryz.underlying189 rfl (by rfl))) ?_) | refine ap_ ?_ | refine aF_ (id := 14) 12 [0, 0, 2, 6, 0, 16, 0, 112, 254, 0, 1023, 2047] [0, 1, 2, 3, 4, 5, 6, 7, 8, 9, 10, 11] (by kernel_rfl) (by kernel_rfl) rfl rfl ?_)
       exact aI_ (5 + 1) (by omega) (af_ ⟨rfl, rfl, rfl, rfl, rfl, rfl, trivial⟩) ⟨⟨aA_, au_⟩, by omega, ⟨ah_, ah_⟩, (show At _ b12 (.cells [.int .i64 a0, .int .i64 a1, .int .i64 a2, .int .i64 a3, .int .i64 a4, .int .i64 a5, .int .i64 L, .int .i64 0] 29 8 false) from ah_), ah_⟩
   · have e : k = 6 := by omega
     subst e
     repeat' (first | with_reducible refine ad_ ?_ | ((with_reducible refine ac_ ?_); ((with_reducible refine bG_ ?_); refine aq_ (cI_ rfl rfl) ?_)) | refine ap_ ?_)
     exact ⟨rfl, (), af_ ⟨rfl, rfl, trivial⟩, ⟨w1, g1⟩, aI, a12⟩
 clear w1 g1 aC aI a12 a13 l13 q109 qr0 qr1 qr2 qr3 qr4 qr5
 rintro _ h8 ⟨⟨w1, g1⟩, aI, a12⟩
 have n8 := g1.nx
 have lI := aI.lt
 have l12 := a12.lt
 repeat' (first | with_reducible refine ad_ ?_ | ((with_reducible refine ac_ ?_); first | ((with_reducible refine al_ ?_); refine aq_ (aj_ (b := b12) (off := 0) rfl ah_ Tryz.underlying29 rfl zs29 rfl rfl) ?_) | ((with_reducible refine ay_ ?_); refine bQ_ (aB_ rfl rfl ah_ zs29 rfl rfl rfl rfl) ?_) | ((with_reducible refine at_ ?_); (refine as_ rfl rfl rfl rfl (q122 _ aA_) rfl rfl ?_; rintro _ _ ⟨rfl, hq⟩; all_goals (try (have hqn := hq.nx); try simp only [aU_] at hqn))) | refine ao_ ?_) | refine ap_ ?_)
 exact rqc2 rfl (ldAgg ah_ Tryz.underlying29 rfl zs29 rfl rfl) rfl ⟨rfl, au_⟩
/- Survey: invoices by the reference. -/
set_option maxHeartbeats 4000000 in
theorem c59 {c0 c1 c2 c3 c4 c5 c6 c7 c8 : Int} {va ra : Option Addr} {n vc m rc : Nat} {l : List En} {rs : List Rs} (s : Sl G h 3 (.slice va n vc) n (l.flatMap En.cells)) (hl : l.length = n) (hn : n < 1000000) (sr : Sl G h 3 (.slice ra m rc) m (rs.flatMap Rs.cells)) (hrl : rs.length = m) (hm : m < 1000000) (hw : Wf h) (hsz : ∀ r ∈ rs, r.nm.size ≤ 1000000) : Cf (mz G) (.func (.func 59) #[] #[]) [.agg ⟨[.int .i64 c0, .int .i64 c1, .int .i64 c2, .int .i64 c3, .int .i64 c4, .int .i64 c5, .int .i64 c6, .int .i64 c7, .int .i64 c8]⟩, .slice va n vc, .slice ra m rc] h fun r h' => r = .int .i64 (bilE c0 c1 c2 c3 c4 c5 c6 c7 c8 l rs) ∧ Grow h h' := by
 have q63 := fun (h' : H) (w' : Wf h') => c63 (G := G) (h := h') (c0 := c0) (c1 := c1) (c2 := c2) (c3 := c3) (c4 := c4) (c5 := c5) (c6 := c6) (c7 := c7) (c8 := c8) w'
 have q43 := fun (h' : H) (g : Grow h h') (w' : Wf h') => c43 (s.grow g) hl hn w'
 have q58 := fun (h' : H) (g : Grow h h') (w' : Wf h') => c58 (sr.grow g) hrl hm hsz w'
 have qf := fun (h' : H) (v : Value) (s : Sl G h' 1 v 3 ([ctE c0 c1 c2 c3 c4 c5 c6 c7 c8, ensE l, rssE rs].map (.int .i64))) => c91 s (by omega)
 rw [show firstNZ [ctE c0 c1 c2 c3 c4 c5 c6 c7 c8, ensE l, rssE rs] = bilE c0 c1 c2 c3 c4 c5 c6 c7 c8 l rs from by unfold bilE; rfl] at qf
 generalize bilE c0 c1 c2 c3 c4 c5 c6 c7 c8 l rs = Y at qf ⊢
 generalize ctE c0 c1 c2 c3 c4 c5 c6 c7 c8 = A at q63 qf
 generalize ensE l = B at q43 qf
 generalize rssE rs = C at q58 qf
 refine ak_ 15 [.tmp 6] Tryz.func59 rfl rfl rfl rfl ?_
 repeat' (first | with_reducible refine ad_ ?_ | ((with_reducible refine ac_ ?_); first | ((with_reducible refine al_ ?_); refine aq_ (aj_ rfl ah_ Tryz.underlying105 rfl zs105 rfl rfl) ?_) | ((with_reducible refine aE_ ?_); refine aq_ (aR_ rfl Tryz.underlying49 zs3 zz3 rfl rfl) ?_) | ((with_reducible refine at_ ?_); first | refine aq_ (aK_ rfl rfl (qf _ _ (Sl.ofAt (show At _ _ (.cells [.int .i64 A, .int .i64 B, .int .i64 C] 3 1 false) from ah_) rfl (Nat.le_refl _)))) ?_ | (refine as_ rfl rfl rfl rfl (q63 _ aA_) rfl rfl ?_; rintro _ _ ⟨rfl, hq⟩; all_goals (try (have hqn := hq.nx); try simp only [aU_] at hqn)) | (refine as_ rfl rfl rfl rfl (q43 _ au_ aA_) rfl rfl ?_; rintro _ _ ⟨rfl, hq⟩; all_goals (try (have hqn := hq.nx); try simp only [aU_] at hqn)) | (refine as_ rfl rfl rfl rfl (q58 _ au_ aA_) rfl rfl ?_; rintro _ _ ⟨rfl, hq⟩; all_goals (try (have hqn := hq.nx); try simp only [aU_] at hqn))) | refine ao_ ?_) | refine ap_ ?_)
 exact rq1 rfl ⟨rfl, au_⟩
theorem sp_bd {f t : Int} (hh : spE ⟨f, t⟩ = 0) : 0 ≤ f ∧ f < t ∧ t ≤ 100000 := by
 unfold spE at hh
 split at hh
 · assumption
 · cases hh
set_option maxHeartbeats 8000000 in
theorem c52 {v : Value} {n : Nat} {l : List En} (s : Sl G h 3 v n (l.flatMap En.cells)) (hl : l.length = n) (hn : n < 1000000) (hw : Wf h) : Cf (mz G) (.func (.func 52) #[] #[]) [v] h fun r h' => (∃ b : Bool, r = .bool b) ∧ Grow h h' := by
 obtain ⟨a, c, rfl⟩ := s.form
 refine ak_ 34 [.tmp 2] Tryz.func52 rfl rfl rfl rfl ?_
 repeat' (first | with_reducible refine ad_ ?_ | ((with_reducible refine ac_ ?_); ((with_reducible refine cx_ ?_); refine aq_ (aW_ rfl) ?_)) | refine ap_ ?_)
 refine bo_ (fun p : Nat × Int => n - p.1) (fun p => [(0, .slice a n c), (3, .int .i64 p.2), (4, .int .i64 (p.1 : Nat))]) (fun p h' => (Wf h' ∧ Grow h h') ∧ p.1 ≤ n ∧ 0 ≤ p.2 ∧ p.2 ≤ (p.1 : Int) * 100000) (0, 0) (af_ ⟨rfl, rfl, rfl, trivial⟩) ⟨⟨aA_, au_⟩, Nat.zero_le _, by simp, by simp⟩ ?_
 rintro ⟨k, T⟩ h1 ⟨⟨w1, g1⟩, hk, hT0, hT⟩
 simp only at hk hT0 hT ⊢
 have n1 := g1.nx
 by_cases hlt : k < n
 · obtain ⟨id, i1, i3⟩ := cw_ En.len ⟨0, 0, .empty⟩ (s.grow g1) hl Tryz.underlying83 zs184 (i := (k : Int)) hlt rfl
   obtain ⟨x0, hx⟩ : ∃ x, l.getD k ⟨0, 0, .empty⟩ = x := ⟨_, rfl⟩
   rw [hx] at i3
   clear hx
   obtain ⟨f, t, cz⟩ := x0
   have qf := fun (h' : H) (w' : Wf h') => c111 (G := G) (h := h') (s := ⟨f, t⟩) w'
   have if_ := fun (h' : H) (g' : Grow h1 h') => (show acell G h' (aadd (aadd id 0) 0) = some (.int .i64 f) from (i3 h' g').get 0 _ rfl)
   have it := fun (h' : H) (g' : Grow h1 h') => (show acell G h' (aadd (aadd id 0) 1) = some (.int .i64 t) from (i3 h' g').get 1 _ rfl)
   have isp := fun (h' : H) (g' : Grow h1 h') => (show Cells G h' (aadd id 0) [.int .i64 f, .int .i64 t] from ((i3 h' g').drop 0).take 2)
   by_cases hp : spE ⟨f, t⟩ = 0
   · rw [decide_eq_false (by simpa using hp)] at qf
     have b := sp_bd hp
     dsimp only [Spn.cells] at qf
     clear hp i3
     repeat' (first | with_reducible refine ad_ ?_ | ((with_reducible refine ac_ ?_); first | ((with_reducible refine an_ ?_); refine aq_ (ag_ rfl rfl i1) ?_) | ((with_reducible refine al_ ?_); refine aq_ (aN_ rfl Tryz.underlying79 rfl zs79 (isp _ au_).all) ?_) | ((with_reducible refine av_ ?_); refine aq_ (ax_ rfl Tryz.underlying83) ?_) | ((with_reducible refine at_ ?_); (refine as_ rfl rfl rfl rfl (qf _ aA_) rfl rfl ?_; rintro _ _ ⟨rfl, hq⟩; all_goals (try (have hqn := hq.nx); try simp only [aU_] at hqn))) | refine ao_ ?_) | ((with_reducible refine bb_ ?_); ((with_reducible refine bd_ ?_); first | ((with_reducible refine ba_ ?_); refine aH_ (aa_ rfl) rfl rfl (ar_ rfl (aD_ rfl)) rfl rfl rfl ?_) | ((with_reducible refine bm_ ?_); refine aH_ (aa_ rfl) rfl rfl (ar_ rfl (aW_ rfl)) rfl rfl rfl ?_) | ((with_reducible refine aT_ ?_); refine aH_ (aa_ rfl) rfl rfl (ar_ rfl (ag_ rfl rfl i1)) rfl rfl rfl ?_) | ((with_reducible refine aZ_ ?_); first | refine aO_ (aa_ rfl) rfl (ar_ rfl (az_ rfl Tryz.underlying3 rfl (it _ au_))) rfl rfl rfl ?_ | refine aO_ (aa_ rfl) rfl (ar_ rfl (az_ rfl Tryz.underlying3 rfl (if_ _ au_))) rfl rfl rfl ?_) | ((with_reducible refine bD_ ?_); first | refine aH_ (aa_ rfl) rfl rfl (ar_ rfl (op_add' rfl rfl (w64 (by omega) (by omega)))) rfl rfl rfl ?_ | refine aH_ (aa_ rfl) rfl rfl (ar_ rfl (bY_ rfl rfl (w64 (by omega) (by omega)))) rfl rfl rfl ?_) | ((with_reducible refine aC_ ?_); first | refine aH_ (aa_ rfl) rfl rfl (ar_ rfl (ab_ (o := 0) rfl Tryz.underlying184 rfl zs79 rfl)) rfl rfl rfl ?_ | refine aH_ (aa_ rfl) rfl rfl (ar_ rfl (ab_ (o := 1) rfl Tryz.underlying79 rfl zs3 rfl)) rfl rfl rfl ?_ | refine aH_ (aa_ rfl) rfl rfl (ar_ rfl (ab_ (o := 0) rfl Tryz.underlying79 rfl zs3 rfl)) rfl rfl rfl ?_) | with_reducible refine bj_ ?_ ?_)) | with_reducible exact aP_ | with_reducible refine aJ_ ?_ ?_ | ((with_reducible refine bi_ ?_); first | exact aS_ | refine am_ rfl rfl (ar_ rfl (az_ rfl Tryz.underlying3 rfl (it _ au_))) ?_ | refine am_ rfl rfl (ar_ rfl (az_ rfl Tryz.underlying3 rfl (if_ _ au_))) ?_) | refine ap_ ?_ | (refine aG_ rfl (fun hb => ?_) (fun hb => aw_ hb); (try simp only [aX_, reduceCtorEq] at hb)) | refine aF_ (id := 7) 16 [0, 0, 0, 6, 14, 30, 62, 127, 0, 0, 768, 1792, 3840, 7936, 16383, 32767] [0, 1, 2, 3, 4, 5, 6, 7, 8, 9, 10, 11, 12, 13, 14, 15] (by kernel_rfl) (by kernel_rfl) rfl rfl ?_)
     exact aI_ (k + 1, T + t - f) (by simp only; omega) (af_ ⟨rfl, rfl, rfl, trivial⟩) ⟨⟨aA_, au_⟩, by simp only; omega, by simp only; omega, by simp only; omega⟩
   · rw [decide_eq_true hp] at qf
     dsimp only [Spn.cells] at qf
     clear hp i3
     repeat' (first | with_reducible refine ad_ ?_ | ((with_reducible refine ac_ ?_); first | ((with_reducible refine an_ ?_); refine aq_ (ag_ rfl rfl i1) ?_) | ((with_reducible refine al_ ?_); refine aq_ (aN_ rfl Tryz.underlying79 rfl zs79 (isp _ au_).all) ?_) | ((with_reducible refine av_ ?_); refine aq_ (ax_ rfl Tryz.underlying83) ?_) | ((with_reducible refine at_ ?_); (refine as_ rfl rfl rfl rfl (qf _ aA_) rfl rfl ?_; rintro _ _ ⟨rfl, hq⟩; all_goals (try (have hqn := hq.nx); try simp only [aU_] at hqn))) | refine ao_ ?_) | refine ap_ ?_ | (refine aG_ rfl (fun hb => ?_) (fun hb => aw_ hb); (try simp only [aX_, reduceCtorEq] at hb)))
     exact rq1 rfl ⟨⟨_, rfl⟩, au_⟩
 · have hkn : k = n := by omega
   subst hkn
   repeat' (first | with_reducible refine ad_ ?_ | ((with_reducible refine ac_ ?_); first | ((with_reducible refine av_ ?_); refine aq_ (ax_ rfl Tryz.underlying83) ?_) | refine ao_ ?_) | refine ap_ ?_ | (refine aG_ rfl (fun hb => aw_ hb) (fun hb => ?_); (try simp only [aX_, reduceCtorEq] at hb)))
   exact rq1 rfl ⟨⟨_, rfl⟩, au_⟩
end Go.Proofs.YtlioomhcdlicmaaGreatDoor
