/- Contracts of the small functions of the package trace and of its reference. -/
import Derived.Test.YthnnndkfpamacaaGreatDoorC0
import Derived.Test.YthnnndkfpamacaaGreatDoorK2
set_option linter.all false
/- Ratios. -/
namespace Go.Proofs.YthnnndkfpamacaaGreatDoor
open Go Go.Ab Go.Fl
attribute [local irreducible] SeqQ BlkQ LpQ RetQ Wc Wo WD WX Op1 Op1q Op1a Cf Cl From
attribute [local irreducible] Ieee.Format.order Ieee.Format.read Ieee.Format.nearest Ieee.Format.write Ieee.Format.mul Ieee.Format.div Ieee.Datum.order Ieee.Datum.integral smpE smp K J U
set_option maxRecDepth 10000
variable {G : Base} {h : H}
theorem c98 (a b : Int) (ha : -999999999 ≤ a) (ha' : a ≤ 999999999) (hb0 : 1 ≤ b) (hb' : b ≤ 999999999) : Cf (mz G) (.func (.func 98) #[] #[]) [.agg #[.int .i64 a, .int .i64 b]] h fun v h' => v = .agg #[.int .i64 (a.tdiv (Int.gcd a b)), .int .i64 (b.tdiv (Int.gcd a b))] ∧ Grow h h' := by
 refine ar_ 28 [.cell 2 33] Tryz.func98 rfl rfl rfl rfl ?_
 repeat' (first | with_reducible refine am_ ?_ | ((with_reducible refine al_ ?_); first | ((with_reducible refine bw_ ?_); refine ac_ (aL_ rfl zs33 rfl) ?_) | ((with_reducible refine aU_ ?_); refine ac_ (aQ_ zz33 zs33 rfl rfl rfl) ?_)) | ((with_reducible refine bL_ ?_); ((with_reducible refine bK_ ?_); first | ((with_reducible refine ck_ ?_); refine bn_ (af_ rfl) rfl rfl (aE_ rfl (ad_ rfl)) rfl rfl rfl ?_) | ((with_reducible refine bh_ ?_); first | refine bn_ (af_ rfl) rfl rfl (aE_ rfl (aa_ (o := 0) rfl Tryz.underlying33 rfl zs3 rfl)) rfl rfl rfl ?_ | refine bn_ (af_ rfl) rfl rfl (aE_ rfl (aa_ (o := 1) rfl Tryz.underlying33 rfl zs3 rfl)) rfl rfl rfl ?_) | ((with_reducible refine by_ ?_); refine bp_ (af_ rfl) rfl (aE_ rfl (aq_ rfl z2_A Tryz.underlying3 rfl rfl)) rfl rfl rfl ?_) | ((with_reducible refine xk_un ?_); refine bn_ (af_ rfl) rfl rfl (aE_ rfl (op_neg' rfl (w64 (by omega) (by omega)))) rfl rfl rfl ?_) | ((with_reducible refine xk_callb ?_); refine bn_ (af_ rfl) rfl rfl (aE_ rfl (op_max rfl rfl)) rfl rfl rfl ?_) | with_reducible refine bN_ ?_ ?_)) | with_reducible exact bA_ | with_reducible refine bk_ ?_ ?_ | ((with_reducible refine bM_ ?_); first | exact bz_ | refine aB_ rfl rfl (aE_ rfl (aq_ rfl z2_A Tryz.underlying3 rfl (by rfl))) ?_) | (with_reducible first | refine ah_ ?_ | refine ao_ ?_ | refine ab_ ?_ | refine at_ ?_) | refine wc_draw (id := 1) 10 [0, 1, 0, 4, 12, 31, 0, 64, 63, 511] [0, 1, 2, 3, 4, 5, 6, 7, 8, 9] (by kernel_rfl) (by kernel_rfl) rfl rfl rfl ?_)
 refine bq_ (fun p : Int × Int => p.1.natAbs) (fun p => [(1, .pointer (some ⟨h.nx, 0, some 0⟩)), (2, .pointer (some ⟨h.nx + 1, 0, some 0⟩)), (3, .int .i64 p.1), (4, .int .i64 p.2)]) (fun p h' => Grow h h' ∧ At h' h.nx (.cells [.int .i64 a, .int .i64 b] 33 2 false) ∧ At h' (h.nx + 1) (.cells [.int .i64 0, .int .i64 0] 33 2 false) ∧ Int.gcd p.1 p.2 = Int.gcd a b ∧ 0 ≤ p.1 ∧ p.1 ≤ 999999999 ∧ 1 ≤ p.2 ∧ p.2 ≤ 999999999) (max a (0 - a), b) (ai_ ⟨rfl, rfl, rfl, rfl, trivial⟩) ⟨z3_A, z2_A, z2_A, ?_, ?_, ?_, hb0, hb'⟩ ?_
 · simp only [Int.gcd]; congr 1; omega
 · simp only; omega
 · simp only; omega
 rintro ⟨x, y⟩ h' ⟨hgr, hA1, hA2, hg, q1, q2, q3, q4⟩
 simp only at hg q1 q2 q3 q4 ⊢
 by_cases hx : x = 0
 · subst hx
   rw [Int.gcd_zero_left] at hg
   repeat' (first | with_reducible refine am_ ?_ | ((with_reducible refine al_ ?_); first | ((with_reducible refine ak_ ?_); refine ac_ (ag_ rfl) ?_) | ((with_reducible refine av_ ?_); refine ac_ (bm_ rfl rfl) ?_)) | ((with_reducible refine bL_ ?_); ((with_reducible refine bK_ ?_); first | ((with_reducible refine bI_ ?_); refine bn_ (af_ rfl) rfl rfl (aE_ rfl (ag_ rfl)) rfl rfl rfl ?_) | ((with_reducible refine bh_ ?_); first | refine bn_ (af_ rfl) rfl rfl (aE_ rfl (aa_ (o := 0) rfl Tryz.underlying33 rfl zs3 rfl)) rfl rfl rfl ?_ | refine bn_ (af_ rfl) rfl rfl (aE_ rfl (aa_ (o := 1) rfl Tryz.underlying33 rfl zs3 rfl)) rfl rfl rfl ?_) | ((with_reducible refine by_ ?_); refine bp_ (af_ rfl) rfl (aE_ rfl (aq_ rfl z2_A Tryz.underlying3 rfl rfl)) rfl rfl rfl ?_) | ((with_reducible refine xk_bin ?_); refine bn_ (af_ rfl) rfl rfl (aE_ rfl (op_quo rfl rfl (by omega))) rfl rfl rfl ?_) | ((with_reducible refine xk_build ?_); refine bn_ (af_ rfl) rfl rfl (aE_ rfl (cz_ rfl zz33 zp33 rfl rfl)) rfl rfl rfl ?_) | ((with_reducible refine cf_ ?_); refine wx_ee0 (af_ rfl) rfl rfl (aM_ rfl rfl z2_A zs33 rfl rfl rfl rfl) rfl ?_) | with_reducible refine bN_ ?_ ?_)) | with_reducible exact bA_ | with_reducible refine bk_ ?_ ?_ | ((with_reducible refine bM_ ?_); first | exact bz_ | refine bx_ rfl ?_ | refine aB_ rfl rfl (aE_ rfl (aq_ rfl z2_A Tryz.underlying3 rfl (by rfl))) ?_) | (with_reducible first | refine ah_ ?_ | refine ao_ ?_ | refine ab_ ?_ | refine aA_ ?_ | refine be_ ?_ | refine bf_ ?_ | refine bi_ ?_) | refine bS_ rfl ?_ | refine bs_ rfl ?_ | refine wc_draw (id := 4) 10 [0, 1, 0, 7, 0, 16, 0, 112, 255, 511] [0, 1, 2, 3, 4, 5, 6, 7, 8, 9] (by kernel_rfl) (by kernel_rfl) rfl rfl rfl ?_)
   have hyg : (y : Int) = (Int.gcd a b : Int) := by omega
   have t1 := Int.natAbs_tdiv_le_natAbs a y
   have t2 := Int.natAbs_tdiv_le_natAbs b y
   refine rqc1 rfl (ldAgg z2_A Tryz.underlying33 rfl zs33 rfl rfl) ⟨?_, z3_A⟩
   rw [w64 (by omega) (by omega), w64 (by omega) (by omega), hyg]
 · repeat' (first | with_reducible refine am_ ?_ | ((with_reducible refine al_ ?_); first | ((with_reducible refine ak_ ?_); refine ac_ (ag_ rfl) ?_) | ((with_reducible refine ae_ ?_); refine ac_ (ad_ rfl) ?_) | ((with_reducible refine av_ ?_); first | refine ac_ (bm_ rfl rfl) ?_ | refine ac_ (op_rem rfl rfl (by omega)) ?_)) | (with_reducible first | refine ah_ ?_ | refine ao_ ?_ | refine ab_ ?_ | refine az_ ?_ | refine at_ ?_ | refine aP_ ?_) | (refine aK_ rfl (fun hb => ?_) (fun hb => ?_) <;> (try simp only [bj_, reduceCtorEq] at hb) <;> (try (exfalso; omega))))
   have hlt := natAbs_tmod_lt y hx
   refine aX_ (y.tmod x, x) hlt (ai_ ⟨rfl, rfl, rfl, rfl, trivial⟩) ⟨z3_A, z2_A, z2_A, ?_, ?_, ?_, ?_, ?_⟩
   · rw [← hg]; simp only [Int.gcd, Int.natAbs_tmod]; exact (Nat.gcd_rec _ _).symm
   · simp only; exact Int.tmod_nonneg _ (by omega)
   · simp only; omega
   · simp only; omega
   · simp only; omega
def ratE (a b : Int) : Int := if rngE a (-999999999) 999999999 ≠ 0 then 3 else if rngE b 1 999999999 ≠ 0 then 3 else if Int.gcd a b = 1 then 0 else 1
theorem rng_cases (x lo hi : Int) : (rngE x lo hi = 0 ∧ lo ≤ x ∧ x ≤ hi) ∨ (rngE x lo hi = 3 ∧ (x < lo ∨ hi < x)) := by
 unfold rngE
 by_cases h : x < lo ∨ hi < x
 · rw [if_pos h]; exact .inr ⟨rfl, h⟩
 · rw [if_neg h]; exact .inl ⟨rfl, by omega, by omega⟩
theorem lowest_same (a b : Int) (hb : 1 ≤ b) : (a.tdiv (Int.gcd a b) = a ∧ b.tdiv (Int.gcd a b) = b) ↔ Int.gcd a b = 1 := by
 constructor
 · intro ⟨_, h⟩
   have hg : 0 < Int.gcd a b := Int.gcd_pos_of_ne_zero_right a (by omega)
   have hd := Int.gcd_dvd_right a b
   obtain ⟨c, hc⟩ := hd
   generalize (Int.gcd a b) = g at *
   have h2 : b.tdiv g = c := by rw [hc]; exact Int.mul_tdiv_cancel_left _ (by omega)
   rw [h2] at h
   subst h
   have : (g : Int) * c = 1 * c := by rw [← hc, Int.one_mul]
   have := Int.eq_of_mul_eq_mul_right (by omega) this
   omega
 · intro h; rw [h]; exact ⟨Int.tdiv_one _, Int.tdiv_one _⟩
theorem ratE_ok {a b : Int} (r1 : -999999999 ≤ a) (r2 : a ≤ 999999999) (r3 : 1 ≤ b) (r4 : b ≤ 999999999) : ratE a b = if Int.gcd a b = 1 then 0 else 1 := by
 unfold ratE rngE
 rw [if_neg (by simp; omega), if_neg (by simp; omega)]
theorem ratE_bad {a b : Int} (h : firstNZ [rngE a (-999999999) 999999999, rngE b 1 999999999] ≠ 0) : firstNZ [rngE a (-999999999) 999999999, rngE b 1 999999999] = ratE a b := by
 unfold ratE
 rcases rng_cases a (-999999999) 999999999 with ⟨e1, r1, r2⟩ | ⟨e1, r1⟩ <;> rcases rng_cases b 1 999999999 with ⟨e2, r3, r4⟩ | ⟨e2, r3⟩ <;> simp [firstNZ, e1, e2] at h ⊢
theorem ratE_in {a b : Int} (h : firstNZ [rngE a (-999999999) 999999999, rngE b 1 999999999] = 0) : (-999999999 ≤ a ∧ a ≤ 999999999) ∧ 1 ≤ b ∧ b ≤ 999999999 := by
 rcases rng_cases a (-999999999) 999999999 with ⟨e1, r1, r2⟩ | ⟨e1, r1⟩ <;> rcases rng_cases b 1 999999999 with ⟨e2, r3, r4⟩ | ⟨e2, r3⟩ <;> simp [firstNZ, e1, e2] at h ⊢
 omega
theorem c24 (a b : Int) (hw : Wf h) : Cf (mz G) (.func (.func 24) #[] #[]) [.agg #[.int .i64 a, .int .i64 b]] h fun v h' => v = .int .i64 (ratE a b) ∧ Grow h h' := by
 by_cases hz : firstNZ [rngE a (-999999999) 999999999, rngE b 1 999999999] = 0
 · obtain ⟨⟨r1, r2⟩, r3, r4⟩ := ratE_in hz
   refine ar_ 19 [.tmp 2] Tryz.func24 rfl rfl rfl rfl ?_
   repeat' (first | with_reducible refine am_ ?_ | ((with_reducible refine al_ ?_); first | ((with_reducible refine ak_ ?_); refine ac_ (ag_ rfl) ?_) | ((with_reducible refine ae_ ?_); refine ac_ (ad_ rfl) ?_) | ((with_reducible refine bw_ ?_); refine ac_ (aL_ rfl zs33 rfl) ?_) | ((with_reducible refine av_ ?_); refine ac_ (bm_ rfl rfl) ?_)) | ((with_reducible refine bL_ ?_); first | ((with_reducible refine bK_ ?_); first | ((with_reducible refine bh_ ?_); first | refine bn_ (af_ rfl) rfl rfl (aE_ rfl (aa_ (o := 0) rfl Tryz.underlying33 rfl zs3 rfl)) rfl rfl rfl ?_ | refine bn_ (af_ rfl) rfl rfl (aE_ rfl (aa_ (o := 1) rfl Tryz.underlying33 rfl zs3 rfl)) rfl rfl rfl ?_) | ((with_reducible refine by_ ?_); first | refine bp_ (af_ rfl) rfl (aE_ rfl (aq_ rfl z2_A Tryz.underlying3 rfl rfl)) rfl rfl rfl ?_ | refine bp_ (af_ rfl) rfl (aE_ rfl (ay_ rfl z2_A Tryz.underlying33 rfl zs33 rfl rfl)) rfl rfl rfl ?_) | ((with_reducible refine ct_ ?_); refine wx_a0 (af_ rfl) rfl (cv_ rfl Tryz.underlying219 zs26 zz26 rfl rfl) rfl rfl ?_) | ((with_reducible refine xk_bin ?_); refine bn_ (af_ rfl) rfl rfl (aE_ rfl (op_neT 3 rfl rfl rfl Tryz.underlying33 rfl eg33 (eqv33 _ _ _ _))) rfl rfl rfl ?_) | ((with_reducible refine xk_callF (f := 91) ?_); refine wx_ee (af_ rfl) rfl rfl (aJ_ rfl rfl (c91 _ _ _)) rfl rfl ?_) | ((with_reducible refine xk_callF (f := 98) ?_); (refine aV_ (af_ rfl) rfl rfl rfl rfl (c98 a b r1 r2 r3 r4) rfl rfl ?_; rintro _ _ ⟨rfl, hq⟩; have hqn := hq.nx; (try simp only [H.nx_push, H.nx_set] at hqn))) | with_reducible refine bN_ ?_ ?_) | ((with_reducible refine ck_ ?_); refine bn_ (af_ rfl) rfl rfl (aE_ rfl (ad_ rfl)) rfl rfl rfl ?_) | ((with_reducible refine xk_callF (f := 90) ?_); ((with_reducible refine xk_as1 ?_); refine wx_e1 (af_ rfl) rfl rfl rfl (aJ_ rfl rfl (c90 (es := [_, _]) (n := 2) (Sl.ofAt (At.lay (by simp only [H.nx_push]; omega)) rfl (Nat.le_refl _)) (by omega))) rfl rfl ?_)) | refine wx_niln ?_ ?_ rfl rfl ?_) | with_reducible exact bA_ | with_reducible refine bk_ ?_ ?_ | ((with_reducible refine bM_ ?_); first | exact bz_ | refine bx_ rfl ?_ | refine aB_ rfl rfl (aE_ rfl (aq_ rfl z2_A Tryz.underlying3 rfl (by rfl))) ?_ | refine aB_ rfl rfl (aE_ rfl (ay_ rfl z2_A Tryz.underlying33 rfl zs33 (by rfl) rfl)) ?_) | with_reducible exact stk_nil | with_reducible refine cK_ ?_ ?_ | ((with_reducible refine ik_stk ?_); first | exact stk_abs rfl rfl | exact stk_free rfl rfl (by repeat (first | with_reducible assumption | exact Wf.empty | with_reducible refine Wf.push ?_ _ | with_reducible refine Wf.bump ?_ _ | with_reducible refine Wf.set ?_ (by repeat (first | with_reducible assumption | omega | (simp only [H.nx_push, H.nx_set]; omega) | exact At.lt (by assumption) | with_reducible refine lt_bump ?_ | with_reducible refine lt_set ?_ | exact lt_new | with_reducible refine lt_push ?_ | refine lt_grow ?_ (by assumption))) _ | refine Grow.wf (by assumption) ?_)) (by repeat (first | with_reducible assumption | exact Grow.refl _ | refine Grow.trans ?_ (by assumption)))) | (with_reducible first | refine ah_ ?_ | refine ao_ ?_ | refine ab_ ?_ | refine az_ ?_ | refine aA_ ?_ | refine bd_ ?_) | (refine aK_ rfl (fun hb => ?_) (fun hb => ?_) <;> (try simp only [bj_, reduceCtorEq] at hb) <;> (try (exfalso; omega))) | refine wc_draw (id := 1) 9 [0, 1, 3, 0, 8, 31, 63, 127, 255] [0, 1, 2, 3, 4, 5, 6, 7, 8] (by kernel_rfl) (by kernel_rfl) rfl rfl rfl ?_ | refine wc_draw (id := 4) 4 [0, 1, 0, 7] [0, 1, 2, 3] (by kernel_rfl) (by kernel_rfl) rfl rfl rfl ?_)
   all_goals refine rq1 rfl ⟨?_, z3_A⟩
   · have hg : ¬ Int.gcd a b = 1 := fun q => by
       have := (lowest_same a b r3).2 q
       simp [this] at hb
     rw [ratE_ok r1 r2 r3 r4, if_neg hg]
   · have hg : Int.gcd a b = 1 := by
       refine (lowest_same a b r3).1 ?_
       simpa using hb
     rw [ratE_ok r1 r2 r3 r4, if_pos hg]
 · refine ar_ 19 [.tmp 2] Tryz.func24 rfl rfl rfl rfl ?_
   repeat' (first | with_reducible refine am_ ?_ | ((with_reducible refine al_ ?_); first | ((with_reducible refine ak_ ?_); refine ac_ (ag_ rfl) ?_) | ((with_reducible refine ae_ ?_); refine ac_ (ad_ rfl) ?_) | ((with_reducible refine bw_ ?_); refine ac_ (aL_ rfl zs33 rfl) ?_) | ((with_reducible refine av_ ?_); refine ac_ (bm_ rfl rfl) ?_)) | ((with_reducible refine bL_ ?_); first | ((with_reducible refine bK_ ?_); first | ((with_reducible refine bh_ ?_); first | refine bn_ (af_ rfl) rfl rfl (aE_ rfl (aa_ (o := 0) rfl Tryz.underlying33 rfl zs3 rfl)) rfl rfl rfl ?_ | refine bn_ (af_ rfl) rfl rfl (aE_ rfl (aa_ (o := 1) rfl Tryz.underlying33 rfl zs3 rfl)) rfl rfl rfl ?_) | ((with_reducible refine by_ ?_); refine bp_ (af_ rfl) rfl (aE_ rfl (aq_ rfl z2_A Tryz.underlying3 rfl rfl)) rfl rfl rfl ?_) | ((with_reducible refine ct_ ?_); refine wx_a0 (af_ rfl) rfl (cv_ rfl Tryz.underlying219 zs26 zz26 rfl rfl) rfl rfl ?_) | ((with_reducible refine xk_callF (f := 91) ?_); refine wx_ee (af_ rfl) rfl rfl (aJ_ rfl rfl (c91 _ _ _)) rfl rfl ?_)) | ((with_reducible refine ck_ ?_); refine bn_ (af_ rfl) rfl rfl (aE_ rfl (ad_ rfl)) rfl rfl rfl ?_) | ((with_reducible refine xk_callF (f := 90) ?_); ((with_reducible refine xk_as1 ?_); refine wx_e1 (af_ rfl) rfl rfl rfl (aJ_ rfl rfl (c90 (es := [_, _]) (n := 2) (Sl.ofAt (At.lay (by simp only [H.nx_push]; omega)) rfl (Nat.le_refl _)) (by omega))) rfl rfl ?_)) | refine wx_niln ?_ ?_ rfl rfl ?_) | with_reducible exact bA_ | with_reducible refine bk_ ?_ ?_ | ((with_reducible refine bM_ ?_); first | exact bz_ | refine bx_ rfl ?_ | refine aB_ rfl rfl (aE_ rfl (aq_ rfl z2_A Tryz.underlying3 rfl (by rfl))) ?_) | with_reducible exact stk_nil | with_reducible refine cK_ ?_ ?_ | ((with_reducible refine ik_stk ?_); first | exact stk_abs rfl rfl | exact stk_free rfl rfl (by repeat (first | with_reducible assumption | exact Wf.empty | with_reducible refine Wf.push ?_ _ | with_reducible refine Wf.bump ?_ _ | with_reducible refine Wf.set ?_ (by repeat (first | with_reducible assumption | omega | (simp only [H.nx_push, H.nx_set]; omega) | exact At.lt (by assumption) | with_reducible refine lt_bump ?_ | with_reducible refine lt_set ?_ | exact lt_new | with_reducible refine lt_push ?_ | refine lt_grow ?_ (by assumption))) _ | refine Grow.wf (by assumption) ?_)) (by repeat (first | with_reducible assumption | exact Grow.refl _ | refine Grow.trans ?_ (by assumption)))) | (with_reducible first | refine ah_ ?_ | refine ao_ ?_ | refine ab_ ?_ | refine aA_ ?_ | refine bd_ ?_) | (refine aK_ rfl (fun hb => ?_) (fun hb => ?_) <;> (try simp only [bj_, reduceCtorEq] at hb) <;> (try (exfalso; omega))) | refine wc_draw (id := 1) 9 [0, 1, 3, 0, 8, 31, 63, 127, 255] [0, 1, 2, 3, 4, 5, 6, 7, 8] (by kernel_rfl) (by kernel_rfl) rfl rfl rfl ?_)
   · refine rq1 rfl ⟨?_, z3_A⟩
     rw [ratE_bad hz]
/- Names. -/
def letB (n : Int) : Bool := decide (65 ≤ n ∧ n ≤ 90) || decide (97 ≤ n ∧ n ≤ 122)
def digB (n : Int) : Bool := decide (48 ≤ n ∧ n ≤ 57)
theorem c94 (n : Int) : Cl (mz G) (.func (.func 94) #[] #[]) [.int .i32 n] h (.bool (letB n)) h := by
 refine bg_ (ar_ 17 [.tmp 2] Tryz.func94 rfl rfl rfl rfl ?_)
 repeat' (first | with_reducible refine am_ ?_ | ((with_reducible refine al_ ?_); first | ((with_reducible refine ak_ ?_); refine ac_ (ag_ rfl) ?_) | ((with_reducible refine ae_ ?_); refine ac_ (ad_ rfl) ?_) | ((with_reducible refine av_ ?_); refine ac_ (op_geq rfl rfl) ?_) | ((with_reducible refine aS_ ?_); first | refine ac_ (aT_ rfl rfl) ?_ | refine ac_ (aO_ rfl rfl) ?_) | ((with_reducible refine cG_ ?_); first | refine bC_ rfl rfl rfl rfl rfl rfl ?_ | refine wo_gskip' rfl rfl rfl rfl rfl ?_ | ((with_reducible refine bB_ ?_); refine aj_ rfl rfl rfl (ag_ rfl) rfl rfl ?_) | ((with_reducible refine bE_ ?_); first | refine aj_ rfl rfl rfl (op_geq rfl rfl) rfl rfl ?_ | refine aj_ rfl rfl rfl (op_leq rfl rfl) rfl rfl ?_) | ((with_reducible refine ig_pick ?_); first | refine aj_ rfl rfl rfl (aT_ rfl rfl) rfl rfl ?_ | refine aj_ rfl rfl rfl (aO_ rfl rfl) rfl rfl ?_) | (refine bb_ rfl rfl rfl (fun hb => ?_) (fun hb => ?_) <;> (try simp only [bj_, reduceCtorEq] at hb) <;> (try (exfalso; omega))))) | (with_reducible first | refine ah_ ?_ | refine ao_ ?_ | refine ab_ ?_ | refine aA_ ?_))
 all_goals refine rq1 rfl ⟨?_, rfl⟩
 all_goals (congr 1; unfold letB; rw [Bool.eq_iff_iff]; simp; omega)
theorem c96 (n : Int) : Cl (mz G) (.func (.func 96) #[] #[]) [.int .u8 n] h (.bool (letB n)) h := by
 refine bg_ (ar_ 17 [.tmp 2] Tryz.func96 rfl rfl rfl rfl ?_)
 repeat' (first | with_reducible refine am_ ?_ | ((with_reducible refine al_ ?_); first | ((with_reducible refine ak_ ?_); refine ac_ (ag_ rfl) ?_) | ((with_reducible refine ae_ ?_); refine ac_ (ad_ rfl) ?_) | ((with_reducible refine av_ ?_); refine ac_ (op_leq rfl rfl) ?_) | ((with_reducible refine aS_ ?_); first | refine ac_ (aT_ rfl rfl) ?_ | refine ac_ (aO_ rfl rfl) ?_) | ((with_reducible refine cG_ ?_); first | refine bC_ rfl rfl rfl rfl rfl rfl ?_ | refine wo_gskip' rfl rfl rfl rfl rfl ?_ | ((with_reducible refine bB_ ?_); refine aj_ rfl rfl rfl (ag_ rfl) rfl rfl ?_) | ((with_reducible refine bE_ ?_); refine aj_ rfl rfl rfl (op_leq rfl rfl) rfl rfl ?_) | ((with_reducible refine ig_pick ?_); first | refine aj_ rfl rfl rfl (aT_ rfl rfl) rfl rfl ?_ | refine aj_ rfl rfl rfl (aO_ rfl rfl) rfl rfl ?_) | (refine bb_ rfl rfl rfl (fun hb => ?_) (fun hb => ?_) <;> (try simp only [bj_, reduceCtorEq] at hb) <;> (try (exfalso; omega))))) | (with_reducible first | refine ah_ ?_ | refine ao_ ?_ | refine ab_ ?_ | refine aA_ ?_))
 all_goals refine rq1 rfl ⟨?_, rfl⟩
 all_goals (congr 1; unfold letB; rw [Bool.eq_iff_iff]; simp; omega)
theorem c95 (n : Int) : Cl (mz G) (.func (.func 95) #[] #[]) [.int .i32 n] h (.bool (digB n)) h := by
 refine bg_ (ar_ 9 [.tmp 2] Tryz.func95 rfl rfl rfl rfl ?_)
 repeat' (first | with_reducible refine am_ ?_ | ((with_reducible refine al_ ?_); first | ((with_reducible refine ak_ ?_); refine ac_ (ag_ rfl) ?_) | ((with_reducible refine ae_ ?_); refine ac_ (ad_ rfl) ?_) | ((with_reducible refine av_ ?_); refine ac_ (op_geq rfl rfl) ?_) | ((with_reducible refine aS_ ?_); first | refine ac_ (aT_ rfl rfl) ?_ | refine ac_ (aO_ rfl rfl) ?_) | ((with_reducible refine cG_ ?_); first | refine bC_ rfl rfl rfl rfl rfl rfl ?_ | ((with_reducible refine bB_ ?_); refine aj_ rfl rfl rfl (ag_ rfl) rfl rfl ?_) | ((with_reducible refine bE_ ?_); refine aj_ rfl rfl rfl (op_leq rfl rfl) rfl rfl ?_) | (refine bb_ rfl rfl rfl (fun hb => ?_) (fun hb => ?_) <;> (try simp only [bj_, reduceCtorEq] at hb) <;> (try (exfalso; omega))))) | (with_reducible first | refine ah_ ?_ | refine ao_ ?_ | refine ab_ ?_ | refine aA_ ?_))
 all_goals refine rq1 rfl ⟨?_, rfl⟩
 all_goals (congr 1; unfold digB; rw [Bool.eq_iff_iff]; simp; omega)
theorem c97 (n : Int) : Cl (mz G) (.func (.func 97) #[] #[]) [.int .u8 n] h (.bool (digB n)) h := by
 refine bg_ (ar_ 9 [.tmp 2] Tryz.func97 rfl rfl rfl rfl ?_)
 repeat' (first | with_reducible refine am_ ?_ | ((with_reducible refine al_ ?_); first | ((with_reducible refine ak_ ?_); refine ac_ (ag_ rfl) ?_) | ((with_reducible refine ae_ ?_); refine ac_ (ad_ rfl) ?_) | ((with_reducible refine av_ ?_); refine ac_ (op_leq rfl rfl) ?_) | ((with_reducible refine aS_ ?_); first | refine ac_ (aT_ rfl rfl) ?_ | refine ac_ (aO_ rfl rfl) ?_) | ((with_reducible refine cG_ ?_); first | refine bC_ rfl rfl rfl rfl rfl rfl ?_ | ((with_reducible refine bB_ ?_); refine aj_ rfl rfl rfl (ag_ rfl) rfl rfl ?_) | ((with_reducible refine bE_ ?_); refine aj_ rfl rfl rfl (op_leq rfl rfl) rfl rfl ?_) | (refine bb_ rfl rfl rfl (fun hb => ?_) (fun hb => ?_) <;> (try simp only [bj_, reduceCtorEq] at hb) <;> (try (exfalso; omega))))) | (with_reducible first | refine ah_ ?_ | refine ao_ ?_ | refine ab_ ?_ | refine aA_ ?_))
 all_goals refine rq1 rfl ⟨?_, rfl⟩
 all_goals (congr 1; unfold digB; rw [Bool.eq_iff_iff]; simp; omega)
def bv (s : ByteArray) (i : Nat) : Nat := (s.get! i).toNat
theorem bv_get {s : ByteArray} {i : Nat} (hi : i < s.size) : s[i]? = some (s.get! i) := by
 rw [getElem?_pos s i hi]
 congr 1
 show s.data[i] = s.data[i]!
 rw [getElem!_pos s.data i hi]
theorem dec_low {s : ByteArray} {i : Nat} (hb : bv s i < 128) : Utf8.decode s i = (bv s i, 1) := by
 unfold bv at *
 unfold Utf8.decode
 simp only [Nat.add_zero]
 rw [if_pos hb]
theorem dec_high {s : ByteArray} {i : Nat} (hb : 128 ≤ bv s i) : 128 ≤ (Utf8.decode s i).1 ∧ 1 ≤ (Utf8.decode s i).2 := by
 unfold bv at *
 unfold Utf8.decode Utf8.runeError
 simp only [Nat.add_zero]
 rw [if_neg (by omega)]
 repeat' split
 all_goals simp_all
 all_goals omega
def okAt (s : ByteArray) (i : Nat) : Bool := letB (bv s i) || (decide (i ≠ 0) && (digB (bv s i) || decide (bv s i = 95)))
def isNameB (s : ByteArray) : Bool := decide (1 ≤ s.size ∧ s.size ≤ 24) && (List.range s.size).all (okAt s)
theorem isNameB_bad {s : ByteArray} {i : Nat} (hi : i < s.size) (h : okAt s i = false) : isNameB s = false := by
 unfold isNameB
 have : (List.range s.size).all (okAt s) = false := by
   rw [List.all_eq_false]
   exact ⟨i, List.mem_range.2 hi, by simp [h]⟩
 rw [this, Bool.and_false]
theorem isNameB_good {s : ByteArray} (hl : 1 ≤ s.size ∧ s.size ≤ 24) (h : ∀ j, j < s.size → okAt s j = true) : isNameB s = true := by
 unfold isNameB
 rw [decide_eq_true hl, Bool.true_and, List.all_eq_true]
 exact fun j hj => h j (List.mem_range.1 hj)
theorem isNameB_len {s : ByteArray} (hl : ¬(1 ≤ s.size ∧ s.size ≤ 24)) : isNameB s = false := by
 unfold isNameB
 rw [decide_eq_false hl, Bool.false_and]
theorem c21 (s : ByteArray) : Cf (mz G) (.func (.func 21) #[] #[]) [.string s] h fun v h' => v = .bool (isNameB s) ∧ Grow h h' := by
 by_cases hl : 1 ≤ s.size ∧ s.size ≤ 24
 · refine ar_ 32 [.tmp 2] Tryz.func21 rfl rfl rfl rfl ?_
   repeat' (first | with_reducible refine am_ ?_ | ((with_reducible refine al_ ?_); first | ((with_reducible refine ak_ ?_); refine ac_ (ag_ rfl) ?_) | ((with_reducible refine ae_ ?_); refine ac_ (ad_ rfl) ?_) | ((with_reducible refine ik_range ?_); refine ac_ (op_range rfl Tryz.underlying9) ?_) | ((with_reducible refine aC_ ?_); refine ac_ (cg_ rfl Tryz.underlying9) ?_) | ((with_reducible refine av_ ?_); refine ac_ (aF_ rfl rfl) ?_) | ((with_reducible refine aS_ ?_); refine ac_ (aO_ rfl rfl) ?_) | ((with_reducible refine cG_ ?_); first | ((with_reducible refine bB_ ?_); refine aj_ rfl rfl rfl (ag_ rfl) rfl rfl ?_) | ((with_reducible refine bW_ ?_); refine aj_ rfl rfl rfl (cg_ rfl Tryz.underlying9) rfl rfl ?_) | ((with_reducible refine bE_ ?_); refine aj_ rfl rfl rfl (bZ_ rfl rfl) rfl rfl ?_) | (refine bb_ rfl rfl rfl (fun hb => ?_) (fun hb => ?_) <;> (try simp only [bj_, reduceCtorEq] at hb) <;> (try (exfalso; omega))))) | (with_reducible first | refine ah_ ?_ | refine ao_ ?_ | refine ab_ ?_ | refine az_ ?_ | refine at_ ?_) | (refine aK_ rfl (fun hb => ?_) (fun hb => ?_) <;> (try simp only [bj_, reduceCtorEq] at hb) <;> (try (exfalso; omega))))
   refine bq_ (fun p => s.size - p) (fun p : Nat => [(14, .pointer (some ⟨h.nx, 0, some 0⟩))]) (fun p h' => Grow h h' ∧ At h' h.nx (.iter s p) ∧ ∀ j, j < p → okAt s j = true) 0 (ai_ ⟨rfl, trivial⟩) ⟨aD_, an_, fun j hj => by omega⟩ ?_
   rintro p h' ⟨hgr, hat, hok⟩
   by_cases hp : p < s.size
   · by_cases hlow : bv s p < 128
     · have hd := dec_low hlow
       have step : ∀ h2, okAt s p = true → h2 = h'.set h.nx (.iter s (p + 1)) → Grow h h2 ∧ At h2 h.nx (.iter s (p + 1)) ∧ ∀ j, j < p + 1 → okAt s j = true := by
         rintro h2 ho rfl
         refine ⟨aD_, an_, fun j hj => ?_⟩
         by_cases q : j = p
         · rw [q]; exact ho
         · exact hok j (by omega)
       have hok' : okAt s p = (letB (bv s p) || (decide (¬(p : Int) = 0) && (digB (bv s p) || decide ((bv s p : Int) = 95)))) := by
         unfold okAt
         congr 2
         · rw [Bool.eq_iff_iff]; simp
         · congr 1; rw [Bool.eq_iff_iff]; simp; omega
       repeat' (first | with_reducible refine am_ ?_ | ((with_reducible refine al_ ?_); first | ((with_reducible refine ak_ ?_); refine ac_ (ag_ rfl) ?_) | ((with_reducible refine ae_ ?_); refine ac_ (ad_ rfl) ?_) | ((with_reducible refine ik_next ?_); refine ac_ (op_nextAs rfl hat hp hd) ?_) | ((with_reducible refine av_ ?_); refine ac_ (cM_ rfl rfl) ?_) | ((with_reducible refine aS_ ?_); first | refine ac_ (aT_ rfl rfl) ?_ | refine ac_ (aO_ rfl rfl) ?_) | ((with_reducible refine bR_ ?_); refine ac_ (bD_ rfl rfl) ?_) | ((with_reducible refine ba_ (f := 94) ?_); refine ac_ (aJ_ rfl rfl (c94 _)) ?_) | ((with_reducible refine cG_ ?_); first | refine bC_ rfl rfl rfl rfl rfl rfl ?_ | refine wo_gskip' rfl rfl rfl rfl rfl ?_ | ((with_reducible refine bB_ ?_); refine aj_ rfl rfl rfl (ag_ rfl) rfl rfl ?_) | ((with_reducible refine bE_ ?_); refine aj_ rfl rfl rfl (bm_ rfl rfl) rfl rfl ?_) | ((with_reducible refine ig_pick ?_); first | refine aj_ rfl rfl rfl (aT_ rfl rfl) rfl rfl ?_ | refine aj_ rfl rfl rfl (aO_ rfl rfl) rfl rfl ?_) | ((with_reducible refine ig_un ?_); refine aj_ rfl rfl rfl (bv_ rfl) rfl rfl ?_) | ((with_reducible refine cr_ (f := 95) ?_); refine aj_ rfl rfl rfl (aJ_ rfl rfl (c95 _)) rfl rfl ?_) | (refine bb_ rfl rfl rfl (fun hb => ?_) (fun hb => ?_) <;> (try simp only [bj_, reduceCtorEq] at hb) <;> (try (exfalso; omega))))) | (with_reducible first | refine ah_ ?_ | refine ao_ ?_ | refine ab_ ?_ | refine az_ ?_ | refine aA_ ?_ | refine be_ ?_ | refine at_ ?_ | refine aP_ ?_ | refine bV_ ?_ | refine bd_ ?_ | refine bf_ ?_ | refine cx_ ?_) | refine bS_ rfl ?_ | refine bP_ rfl ?_ | refine bs_ rfl ?_ | (refine aK_ rfl (fun hb => ?_) (fun hb => ?_) <;> (try simp only [bj_, reduceCtorEq] at hb) <;> (try (exfalso; omega))))
       all_goals first
         | (refine aX_ (p + 1) (by omega) (ai_ ⟨rfl, trivial⟩) (step _ ?_ rfl); rw [hok']; clear step hok' hok; generalize letB ((bv s p : Nat) : Int) = L at *; generalize digB ((bv s p : Nat) : Int) = D at *; simp_all; done)
         | (refine rq1 rfl ⟨?_, aD_⟩; rw [isNameB_bad hp]; rw [hok']; clear step hok' hok; generalize letB ((bv s p : Nat) : Int) = L at *; generalize digB ((bv s p : Nat) : Int) = D at *; simp_all; done)
     · obtain ⟨g1, g2⟩ := dec_high (s := s) (i := p) (by omega)
       have k1 : letB ((Utf8.decode s p).1 : Int) = false := by unfold letB; simp; omega
       have k2 : digB ((Utf8.decode s p).1 : Int) = false := by unfold digB; simp; omega
       have k3 : okAt s p = false := by unfold okAt letB digB; simp; omega
       have k4 : ∀ h, Cl (mz G) (.func (.func 94) #[] #[]) [.int .i32 ((Utf8.decode s p).1 : Int)] h (.bool false) h := fun h => by rw [← k1]; exact c94 _
       have k5 : ∀ h, Cl (mz G) (.func (.func 95) #[] #[]) [.int .i32 ((Utf8.decode s p).1 : Int)] h (.bool false) h := fun h => by rw [← k2]; exact c95 _
       repeat' (first | with_reducible refine am_ ?_ | ((with_reducible refine al_ ?_); first | ((with_reducible refine ak_ ?_); refine ac_ (ag_ rfl) ?_) | ((with_reducible refine ae_ ?_); refine ac_ (ad_ rfl) ?_) | ((with_reducible refine ik_next ?_); refine ac_ (op_next rfl hat hp) ?_) | ((with_reducible refine av_ ?_); refine ac_ (cM_ rfl rfl) ?_) | ((with_reducible refine aS_ ?_); first | refine ac_ (aT_ rfl rfl) ?_ | refine ac_ (aO_ rfl rfl) ?_) | ((with_reducible refine bR_ ?_); refine ac_ (bD_ rfl rfl) ?_) | ((with_reducible refine aN_ ?_); refine ac_ (aJ_ rfl rfl (k4 _)) ?_) | ((with_reducible refine cG_ ?_); first | refine bC_ rfl rfl rfl rfl rfl rfl ?_ | refine wo_gskip' rfl rfl rfl rfl rfl ?_ | ((with_reducible refine bB_ ?_); refine aj_ rfl rfl rfl (ag_ rfl) rfl rfl ?_) | ((with_reducible refine bE_ ?_); refine aj_ rfl rfl rfl (bm_ rfl rfl) rfl rfl ?_) | ((with_reducible refine ig_pick ?_); refine aj_ rfl rfl rfl (aT_ rfl rfl) rfl rfl ?_) | ((with_reducible refine ig_un ?_); refine aj_ rfl rfl rfl (bv_ rfl) rfl rfl ?_) | ((with_reducible refine ig_callv ?_); refine aj_ rfl rfl rfl (aJ_ rfl rfl (k5 _)) rfl rfl ?_) | (refine bb_ rfl rfl rfl (fun hb => ?_) (fun hb => ?_) <;> (try simp only [bj_, reduceCtorEq] at hb) <;> (try (exfalso; omega))))) | (with_reducible first | refine ah_ ?_ | refine ao_ ?_ | refine ab_ ?_ | refine az_ ?_ | refine aA_ ?_ | refine at_ ?_ | refine bV_ ?_ | refine bd_ ?_ | refine cx_ ?_) | refine bP_ rfl ?_ | refine bs_ rfl ?_ | (refine aK_ rfl (fun hb => ?_) (fun hb => ?_) <;> (try simp only [bj_, reduceCtorEq] at hb) <;> (try (exfalso; omega))))
       all_goals (refine rq1 rfl ⟨?_, aD_⟩; rw [isNameB_bad hp k3])
   · repeat' (first | with_reducible refine am_ ?_ | ((with_reducible refine al_ ?_); first | ((with_reducible refine ae_ ?_); refine ac_ (ad_ rfl) ?_) | ((with_reducible refine ik_next ?_); refine ac_ (op_nextEnd rfl hat hp) ?_) | ((with_reducible refine bR_ ?_); refine ac_ (bD_ rfl rfl) ?_)) | (with_reducible first | refine ah_ ?_ | refine ao_ ?_ | refine ab_ ?_ | refine aA_ ?_ | refine be_ ?_ | refine bf_ ?_ | refine bi_ ?_) | refine bS_ rfl ?_ | refine bs_ rfl ?_)
     refine rq1 rfl ⟨?_, hgr⟩
     rw [isNameB_good hl fun j hj => hok j (by omega)]
 · refine ar_ 32 [.tmp 2] Tryz.func21 rfl rfl rfl rfl ?_
   repeat' (first | with_reducible refine am_ ?_ | ((with_reducible refine al_ ?_); first | ((with_reducible refine ak_ ?_); refine ac_ (ag_ rfl) ?_) | ((with_reducible refine ae_ ?_); refine ac_ (ad_ rfl) ?_) | ((with_reducible refine aC_ ?_); refine ac_ (cg_ rfl Tryz.underlying9) ?_) | ((with_reducible refine av_ ?_); refine ac_ (aF_ rfl rfl) ?_) | ((with_reducible refine aS_ ?_); first | refine ac_ (aT_ rfl rfl) ?_ | refine ac_ (aO_ rfl rfl) ?_) | ((with_reducible refine cG_ ?_); first | refine bC_ rfl rfl rfl rfl rfl rfl ?_ | ((with_reducible refine bB_ ?_); refine aj_ rfl rfl rfl (ag_ rfl) rfl rfl ?_) | ((with_reducible refine bW_ ?_); refine aj_ rfl rfl rfl (cg_ rfl Tryz.underlying9) rfl rfl ?_) | ((with_reducible refine bE_ ?_); refine aj_ rfl rfl rfl (bZ_ rfl rfl) rfl rfl ?_) | (refine bb_ rfl rfl rfl (fun hb => ?_) (fun hb => ?_) <;> (try simp only [bj_, reduceCtorEq] at hb) <;> (try (exfalso; omega))))) | (with_reducible first | refine ah_ ?_ | refine ao_ ?_ | refine ab_ ?_ | refine aA_ ?_ | refine bd_ ?_) | refine bP_ rfl ?_ | (refine aK_ rfl (fun hb => ?_) (fun hb => ?_) <;> (try simp only [bj_, reduceCtorEq] at hb) <;> (try (exfalso; omega))))
   all_goals refine rq1 rfl ⟨?_, .refl _⟩
   all_goals rw [isNameB_len hl]
theorem c22 (s : ByteArray) (hs : s.size ≤ 1000000) : Cl (mz G) (.func (.func 22) #[] #[]) [.string s] h (.bool (isNameB s)) h := by
 by_cases hl : 1 ≤ s.size ∧ s.size ≤ 24
 · have h0 : s[(0 : Int).toNat]? = some (s.get! 0) := bv_get (by omega)
   have k0 : okAt s 0 = letB (bv s 0) := by unfold okAt; simp
   refine bg_ (ar_ 42 [.tmp 2] Tryz.func22 rfl rfl rfl rfl ?_)
   repeat' (first | with_reducible refine am_ ?_ | ((with_reducible refine al_ ?_); first | ((with_reducible refine ak_ ?_); refine ac_ (ag_ rfl) ?_) | ((with_reducible refine ae_ ?_); refine ac_ (ad_ rfl) ?_) | ((with_reducible refine aC_ ?_); refine ac_ (cg_ rfl Tryz.underlying9) ?_) | ((with_reducible refine av_ ?_); refine ac_ (cM_ rfl rfl) ?_) | ((with_reducible refine aS_ ?_); refine ac_ (aO_ rfl rfl) ?_) | ((with_reducible refine cG_ ?_); first | ((with_reducible refine bB_ ?_); refine aj_ rfl rfl rfl (ag_ rfl) rfl rfl ?_) | ((with_reducible refine ig_index ?_); refine aj_ rfl rfl rfl (op_idxStr rfl rfl Tryz.underlying9 (by omega) h0) rfl rfl ?_) | ((with_reducible refine bW_ ?_); refine aj_ rfl rfl rfl (cg_ rfl Tryz.underlying9) rfl rfl ?_) | ((with_reducible refine bE_ ?_); refine aj_ rfl rfl rfl (bZ_ rfl rfl) rfl rfl ?_) | ((with_reducible refine ig_un ?_); refine aj_ rfl rfl rfl (bv_ rfl) rfl rfl ?_) | ((with_reducible refine cr_ (f := 96) ?_); refine aj_ rfl rfl rfl (aJ_ rfl rfl (c96 _)) rfl rfl ?_) | (refine bb_ rfl rfl rfl (fun hb => ?_) (fun hb => ?_) <;> (try simp only [bj_, reduceCtorEq] at hb) <;> (try (exfalso; omega))))) | (with_reducible first | refine ah_ ?_ | refine ao_ ?_ | refine ab_ ?_ | refine az_ ?_ | refine aA_ ?_ | refine at_ ?_ | refine bd_ ?_) | (refine aK_ rfl (fun hb => ?_) (fun hb => ?_) <;> (try simp only [bj_, reduceCtorEq] at hb) <;> (try (exfalso; omega))))
   · refine rq1 rfl ⟨?_, rfl⟩
     rw [isNameB_bad (by omega) (k0.trans hb)]
   · refine bq_ (fun p => s.size - p) (fun p : Nat => [(0, .string s), (3, .int .i64 p)]) (fun p h' => h' = h ∧ 1 ≤ p ∧ p ≤ s.size ∧ ∀ j, j < p → okAt s j = true) 1 (ai_ ⟨rfl, rfl, trivial⟩) ⟨rfl, by omega, by omega, fun j hj => by rw [show j = 0 by omega]; exact k0.trans hb⟩ ?_
     rintro p h' ⟨rfl, h1, h2, hok⟩
     by_cases hp : p < s.size
     · have hg : s[((p : Nat) : Int).toNat]? = some (s.get! p) := bv_get hp
       have hok' : okAt s p = (letB (bv s p) || (digB (bv s p) || decide ((bv s p : Int) = 95))) := by
         unfold okAt
         rw [decide_eq_true (show p ≠ 0 by omega), Bool.true_and]
         congr 2; rw [Bool.eq_iff_iff]; simp; omega
       have step : okAt s p = true → ∀ j, j < p + 1 → okAt s j = true := by
         intro ho j hj
         by_cases q : j = p
         · rw [q]; exact ho
         · exact hok j (by omega)
       repeat' (first | with_reducible refine am_ ?_ | ((with_reducible refine al_ ?_); first | ((with_reducible refine ak_ ?_); refine ac_ (ag_ rfl) ?_) | ((with_reducible refine ae_ ?_); refine ac_ (ad_ rfl) ?_) | ((with_reducible refine ik_index ?_); refine ac_ (op_idxStr rfl rfl Tryz.underlying9 (by omega) hg) ?_) | ((with_reducible refine aC_ ?_); refine ac_ (cg_ rfl Tryz.underlying9) ?_) | ((with_reducible refine av_ ?_); first | refine ac_ (aF_ rfl rfl) ?_ | refine ac_ (aR_ rfl rfl (w64 (by omega) (by omega))) ?_) | ((with_reducible refine aS_ ?_); first | refine ac_ (aT_ rfl rfl) ?_ | refine ac_ (aO_ rfl rfl) ?_) | ((with_reducible refine cj_ ?_); refine ac_ (bv_ rfl) ?_) | ((with_reducible refine ba_ (f := 96) ?_); refine ac_ (aJ_ rfl rfl (c96 _)) ?_) | ((with_reducible refine cG_ ?_); first | refine bC_ rfl rfl rfl rfl rfl rfl ?_ | ((with_reducible refine bB_ ?_); refine aj_ rfl rfl rfl (ag_ rfl) rfl rfl ?_) | ((with_reducible refine ig_index ?_); refine aj_ rfl rfl rfl (op_idxStr rfl rfl Tryz.underlying9 (by omega) hg) rfl rfl ?_) | ((with_reducible refine bE_ ?_); refine aj_ rfl rfl rfl (bm_ rfl rfl) rfl rfl ?_) | ((with_reducible refine ig_un ?_); refine aj_ rfl rfl rfl (bv_ rfl) rfl rfl ?_) | ((with_reducible refine cr_ (f := 97) ?_); refine aj_ rfl rfl rfl (aJ_ rfl rfl (c97 _)) rfl rfl ?_) | (refine bb_ rfl rfl rfl (fun hb => ?_) (fun hb => ?_) <;> (try simp only [bj_, reduceCtorEq] at hb) <;> (try (exfalso; omega))))) | (with_reducible first | refine ah_ ?_ | refine ao_ ?_ | refine ab_ ?_ | refine az_ ?_ | refine aA_ ?_ | refine at_ ?_ | refine aP_ ?_ | refine bV_ ?_ | refine bd_ ?_ | refine cx_ ?_) | refine bs_ rfl ?_ | (refine aK_ rfl (fun hb => ?_) (fun hb => ?_) <;> (try simp only [bj_, reduceCtorEq] at hb) <;> (try (exfalso; omega))))
       all_goals first
         | (refine aX_ (p + 1) (by omega) (ai_ ⟨rfl, rfl, trivial⟩) ⟨rfl, by omega, by omega, step ?_⟩; rw [hok']; simp_all [bv]; done)
         | (refine rq1 rfl ⟨?_, rfl⟩; rw [isNameB_bad hp]; rw [hok']; simp_all [bv]; done)
     · repeat' (first | with_reducible refine am_ ?_ | ((with_reducible refine al_ ?_); first | ((with_reducible refine ak_ ?_); refine ac_ (ag_ rfl) ?_) | ((with_reducible refine ae_ ?_); refine ac_ (ad_ rfl) ?_) | ((with_reducible refine aC_ ?_); refine ac_ (cg_ rfl Tryz.underlying9) ?_) | ((with_reducible refine av_ ?_); refine ac_ (aF_ rfl rfl) ?_)) | (with_reducible first | refine ah_ ?_ | refine ao_ ?_ | refine ab_ ?_ | refine aA_ ?_ | refine be_ ?_ | refine bf_ ?_ | refine bi_ ?_) | refine bS_ rfl ?_ | (refine aK_ rfl (fun hb => ?_) (fun hb => ?_) <;> (try simp only [bj_, reduceCtorEq] at hb) <;> (try (exfalso; omega))))
       refine rq1 rfl ⟨?_, rfl⟩
       rw [isNameB_good hl fun j hj => hok j (by omega)]
 · by_cases hz : s.size = 0
   · refine bg_ (ar_ 42 [.tmp 2] Tryz.func22 rfl rfl rfl rfl ?_)
     repeat' (first | with_reducible refine am_ ?_ | ((with_reducible refine al_ ?_); first | ((with_reducible refine ak_ ?_); refine ac_ (ag_ rfl) ?_) | ((with_reducible refine ae_ ?_); refine ac_ (ad_ rfl) ?_) | ((with_reducible refine aC_ ?_); refine ac_ (cg_ rfl Tryz.underlying9) ?_) | ((with_reducible refine av_ ?_); refine ac_ (cM_ rfl rfl) ?_) | ((with_reducible refine aS_ ?_); refine ac_ (aT_ rfl rfl) ?_) | ((with_reducible refine cG_ ?_); first | refine bC_ rfl rfl rfl rfl rfl rfl ?_ | (refine bb_ rfl rfl rfl (fun hb => ?_) (fun hb => ?_) <;> (try simp only [bj_, reduceCtorEq] at hb) <;> (try (exfalso; omega))))) | (with_reducible first | refine ah_ ?_ | refine ao_ ?_ | refine ab_ ?_ | refine aA_ ?_ | refine bd_ ?_) | refine bP_ rfl ?_)
     all_goals refine rq1 rfl ⟨?_, rfl⟩
     all_goals rw [isNameB_len hl]
   · have h0 : s[(0 : Int).toNat]? = some (s.get! 0) := bv_get (by omega)
     refine bg_ (ar_ 42 [.tmp 2] Tryz.func22 rfl rfl rfl rfl ?_)
     repeat' (first | with_reducible refine am_ ?_ | ((with_reducible refine al_ ?_); first | ((with_reducible refine ak_ ?_); refine ac_ (ag_ rfl) ?_) | ((with_reducible refine ae_ ?_); refine ac_ (ad_ rfl) ?_) | ((with_reducible refine aC_ ?_); refine ac_ (cg_ rfl Tryz.underlying9) ?_) | ((with_reducible refine av_ ?_); refine ac_ (cM_ rfl rfl) ?_) | ((with_reducible refine aS_ ?_); first | refine ac_ (aT_ rfl rfl) ?_ | refine ac_ (aO_ rfl rfl) ?_) | ((with_reducible refine cG_ ?_); first | refine bC_ rfl rfl rfl rfl rfl rfl ?_ | ((with_reducible refine bB_ ?_); refine aj_ rfl rfl rfl (ag_ rfl) rfl rfl ?_) | ((with_reducible refine bW_ ?_); refine aj_ rfl rfl rfl (cg_ rfl Tryz.underlying9) rfl rfl ?_) | ((with_reducible refine bE_ ?_); refine aj_ rfl rfl rfl (bZ_ rfl rfl) rfl rfl ?_) | (refine bb_ rfl rfl rfl (fun hb => ?_) (fun hb => ?_) <;> (try simp only [bj_, reduceCtorEq] at hb) <;> (try (exfalso; omega))))) | (with_reducible first | refine ah_ ?_ | refine ao_ ?_ | refine ab_ ?_ | refine aA_ ?_ | refine bd_ ?_) | refine bP_ rfl ?_)
     all_goals refine rq1 rfl ⟨?_, rfl⟩
     all_goals rw [isNameB_len hl]
/- Permutations. -/
def iota (n : Nat) : List Int := (List.range n).map fun i : Nat => ((i : Nat) : Int)
def fillI (k n : Nat) : List Int := iota k ++ List.replicate (n - k) 0
def swp (l : List Int) (i j : Nat) : List Int := (l.set i (l.getD j 0)).set j (l.getD i 0)
def nxt (x : Nat) : Nat := 742938285 * x % 2147483647
def drawL : Nat → Nat → List Int → List Int
 | 0, _, l => l
 | i + 1, x, l => drawL i (nxt x) (swp l (i + 1) (nxt x % (i + 2)))
def refL : Nat → Nat → List Int → List Int
 | 0, _, l => l
 | i + 1, x, l => refL i (nxt x) (swp l i (nxt x % (i + 1)))
theorem iota_len (n : Nat) : (iota n).length = n := by simp [iota]
theorem fill_len {k n : Nat} (h : k ≤ n) : (fillI k n).length = n := by simp [fillI, iota]; omega
theorem fill_all (n : Nat) : fillI n n = iota n := by simp [fillI]
theorem iota_succ (n : Nat) : iota (n + 1) = iota n ++ [(n : Int)] := by simp [iota, List.range_succ]
theorem fill_set {k n : Nat} (h : k < n) : (fillI k n).set k (k : Int) = fillI (k + 1) n := by
 unfold fillI
 rw [List.set_append_right _ _ (by rw [iota_len]; omega), iota_len, Nat.sub_self]
 obtain ⟨m, hm⟩ : ∃ m, n - k = m + 1 := ⟨n - k - 1, by omega⟩
 rw [hm, show n - (k + 1) = m by omega, List.replicate_succ, iota_succ, List.append_assoc]
 rfl
theorem swp_len (l : List Int) (i j : Nat) : (swp l i j).length = l.length := by simp [swp]
theorem swp_same (l : List Int) : swp l 0 0 = l := by cases l <;> simp [swp]
theorem ref_draw : ∀ (i x : Nat) (l : List Int), refL (i + 1) x l = drawL i x l
 | 0, x, l => by simp [refL, drawL, Nat.mod_one, swp_same]
 | i + 1, x, l => by rw [refL, drawL, ref_draw i]
theorem op_stI {M : Mc} {l : KL} {b o : Nat} {e t : TypeId} {s : Bool} {u : Int} {c : List Int} {x y : Operand} (hx : val l x = some (.pointer (some ⟨b, o, some 0⟩))) (hy : val l y = some (.int .i64 u)) (hat : At h b (.cells (c.map (.int .i64)) e 1 s)) (hn : tsz M.P t = some 1) (hlt : o < c.length) :
   Op1 M (.store t x y) l h undef (h.set b (.cells ((c.set o u).map (.int .i64)) e 1 s)) :=
 cC_ hx hy hat rfl hn (by simpa using hlt) rfl (map_set_int _ _ _ _)
theorem op_ldI {M : Mc} {l : KL} {b o es : Nat} {e t : TypeId} {s : Bool} {dd : TypeDesc} {c : List Int} {x : Operand} (hx : val l x = some (.pointer (some ⟨b, o, some 0⟩))) (hat : At h b (.cells (c.map (.int .i64)) e es s)) (hu : M.P.underlying t = some dd) (hd : isAggD dd = false) (hlt : o < c.length) :
   Op1 M (.load t x) l h (.int .i64 (c.getD o 0)) h := aq_ hx hat hu hd (get_map_int hlt)
theorem c17 (a b : Nat) (ha : 1 ≤ a ∧ a ≤ 2147483646) (hb : b ≤ 256) (hw : Wf h) : Cf (mz G) (.func (.func 17) #[] #[]) [.int .i64 a, .int .i64 b] h fun v h' => (∃ s, v = .tuple #[s, .int .i64 0] ∧ Sl G h' 1 s b ((drawL (b - 1) a (iota b)).map (.int .i64))) ∧ Grow h h' := by
 have e1 : rngE a 1 2147483646 = 0 := by unfold rngE; rw [if_neg (by omega)]
 have e2 : rngE b 0 256 = 0 := by unfold rngE; rw [if_neg (by omega)]
 have q1 : ∀ h, Cl (mz G) (.func (.func 91) #[] #[]) [.int .i64 a, .int .i64 1, .int .i64 2147483646] h (.int .i64 0) h := fun h => by have := c91 (G := G) (h := h) a 1 2147483646; rwa [e1] at this
 have q2 : ∀ h, Cl (mz G) (.func (.func 91) #[] #[]) [.int .i64 b, .int .i64 0, .int .i64 256] h (.int .i64 0) h := fun h => by have := c91 (G := G) (h := h) b 0 256; rwa [e2] at this
 refine ar_ 61 [.tmp 4, .tmp 5] Tryz.func17 rfl rfl rfl rfl ?_
 repeat' (first | with_reducible refine am_ ?_ | ((with_reducible refine al_ ?_); first | ((with_reducible refine ak_ ?_); refine ac_ (ag_ rfl) ?_) | ((with_reducible refine ae_ ?_); refine ac_ (ad_ rfl) ?_) | ((with_reducible refine cE_ ?_); refine ac_ (op_mkSl rfl rfl Tryz.underlying25 zs3 zb3 zz3 rfl (by omega) (by omega)) ?_) | ((with_reducible refine ca_ ?_); refine ac_ (cl_ rfl Tryz.underlying219 zs26 zz26 rfl rfl) ?_) | ((with_reducible refine av_ ?_); refine ac_ (bm_ rfl rfl) ?_) | ((with_reducible refine aN_ ?_); first | refine ac_ (aJ_ rfl rfl (q1 _)) ?_ | refine ac_ (aJ_ rfl rfl (q2 _)) ?_) | ((with_reducible refine ba_ (f := 90) ?_); refine ac_ (aJ_ rfl rfl (c90 (es := [0, 0]) (n := 2) (Sl.ofAt (z2_A) rfl (Nat.le_refl _)) (by omega))) ?_)) | (with_reducible first | refine ah_ ?_ | refine ao_ ?_ | refine ab_ ?_ | refine az_ ?_ | refine at_ ?_) | refine bs_ rfl ?_)
 refine bq_ (fun k => b - k) (fun k : Nat => [(0, .int .i64 a), (1, .int .i64 b), (7, .slice (some ⟨h.nx + 1, 0, some 0⟩) b b), (23, .int .i64 b), (24, .int .i64 k)]) (fun k h' => Grow h h' ∧ At h' (h.nx + 1) (.cells ((fillI k b).map (.int .i64)) 3 1 false) ∧ k ≤ b) 0 (ai_ ⟨rfl, rfl, rfl, rfl, rfl, trivial⟩) ⟨z3_A, ?_, Nat.zero_le _⟩ ?_
 · have := At.new (h.push (AObj.cells [Value.int IntKind.i64 0, Value.int IntKind.i64 0] 26 1 false)) (AObj.cells (List.replicate b (Value.int IntKind.i64 0)) 3 1 false)
   have e : (fillI 0 b).map (Value.int .i64) = List.replicate b (Value.int IntKind.i64 0) := by simp [fillI, iota]
   rw [e]; exact this
 rintro k h' ⟨hgr, hat, hk⟩
 by_cases hlt : k < b
 · repeat' (first | with_reducible refine am_ ?_ | ((with_reducible refine al_ ?_); first | ((with_reducible refine ak_ ?_); refine ac_ (ag_ rfl) ?_) | ((with_reducible refine ae_ ?_); refine ac_ (ad_ rfl) ?_) | ((with_reducible refine aw_ ?_); refine ac_ (bF_ (o := k) rfl rfl Tryz.underlying25 zs3 (by omega) (by omega) (by simp)) ?_) | ((with_reducible refine aG_ ?_); refine ci_ (op_stI rfl rfl hat zs3 (by rw [fill_len hk]; omega)) ?_) | ((with_reducible refine av_ ?_); first | refine ac_ (aF_ rfl rfl) ?_ | refine ac_ (aR_ rfl rfl (w64 (by omega) (by omega))) ?_)) | (with_reducible first | refine ah_ ?_ | refine ao_ ?_ | refine ab_ ?_ | refine az_ ?_ | refine at_ ?_ | refine aP_ ?_) | (refine aK_ rfl (fun hb => ?_) (fun hb => ?_) <;> (try simp only [bj_, reduceCtorEq] at hb) <;> (try (exfalso; omega))))
   refine aX_ (k + 1) (by omega) (ai_ ⟨rfl, rfl, rfl, rfl, rfl, trivial⟩) ⟨z3_A, ?_, by omega⟩
   rw [fill_set hlt]; exact z2_A
 have hkb : k = b := by omega
 subst hkb
 rw [fill_all] at hat
 repeat' (first | with_reducible refine am_ ?_ | ((with_reducible refine al_ ?_); first | ((with_reducible refine ak_ ?_); refine ac_ (ag_ rfl) ?_) | ((with_reducible refine ae_ ?_); refine ac_ (ad_ rfl) ?_) | ((with_reducible refine av_ ?_); first | refine ac_ (aF_ rfl rfl) ?_ | refine ac_ (op_sub' rfl rfl (w64 (by omega) (by omega))) ?_)) | (with_reducible first | refine ah_ ?_ | refine ao_ ?_ | refine ab_ ?_ | refine be_ ?_ | refine at_ ?_ | refine bf_ ?_ | refine bi_ ?_) | refine bS_ rfl ?_ | (refine aK_ rfl (fun hb => ?_) (fun hb => ?_) <;> (try simp only [bj_, reduceCtorEq] at hb) <;> (try (exfalso; omega))))
 refine bq_ (fun p : Int × Nat × List Int => (p.1 + 1).toNat) (fun p => [(7, .slice (some ⟨h.nx + 1, 0, some 0⟩) k k), (9, .int .i64 (p.2.1 : Nat)), (10, .int .i64 p.1)]) (fun p h' => Grow h h' ∧ At h' (h.nx + 1) (.cells (p.2.2.map (.int .i64)) 3 1 false) ∧ p.2.2.length = k ∧ p.1 < k ∧ p.2.1 ≤ 2147483646 ∧ drawL p.1.toNat p.2.1 p.2.2 = drawL (k - 1) a (iota k)) ((k : Int) - 1, a, iota k) (ai_ ⟨rfl, rfl, rfl, trivial⟩) ⟨hgr, hat, iota_len k, by show (k : Int) - 1 < k; omega, ha.2, by show drawL ((k : Int) - 1).toNat a (iota k) = _; rw [show ((k : Int) - 1).toNat = k - 1 by omega]⟩ ?_
 rintro ⟨i, x, l⟩ h' ⟨hgr, hat, hl, hi, hx, hd⟩
 simp only at hat hl hi hx hd ⊢
 by_cases h1 : 1 ≤ i
 · obtain ⟨m, rfl⟩ : ∃ m : Nat, i = ((m + 1 : Nat) : Int) := ⟨(i - 1).toNat, by omega⟩
   rw [show ((m + 1 : Nat) : Int).toNat = m + 1 by omega, drawL] at hd
   have hm : nxt x % (m + 2) < m + 2 := Nat.mod_lt _ (by omega)
   have hn : nxt x ≤ 2147483646 := by unfold nxt; omega
   obtain ⟨j, hj⟩ : ∃ j, nxt x % (m + 2) = j := ⟨_, rfl⟩
   obtain ⟨y, hy⟩ : ∃ y, nxt x = y := ⟨_, rfl⟩
   rw [hj] at hm hd
   rw [hy] at hj hd hn
   repeat' (first | with_reducible refine am_ ?_ | ((with_reducible refine al_ ?_); first | ((with_reducible refine ak_ ?_); refine ac_ (ag_ rfl) ?_) | ((with_reducible refine ae_ ?_); refine ac_ (ad_ rfl) ?_) | ((with_reducible refine av_ ?_); first | refine ac_ (op_remN (742938285 * x) 2147483647 y rfl rfl (by omega) rfl (by omega) hy) ?_ | refine ac_ (op_remN y (m + 2) j rfl rfl rfl (by omega) (by omega) hj) ?_ | refine ac_ (aR_ rfl rfl (w64 (by omega) (by omega))) ?_ | refine ac_ (op_sub' rfl rfl (w64 (by omega) (by omega))) ?_ | refine ac_ (op_geq rfl rfl) ?_ | refine ac_ (op_mul' rfl rfl (w64 (by omega) (by omega))) ?_)) | ((with_reducible refine bL_ ?_); ((with_reducible refine bK_ ?_); first | ((with_reducible refine bI_ ?_); refine bn_ (af_ rfl) rfl rfl (aE_ rfl (ag_ rfl)) rfl rfl rfl ?_) | ((with_reducible refine bo_ ?_); first | refine bn_ (af_ rfl) rfl rfl (aE_ rfl (bF_ (o := m + 1) rfl rfl Tryz.underlying25 zs3 (by omega) (by omega) (by omega))) rfl rfl rfl ?_ | refine bn_ (af_ rfl) rfl rfl (aE_ rfl (bF_ (o := j) rfl rfl Tryz.underlying25 zs3 (by omega) (by omega) (by omega))) rfl rfl rfl ?_) | ((with_reducible refine by_ ?_); refine bp_ (af_ rfl) rfl (aE_ rfl (op_ldI rfl z2_A Tryz.underlying3 rfl (by omega))) rfl rfl rfl ?_) | ((with_reducible refine cf_ ?_); refine wx_ee0 (af_ rfl) rfl rfl (op_stI rfl rfl z2_A zs3 (by first | omega | (rw [List.length_set]; omega))) rfl ?_) | with_reducible refine bN_ ?_ ?_)) | with_reducible exact bA_ | with_reducible refine bk_ ?_ ?_ | ((with_reducible refine bM_ ?_); first | exact bz_ | refine bx_ rfl ?_ | refine aB_ rfl rfl (aE_ rfl (op_ldI rfl z2_A Tryz.underlying3 rfl (by omega))) ?_) | (with_reducible first | refine ah_ ?_ | refine ao_ ?_ | refine ab_ ?_ | refine az_ ?_ | refine at_ ?_ | refine aP_ ?_) | (refine aK_ rfl (fun hb => ?_) (fun hb => ?_) <;> (try simp only [bj_, reduceCtorEq] at hb) <;> (try (exfalso; omega))) | refine wc_draw (id := 16) 16 [0, 0, 0, 0, 0, 0, 48, 112, 0, 0, 768, 1792, 4083, 8179, 16383, 32767] [0, 1, 2, 3, 4, 5, 6, 7, 8, 9, 10, 11, 12, 13, 14, 15] (by kernel_rfl) (by kernel_rfl) rfl rfl rfl ?_)
   refine aX_ (((m + 1 : Nat) : Int) - 1, y, swp l (m + 1) j) (by simp only; omega) (ai_ ⟨rfl, rfl, rfl, trivial⟩) ⟨z3_A, ?_, by simp only; rw [swp_len]; exact hl, by simp only; omega, hn, ?_⟩
   · unfold swp; exact z2_A
   · simp only; rw [show (((m + 1 : Nat) : Int) - 1).toNat = m by omega]; exact hd
 · repeat' (first | with_reducible refine am_ ?_ | ((with_reducible refine al_ ?_); first | ((with_reducible refine ak_ ?_); refine ac_ (ag_ rfl) ?_) | ((with_reducible refine ae_ ?_); refine ac_ (ad_ rfl) ?_) | ((with_reducible refine av_ ?_); refine ac_ (op_geq rfl rfl) ?_)) | (with_reducible first | refine ah_ ?_ | refine ao_ ?_ | refine ab_ ?_ | refine aA_ ?_ | refine be_ ?_ | refine bf_ ?_ | refine bi_ ?_) | refine bS_ rfl ?_ | (refine aK_ rfl (fun hb => ?_) (fun hb => ?_) <;> (try simp only [bj_, reduceCtorEq] at hb) <;> (try (exfalso; omega))))
   refine rq2 rfl rfl ⟨⟨_, rfl, ?_⟩, hgr⟩
   rw [show i.toNat = 0 by omega, drawL] at hd
   rw [← hd]
   exact Sl.ofAt hat (by simp [hl]) (Nat.le_refl _)
theorem c20 (a b : Nat) (ha : 1 ≤ a ∧ a ≤ 2147483646) (hb : b ≤ 256) (hw : Wf h) : Cf (mz G) (.func (.func 20) #[] #[]) [.int .i64 a, .int .i64 b] h fun v h' => (∃ s, v = s ∧ Sl G h' 1 s b ((drawL (b - 1) a (iota b)).map (.int .i64))) ∧ Grow h h' := by
 refine ar_ 48 [.tmp 4] Tryz.func20 rfl rfl rfl rfl ?_
 repeat' (first | with_reducible refine am_ ?_ | ((with_reducible refine al_ ?_); ((with_reducible refine ae_ ?_); refine ac_ (ad_ rfl) ?_)) | (with_reducible first | refine ah_ ?_ | refine ao_ ?_ | refine ab_ ?_ | refine at_ ?_))
 refine bq_ (fun p : Nat × Value => b - p.1) (fun p => [(0, .int .i64 a), (1, .int .i64 b), (5, p.2), (6, .int .i64 (p.1 : Nat))]) (fun p h' => Wf h' ∧ Ow h h' 3 1 p.2 p.1 ((iota p.1).map (.int .i64)) ∧ p.1 ≤ b) (0, .slice none 0 0) (ai_ ⟨rfl, rfl, rfl, rfl, trivial⟩) ⟨hw, .nil (.refl _), Nat.zero_le _⟩ ?_
 rintro ⟨k, v⟩ h' ⟨hw', ow, hk⟩
 simp only at ow hk ⊢
 by_cases hlt : k < b
 · obtain ⟨r, h2, hap, ow2, _, hwf, _⟩ := append_ow (M := mz G) (st := 25) (xt := 25) (h := h'.push (.cells [.int .i64 k] 3 1 false)) (new := [.int .i64 k]) (m := 1) Tryz.underlying25 Tryz.underlying25 rfl zs3 zb3 zz3 rfl (ow.next ((Grow.refl _).push _)) (Sl.ofAt (At.new _ _) rfl (Nat.le_refl _)) rfl (by omega)
   repeat' (first | with_reducible refine am_ ?_ | ((with_reducible refine al_ ?_); first | ((with_reducible refine ak_ ?_); refine ac_ (ag_ rfl) ?_) | ((with_reducible refine ae_ ?_); refine ac_ (ad_ rfl) ?_) | ((with_reducible refine aC_ ?_); refine ac_ (cJ_ rfl rfl hap) ?_) | ((with_reducible refine av_ ?_); first | refine ac_ (aF_ rfl rfl) ?_ | refine ac_ (aR_ rfl rfl (w64 (by omega) (by omega))) ?_) | ((with_reducible refine ca_ ?_); refine ac_ (cl_ rfl Tryz.underlying25 zs3 zz3 rfl rfl) ?_)) | (with_reducible first | refine ah_ ?_ | refine ao_ ?_ | refine ab_ ?_ | refine az_ ?_ | refine at_ ?_ | refine aP_ ?_) | (refine aK_ rfl (fun hb => ?_) (fun hb => ?_) <;> (try simp only [bj_, reduceCtorEq] at hb) <;> (try (exfalso; omega))))
   refine aX_ (k + 1, r) (by simp only; omega) (ai_ ⟨rfl, rfl, rfl, rfl, trivial⟩) ⟨hwf (hw'.push _), ?_, by simp only; omega⟩
   simp only [iota_succ, List.map_append]
   exact ow2
 have hkb : k = b := by omega
 subst hkb
 have hlen := ow.len
 have fin : ∀ {h'' : H} {c : List Int}, Grow h h'' → Sl G h'' 1 v k (c.map (.int .i64)) → refL 0 0 c = drawL (k - 1) a (iota k) → (∃ s, v = s ∧ Sl G h'' 1 s k ((drawL (k - 1) a (iota k)).map (.int .i64))) ∧ Grow h h'' := fun g s e => ⟨⟨_, rfl, by rw [← e]; exact s⟩, g⟩
 rcases ow.form with ⟨rfl, rfl⟩ | ⟨B, hB, rfl, hat⟩
 · repeat' (first | with_reducible refine am_ ?_ | ((with_reducible refine al_ ?_); first | ((with_reducible refine ak_ ?_); refine ac_ (ag_ rfl) ?_) | ((with_reducible refine ae_ ?_); refine ac_ (ad_ rfl) ?_) | ((with_reducible refine av_ ?_); first | refine ac_ (aF_ rfl rfl) ?_ | refine ac_ (op_sub' rfl rfl (w64 (by omega) (by omega))) ?_)) | (with_reducible first | refine ah_ ?_ | refine ao_ ?_ | refine ab_ ?_ | refine be_ ?_ | refine at_ ?_ | refine bf_ ?_ | refine bi_ ?_) | refine bS_ rfl ?_ | refine bs_ rfl ?_)
   refine bq_ (fun _ : Unit => 0) (fun _ => [(5, .slice none 0 0), (8, .int .i64 (-1))]) (fun _ h'' => h'' = h') () (ai_ ⟨rfl, rfl, trivial⟩) rfl ?_
   rintro _ _ rfl
   repeat' (first | with_reducible refine am_ ?_ | ((with_reducible refine al_ ?_); first | ((with_reducible refine ak_ ?_); refine ac_ (ag_ rfl) ?_) | ((with_reducible refine ae_ ?_); refine ac_ (ad_ rfl) ?_) | ((with_reducible refine av_ ?_); refine ac_ (op_geq rfl rfl) ?_)) | (with_reducible first | refine ah_ ?_ | refine ao_ ?_ | refine ab_ ?_ | refine aA_ ?_ | refine be_ ?_ | refine bf_ ?_ | refine bi_ ?_) | refine bS_ rfl ?_ | refine bs_ rfl ?_)
   exact rq1 rfl (fin (c := []) ow.grow .nil rfl)
 repeat' (first | with_reducible refine am_ ?_ | ((with_reducible refine al_ ?_); first | ((with_reducible refine ak_ ?_); refine ac_ (ag_ rfl) ?_) | ((with_reducible refine ae_ ?_); refine ac_ (ad_ rfl) ?_) | ((with_reducible refine av_ ?_); first | refine ac_ (aF_ rfl rfl) ?_ | refine ac_ (op_sub' rfl rfl (w64 (by omega) (by omega))) ?_)) | (with_reducible first | refine ah_ ?_ | refine ao_ ?_ | refine ab_ ?_ | refine be_ ?_ | refine at_ ?_ | refine bf_ ?_ | refine bi_ ?_) | refine bS_ rfl ?_ | (refine aK_ rfl (fun hb => ?_) (fun hb => ?_) <;> (try simp only [bj_, reduceCtorEq] at hb) <;> (try (exfalso; omega))))
 refine bq_ (fun p : Int × Nat × List Int => (p.1 + 1).toNat) (fun p => [(5, .slice (some ⟨B, 0, some 0⟩) k k), (7, .int .i64 (p.2.1 : Nat)), (8, .int .i64 p.1)]) (fun p h' => Grow h h' ∧ At h' B (.cells (p.2.2.map (.int .i64)) 3 1 true) ∧ p.2.2.length = k ∧ -1 ≤ p.1 ∧ p.1 < k ∧ p.2.1 ≤ 2147483646 ∧ refL (p.1 + 1).toNat p.2.1 p.2.2 = drawL (k - 1) a (iota k)) ((k : Int) - 1, a, iota k) (ai_ ⟨rfl, rfl, rfl, trivial⟩) ⟨ow.grow, hat, iota_len k, by show -1 ≤ (k : Int) - 1; omega, by show (k : Int) - 1 < k; omega, ha.2, ?_⟩ ?_
 · show refL ((k : Int) - 1 + 1).toNat a (iota k) = _
   rw [show ((k : Int) - 1 + 1).toNat = k by omega]
   cases k with
   | zero => rfl
   | succ k => rw [ref_draw]; rfl
 rintro ⟨i, x, l⟩ h' ⟨hgr, hat, hl, hi0, hi, hx, hd⟩
 simp only at hat hl hi hi0 hx hd ⊢
 by_cases h1 : 0 ≤ i
 · obtain ⟨m, rfl⟩ : ∃ m : Nat, i = (m : Int) := ⟨i.toNat, by omega⟩
   rw [show ((m : Int) + 1).toNat = m + 1 by omega, refL] at hd
   have hm : nxt x % (m + 1) < m + 1 := Nat.mod_lt _ (by omega)
   have hn : nxt x ≤ 2147483646 := by unfold nxt; omega
   obtain ⟨j, hj⟩ : ∃ j, nxt x % (m + 1) = j := ⟨_, rfl⟩
   obtain ⟨y, hy⟩ : ∃ y, nxt x = y := ⟨_, rfl⟩
   rw [hj] at hm hd
   rw [hy] at hj hd hn
   repeat' (first | with_reducible refine am_ ?_ | ((with_reducible refine al_ ?_); first | ((with_reducible refine ak_ ?_); refine ac_ (ag_ rfl) ?_) | ((with_reducible refine ae_ ?_); refine ac_ (ad_ rfl) ?_) | ((with_reducible refine av_ ?_); first | refine ac_ (op_remN (742938285 * x) 2147483647 y rfl rfl (by omega) rfl (by omega) hy) ?_ | refine ac_ (op_remN y (m + 1) j rfl rfl rfl (by omega) (by omega) hj) ?_ | refine ac_ (aR_ rfl rfl (w64 (by omega) (by omega))) ?_ | refine ac_ (op_sub' rfl rfl (w64 (by omega) (by omega))) ?_ | refine ac_ (op_geq rfl rfl) ?_ | refine ac_ (op_mul' rfl rfl (w64 (by omega) (by omega))) ?_)) | ((with_reducible refine bL_ ?_); ((with_reducible refine bK_ ?_); first | ((with_reducible refine bI_ ?_); refine bn_ (af_ rfl) rfl rfl (aE_ rfl (ag_ rfl)) rfl rfl rfl ?_) | ((with_reducible refine bo_ ?_); first | refine bn_ (af_ rfl) rfl rfl (aE_ rfl (bF_ (o := m) rfl rfl Tryz.underlying25 zs3 (by omega) (by omega) (by omega))) rfl rfl rfl ?_ | refine bn_ (af_ rfl) rfl rfl (aE_ rfl (bF_ (o := j) rfl rfl Tryz.underlying25 zs3 (by omega) (by omega) (by omega))) rfl rfl rfl ?_) | ((with_reducible refine by_ ?_); refine bp_ (af_ rfl) rfl (aE_ rfl (op_ldI rfl z2_A Tryz.underlying3 rfl (by omega))) rfl rfl rfl ?_) | ((with_reducible refine cf_ ?_); refine wx_ee0 (af_ rfl) rfl rfl (op_stI rfl rfl z2_A zs3 (by first | omega | (rw [List.length_set]; omega))) rfl ?_) | with_reducible refine bN_ ?_ ?_)) | with_reducible exact bA_ | with_reducible refine bk_ ?_ ?_ | ((with_reducible refine bM_ ?_); first | exact bz_ | refine bx_ rfl ?_ | refine aB_ rfl rfl (aE_ rfl (op_ldI rfl z2_A Tryz.underlying3 rfl (by omega))) ?_) | (with_reducible first | refine ah_ ?_ | refine ao_ ?_ | refine ab_ ?_ | refine az_ ?_ | refine at_ ?_ | refine aP_ ?_) | refine bP_ rfl ?_ | refine wc_draw (id := 12) 16 [0, 0, 0, 0, 0, 0, 48, 112, 0, 0, 768, 1792, 4083, 8179, 16383, 32767] [0, 1, 2, 3, 4, 5, 6, 7, 8, 9, 10, 11, 12, 13, 14, 15] (by kernel_rfl) (by kernel_rfl) rfl rfl rfl ?_)
   refine aX_ ((m : Int) - 1, y, swp l m j) (by simp only; omega) (ai_ ⟨rfl, rfl, rfl, trivial⟩) ⟨z3_A, ?_, by simp only; rw [swp_len]; exact hl, by simp only; omega, by simp only; omega, hn, ?_⟩
   · unfold swp; exact z2_A
   · simp only; rw [show ((m : Int) - 1 + 1).toNat = m by omega]; exact hd
 · repeat' (first | with_reducible refine am_ ?_ | ((with_reducible refine al_ ?_); first | ((with_reducible refine ak_ ?_); refine ac_ (ag_ rfl) ?_) | ((with_reducible refine ae_ ?_); refine ac_ (ad_ rfl) ?_) | ((with_reducible refine av_ ?_); refine ac_ (op_geq rfl rfl) ?_)) | (with_reducible first | refine ah_ ?_ | refine ao_ ?_ | refine ab_ ?_ | refine aA_ ?_ | refine be_ ?_ | refine bf_ ?_ | refine bi_ ?_) | refine bS_ rfl ?_ | (refine aK_ rfl (fun hb => ?_) (fun hb => ?_) <;> (try simp only [bj_, reduceCtorEq] at hb) <;> (try (exfalso; omega))))
   refine rq1 rfl (fin (c := l) hgr (Sl.ofAt hat (by simp [hl]) (Nat.le_refl _)) ?_)
   rw [show (i + 1).toNat = 0 by omega] at hd
   exact hd
theorem c23 {v w : Value} {n m : Nat} {a b : List Int} (s : Sl G h 1 v n (a.map (.int .i64))) (t : Sl G h 1 w m (b.map (.int .i64))) (hn : n < 1000000) (hm : m < 1000000) : Cf (mz G) (.func (.func 23) #[] #[]) [v, w] h fun v h' => v = .bool (decide (a = b)) ∧ Grow h h' := by
 obtain ⟨aa, ac, rfl⟩ := s.form
 obtain ⟨ba, bc, rfl⟩ := t.form
 have hl := s.length
 have hl' := t.length
 simp at hl hl'
 by_cases hnm : n = m
 · subst hnm
   refine ar_ 26 [.tmp 4] Tryz.func23 rfl rfl rfl rfl ?_
   repeat' (first | with_reducible refine am_ ?_ | ((with_reducible refine al_ ?_); first | ((with_reducible refine ak_ ?_); refine ac_ (ag_ rfl) ?_) | ((with_reducible refine ae_ ?_); refine ac_ (ad_ rfl) ?_) | ((with_reducible refine aC_ ?_); refine ac_ (ax_ rfl Tryz.underlying25) ?_) | ((with_reducible refine av_ ?_); refine ac_ (bm_ rfl rfl) ?_)) | (with_reducible first | refine ah_ ?_ | refine ao_ ?_ | refine ab_ ?_ | refine az_ ?_ | refine at_ ?_) | (refine aK_ rfl (fun hb => ?_) (fun hb => ?_) <;> (try simp only [bj_, reduceCtorEq] at hb) <;> (try (exfalso; omega))))
   refine bq_ (fun k => n - k) (fun k : Nat => [(0, .slice aa n ac), (1, .slice ba n bc), (5, .int .i64 k)]) (fun k h' => Grow h h' ∧ k ≤ n ∧ a.take k = b.take k) 0 (ai_ ⟨rfl, rfl, rfl, trivial⟩) ⟨.refl _, Nat.zero_le _, rfl⟩ ?_
   rintro k h' ⟨hgr, hk, he⟩
   by_cases hlt : k < n
   · obtain ⟨ad, h1, h2⟩ := (s.grow hgr).addr (M := mz G) Tryz.underlying25 (es := 1) zs3 (i := k) (k := .i64) (by omega) (by omega)
     have h3 : acell G h' ad = some (.int .i64 (a[k]'(by omega))) := h2.get 0 _ (by simp)
     obtain ⟨bd, g1, g2⟩ := (t.grow hgr).addr (M := mz G) Tryz.underlying25 (es := 1) zs3 (i := k) (k := .i64) (by omega) (by omega)
     have g3 : acell G h' bd = some (.int .i64 (b[k]'(by omega))) := g2.get 0 _ (by simp)
     repeat' (first | with_reducible refine am_ ?_ | ((with_reducible refine al_ ?_); first | ((with_reducible refine ak_ ?_); refine ac_ (ag_ rfl) ?_) | ((with_reducible refine ae_ ?_); refine ac_ (ad_ rfl) ?_) | ((with_reducible refine aC_ ?_); refine ac_ (ax_ rfl Tryz.underlying25) ?_) | ((with_reducible refine av_ ?_); first | refine ac_ (aF_ rfl rfl) ?_ | refine ac_ (aR_ rfl rfl (w64 (by omega) (by omega))) ?_)) | ((with_reducible refine bL_ ?_); ((with_reducible refine bK_ ?_); first | ((with_reducible refine bI_ ?_); refine bn_ (af_ rfl) rfl rfl (aE_ rfl (ag_ rfl)) rfl rfl rfl ?_) | ((with_reducible refine bo_ ?_); first | refine bn_ (af_ rfl) rfl rfl (aE_ rfl (as_ rfl rfl h1)) rfl rfl rfl ?_ | refine bn_ (af_ rfl) rfl rfl (aE_ rfl (as_ rfl rfl g1)) rfl rfl rfl ?_) | ((with_reducible refine by_ ?_); first | refine bp_ (af_ rfl) rfl (aE_ rfl (aI_ rfl Tryz.underlying3 rfl h3)) rfl rfl rfl ?_ | refine bp_ (af_ rfl) rfl (aE_ rfl (aI_ rfl Tryz.underlying3 rfl g3)) rfl rfl rfl ?_) | ((with_reducible refine xk_bin ?_); refine bn_ (af_ rfl) rfl rfl (aE_ rfl (bm_ rfl rfl)) rfl rfl rfl ?_) | with_reducible refine bN_ ?_ ?_)) | with_reducible exact bA_ | with_reducible refine bk_ ?_ ?_ | ((with_reducible refine bM_ ?_); first | exact bz_ | refine aB_ rfl rfl (aE_ rfl (aI_ rfl Tryz.underlying3 rfl h3)) ?_ | refine aB_ rfl rfl (aE_ rfl (aI_ rfl Tryz.underlying3 rfl g3)) ?_) | (with_reducible first | refine ah_ ?_ | refine ao_ ?_ | refine ab_ ?_ | refine az_ ?_ | refine aA_ ?_ | refine at_ ?_ | refine aP_ ?_ | refine bV_ ?_ | refine bd_ ?_ | refine cx_ ?_) | (refine aK_ rfl (fun hb => ?_) (fun hb => ?_) <;> (try simp only [bj_, reduceCtorEq] at hb) <;> (try (exfalso; omega))) | refine wc_draw (id := 6) 9 [0, 0, 3, 7, 0, 0, 48, 112, 255] [0, 1, 2, 3, 4, 5, 6, 7, 8] (by kernel_rfl) (by kernel_rfl) rfl rfl rfl ?_)
     · refine rq1 rfl ⟨?_, z3_A⟩
       rw [decide_eq_false fun q => hb ?_]
       subst q; rfl
     · refine aX_ (k + 1) (by omega) (ai_ ⟨rfl, rfl, rfl, trivial⟩) ⟨z3_A, by omega, ?_⟩
       rw [List.take_succ_eq_append_getElem (by omega), List.take_succ_eq_append_getElem (by omega), he]
       congr 2
   · repeat' (first | with_reducible refine am_ ?_ | ((with_reducible refine al_ ?_); first | ((with_reducible refine ak_ ?_); refine ac_ (ag_ rfl) ?_) | ((with_reducible refine ae_ ?_); refine ac_ (ad_ rfl) ?_) | ((with_reducible refine aC_ ?_); refine ac_ (ax_ rfl Tryz.underlying25) ?_) | ((with_reducible refine av_ ?_); refine ac_ (aF_ rfl rfl) ?_)) | (with_reducible first | refine ah_ ?_ | refine ao_ ?_ | refine ab_ ?_ | refine aA_ ?_ | refine be_ ?_ | refine bf_ ?_ | refine bi_ ?_) | refine bS_ rfl ?_ | (refine aK_ rfl (fun hb => ?_) (fun hb => ?_) <;> (try simp only [bj_, reduceCtorEq] at hb) <;> (try (exfalso; omega))))
     refine rq1 rfl ⟨?_, hgr⟩
     rw [List.take_of_length_le (by omega), List.take_of_length_le (by omega)] at he
     rw [decide_eq_true he]
 · refine ar_ 26 [.tmp 4] Tryz.func23 rfl rfl rfl rfl ?_
   repeat' (first | with_reducible refine am_ ?_ | ((with_reducible refine al_ ?_); first | ((with_reducible refine ak_ ?_); refine ac_ (ag_ rfl) ?_) | ((with_reducible refine ae_ ?_); refine ac_ (ad_ rfl) ?_) | ((with_reducible refine aC_ ?_); refine ac_ (ax_ rfl Tryz.underlying25) ?_) | ((with_reducible refine av_ ?_); refine ac_ (bm_ rfl rfl) ?_)) | (with_reducible first | refine ah_ ?_ | refine ao_ ?_ | refine ab_ ?_ | refine aA_ ?_ | refine bd_ ?_) | (refine aK_ rfl (fun hb => ?_) (fun hb => ?_) <;> (try simp only [bj_, reduceCtorEq] at hb) <;> (try (exfalso; omega))))
   refine rq1 rfl ⟨?_, .refl _⟩
   rw [decide_eq_false fun q => hnm (by rw [← hl, ← hl', q])]
end Go.Proofs.YthnnndkfpamacaaGreatDoor
