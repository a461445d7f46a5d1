/- Tides: the level at a tick. -/
import Derived.Test.YtdfpadokepmknaaGreatDoorT1
set_option linter.all false
/- Tides: the level at a tick, by the reference. -/
namespace Go.Proofs.YtdfpadokepmknaaGreatDoor
open Go Go.Ab Go.Fl
attribute [local irreducible] SeqQ BlkQ LpQ RetQ Wc Wo WD WX Op1 Op1q Op1a Cf Cl From
attribute [local irreducible] Ieee.Format.order Ieee.Format.read Ieee.Format.nearest Ieee.Format.write Ieee.Format.mul Ieee.Format.div Ieee.Datum.order Ieee.Datum.integral smpE smp smpW K J U sumN lchk tchk trE hdrE appL undL undA undI wr ghoL rnd mulL dghL dghA rngE notN innL lowN lowD madeE pairE subL subF anyLarge subE remE difL rowE tidE errT
set_option maxRecDepth 10000
variable {G : Base} {h : H}

theorem eg103 : Tryz.prog.eqGuardType Tryz.prog.depth 103 = false := by kernel_rfl
theorem eqv103 (a b c d : Int) : eqV Tryz.prog 3 103 [.int .i64 a, .int .i64 b] [.int .i64 c, .int .i64 d] = some (decide (a = c) && (decide (b = d) && true)) := by kernel_rfl
theorem eq103 (a b : Int) : eqV Tryz.prog 3 103 [.int .i64 a, .int .i64 b] [.int .i64 a, .int .i64 b] = some true := by
  rw [eqv103]; simp
theorem ne103 {a b c d : Int} (h : a ≠ c) : eqV Tryz.prog 3 103 [.int .i64 a, .int .i64 b] [.int .i64 c, .int .i64 d] = some false := by
  rw [eqv103, decide_eq_false h]; rfl
theorem rng_ok {x lo hi : Int} (h : rngE x lo hi = 0) : lo ≤ x ∧ x ≤ hi := by
  unfold rngE at h
  split at h
  · exact absurd h (by decide)
  · omega
/-- Rows that are in order. -/
structure TidOk (ts : List (Int × Int)) : Prop where
  one : ts.length ≠ 0
  few : ts.length ≤ 16
  tick : ∀ i, i < ts.length → 0 ≤ (tdG ts i).1 ∧ (tdG ts i).1 ≤ 100000
  high : ∀ i, i < ts.length → -64 ≤ (tdG ts i).2 ∧ (tdG ts i).2 ≤ 64
  asc : ∀ i, i + 1 < ts.length → (tdG ts i).1 < (tdG ts (i + 1)).1
theorem errN_zero {f : Nat → Int} {n : Nat} (h : errN f n = 0) : ∀ k, k < n → f k = 0 := by
  induction n with
  | zero => intro k hk; omega
  | succ n ih =>
    have h1 : errN f n = 0 := Decidable.byContradiction fun q => q (by rw [← errN_hit (show n ≤ n + 1 by omega) q]; exact h)
    intro k hk
    by_cases q : k = n
    · rw [q, ← errN_next h1]; exact h
    · exact ih h1 k (by omega)
theorem tid_ok {ts : List (Int × Int)} (h : tidE ts = 0) : TidOk ts := by
  unfold tidE at h
  split at h
  · exact absurd h (by decide)
  split at h
  · exact absurd h (by decide)
  rename_i h0 h1
  have hz := errN_zero h
  have hr : ∀ i, i < ts.length → rowE (tdG ts i) = 0 := fun i hi => Decidable.byContradiction fun q => q (by rw [← errT_a q]; exact hz i hi)
  have hb : ∀ i, i < ts.length → rngE (tdG ts i).1 0 100000 = 0 ∧ rngE (tdG ts i).2 (-64) 64 = 0 := fun i hi => by
    have := hr i hi
    unfold rowE at this
    have z := firstNZ_zero this
    exact ⟨z _ (by simp), z _ (by simp)⟩
  refine ⟨h0, by omega, fun i hi => rng_ok (hb i hi).1, fun i hi => rng_ok (hb i hi).2, fun i hi => ?_⟩
  have := errT_b (hr (i + 1) hi) (by omega)
  rw [hz _ hi] at this
  by_cases q : (tdG ts (i + 1)).1 ≤ (tdG ts (i + 1 - 1)).1
  · rw [if_pos q] at this; exact absurd this (by decide)
  · rw [show i + 1 - 1 = i by omega] at q; omega
def lvN (ts : List (Int × Int)) (tick : Int) (i : Nat) : Int := (tdG ts (i - 1)).2 * ((tdG ts i).1 - (tdG ts (i - 1)).1) + ((tdG ts i).2 - (tdG ts (i - 1)).2) * (tick - (tdG ts (i - 1)).1)
def lvD (ts : List (Int × Int)) (i : Nat) : Int := (tdG ts i).1 - (tdG ts (i - 1)).1
/-- The level, if i rows are before the tick. -/
def lvl (ts : List (Int × Int)) (tick : Int) (i : Nat) : Int × Int :=
  if i = 0 then ((tdG ts 0).2, 1) else if i = ts.length then ((tdG ts (i - 1)).2, 1) else (lowN (lvN ts tick i) (lvD ts i), lowD (lvN ts tick i) (lvD ts i))
theorem low_mul {a d : Int} (hd : 0 < d) : lowN (a * d) d = a ∧ lowD (a * d) d = 1 := by
  have hg : Int.gcd (a * d) d = d.natAbs := by rw [Int.gcd_comm]; exact Int.gcd_eq_natAbs_left (Int.dvd_mul_left ..)
  unfold lowN lowD
  rw [hg, Int.natAbs_of_nonneg (by omega)]
  exact ⟨Int.mul_tdiv_cancel _ (by omega), Int.tdiv_self (by omega)⟩
theorem lvl_end {ts : List (Int × Int)} {tick : Int} {i : Nat} (ok : TidOk ts) (hi : i < ts.length) (ht : tick = (tdG ts i).1) : lvl ts tick i = ((tdG ts i).2, 1) := by
  unfold lvl
  by_cases h0 : i = 0
  · rw [if_pos h0, h0]
  rw [if_neg h0, if_neg (by omega)]
  have ha := ok.asc (i - 1) (by omega)
  rw [show i - 1 + 1 = i by omega] at ha
  have e : lvN ts tick i = (tdG ts i).2 * lvD ts i := by
    unfold lvN lvD
    rw [ht, Int.sub_mul]; omega
  have := low_mul (a := (tdG ts i).2) (d := lvD ts i) (by unfold lvD; omega)
  rw [e, this.1, this.2]
theorem lvl_next {ts : List (Int × Int)} {tick : Int} {i : Nat} (ok : TidOk ts) (hi : i < ts.length) (ht : tick = (tdG ts i).1) : lvl ts tick (i + 1) = ((tdG ts i).2, 1) := by
  unfold lvl
  rw [if_neg (by omega)]
  by_cases h0 : i + 1 = ts.length
  · rw [if_pos h0]; rfl
  rw [if_neg h0]
  have ha := ok.asc i (by omega)
  have e : lvN ts tick (i + 1) = (tdG ts i).2 * lvD ts (i + 1) := by
    unfold lvN lvD
    rw [show i + 1 - 1 = i by omega, ht]; simp
  have := low_mul (a := (tdG ts i).2) (d := lvD ts (i + 1)) (by unfold lvD; rw [show i + 1 - 1 = i by omega]; omega)
  rw [e, this.1, this.2]
theorem lvl_same {ts : List (Int × Int)} {tick : Int} {i j : Nat} (ok : TidOk ts) (hi : i ≤ ts.length) (hj : j ≤ ts.length) (h1 : ∀ k, k < i → (tdG ts k).1 < tick) (h2 : i = ts.length ∨ tick ≤ (tdG ts i).1)
    (h3 : ∀ k, k < j → (tdG ts k).1 ≤ tick) (h4 : j = ts.length ∨ tick < (tdG ts j).1) : lvl ts tick j = lvl ts tick i := by
  have hij : i ≤ j := Decidable.byContradiction fun q => by
    have a := h1 j (by omega)
    rcases h4 with b | b <;> omega
  by_cases q : i = j
  · rw [q]
  have a := h3 i (by omega)
  have hin : i < ts.length := by omega
  have b : tick = (tdG ts i).1 := by rcases h2 with b | b <;> omega
  have hj1 : j = i + 1 := Decidable.byContradiction fun r => by
    have c := h3 (i + 1) (by omega)
    have d := ok.asc i (by omega)
    omega
  rw [hj1, lvl_end ok hin b, lvl_next ok hin b]
end Go.Proofs.YtdfpadokepmknaaGreatDoor

/- Tides: the level at a tick, walked. -/
namespace Go.Proofs.YtdfpadokepmknaaGreatDoor
open Go Go.Ab Go.Fl
attribute [local irreducible] SeqQ BlkQ LpQ RetQ Wc Wo WD WX Op1 Op1q Op1a Cf Cl From
attribute [local irreducible] Ieee.Format.order Ieee.Format.read Ieee.Format.nearest Ieee.Format.write Ieee.Format.mul Ieee.Format.div Ieee.Datum.order Ieee.Datum.integral smpE smp smpW K J U sumN lchk tchk trE hdrE appL undL undA undI wr ghoL rnd mulL dghL dghA rngE notN innL lowN lowD madeE pairE subL subF anyLarge subE remE difL rowE tidE errT lvl lvN lvD
set_option maxRecDepth 10000
variable {G : Base} {h : H}

theorem wx_e02 {M : Mc} {ops : Array Oper} {rest : List Oper} {sz nx0 : Nat} {R : KL → H → Prop} {m i abs j1 j2 : Nat} {o1 o2 : AObj} {ms ix es' : List Nat} {l : KL} {g g1 : H} {v : Value} {sts : List Stage} {obs : List OB} {o : Oper} (hw : Wt ops o sz l true) (hc : cls M.P o.op = .e) (hes : ((es'.all fun x => m.testBit x) && Nat.beq (m ||| abs) m) = true) (h1 : unseen m abs j1 = true) (h2 : unseen m abs j2 = true) (hop : Op1 M o.op l ((g.set (nx0 + j1) o1).set (nx0 + j2) o2) v g1) (hdo : o.dst = none)
    (next : WX M ops nx0 sz R rest ms ix l g1 m (i :: es') [(j1, o1), (j2, o2)] (⟨g, abs, some i⟩ :: sts) obs) : WX M ops nx0 sz R (o :: rest) (m :: ms) (i :: ix) l g abs es' [(j1, o1), (j2, o2)] sts obs := wx_e0 hw hc hes (by simp only [addAs, h1, h2]) hop hdo next
theorem tdG_eq {ts : List (Int × Int)} {i : Nat} {x y : Int} (hx : (ts.getD i (0, 0)).1 = x) (hy : (ts.getD i (0, 0)).2 = y) : tdG ts i = (x, y) := by rw [← hx, ← hy]; rfl
theorem lvl_mid {ts : List (Int × Int)} {tick x y z w : Int} {i : Nat} (h0 : i ≠ 0) (hn : i ≠ ts.length) (e1 : tdG ts i = (x, y)) (e2 : tdG ts (i - 1) = (z, w)) : lvl ts tick i = (lowN (w * (x - z) + (y - w) * (tick - z)) (x - z), lowD (w * (x - z) + (y - w) * (tick - z)) (x - z)) := by
  unfold lvl lvN lvD
  rw [if_neg h0, if_neg hn, e1, e2]
theorem lvl_zero {ts : List (Int × Int)} {tick x y : Int} (e : tdG ts 0 = (x, y)) : lvl ts tick 0 = (y, 1) := by
  unfold lvl
  rw [if_pos rfl, e]
theorem lvl_full {ts : List (Int × Int)} {tick x y : Int} {n : Nat} (hl : n = ts.length) (hn : n ≠ 0) (e : tdG ts (n - 1) = (x, y)) : lvl ts tick n = (y, 1) := by
  unfold lvl
  rw [if_neg hn, if_pos hl, e]
def LevR (ts : List (Int × Int)) (tick : Int) (r : Value) : Prop :=
  ∃ i, i ≤ ts.length ∧ (∀ k, k < i → (tdG ts k).1 < tick) ∧ (i = ts.length ∨ tick ≤ (tdG ts i).1) ∧ r = ratV (lvl ts tick i).1 (lvl ts tick i).2
set_option maxHeartbeats 4000000 in
theorem c59 {v : Value} {n : Nat} {tick : Int} {ts : List (Int × Int)} (s : Sl G h 2 v n (ts.flatMap tidC)) (ok : TidOk ts) (ht0 : 0 ≤ tick) (ht1 : tick ≤ 100000) (hw : Wf h) : Cf (mz G) (.func (.func 59) #[] #[]) [v, .int .i64 tick] h fun r h' => LevR ts tick r ∧ Grow h h' := by
  obtain ⟨a, c, rfl⟩ := s.form
  have hl := s.length
  rw [tid_len] at hl
  have hl : n = ts.length := by omega
  have hn0 := ok.one
  have hn16 := ok.few
  refine cf_enter0 71 [.cell 4 65] Tryz.func59 rfl rfl rfl rfl ?_
  refine wc_mid (ι := Unit) (fun _ => [(0, .slice a n c), (1, .int .i64 tick), (4, .pointer (some ⟨h.nx, 0, some 0⟩))]) (fun _ h' => (Wf h' ∧ Grow h h') ∧ At h' h.nx (.cells [.int .i64 0, .int .i64 0] 65 2 false)) ?_ ?_
  · repeat' (first | with_reducible refine wo_nil ?_ | ((with_reducible refine wo_any ?_); ((with_reducible refine ik_alloc ?_); refine wo_op rfl (op_alloc zz65 zs65 rfl rfl rfl) rfl rfl ?_)) | with_reducible refine wc_region ?_)
    exact ⟨rfl, (), within_lk ⟨rfl, rfl, rfl, trivial⟩, ⟨wf_A, gr_A⟩, at_A⟩
  rintro _ ha ⟨⟨wa, ga⟩, aa⟩
  have la := aa.lt
  obtain ⟨ad, i1, i3⟩ := tid_at (s.grow ga) Tryz.underlying84 zs137 (i := 0) (q := 0) (by omega) rfl
  obtain ⟨x, hx⟩ : ∃ x, (ts.getD 0 (0, 0)).1 = x := ⟨_, rfl⟩
  obtain ⟨y, hy⟩ : ∃ y, (ts.getD 0 (0, 0)).2 = y := ⟨_, rfl⟩
  have e0 := tdG_eq hx hy
  rw [hx, hy] at i3
  have f0 := i3.get 0 _ rfl
  have f1 := i3.get 1 _ rfl
  by_cases c0 : tick ≤ x
  · have hlv := lvl_zero (tick := tick) e0
    repeat' (first | with_reducible refine wo_nil ?_ | ((with_reducible refine wo_any ?_); first | ((with_reducible refine ik_move ?_); refine wo_op rfl (op_move rfl) rfl rfl ?_) | ((with_reducible refine ik_indexAddr ?_); refine wo_op rfl (op_indexAddr rfl rfl i1) rfl rfl ?_) | ((with_reducible refine ik_load ?_); first | refine wo_op rfl (op_ldCell rfl Tryz.underlying3 rfl f0) rfl rfl ?_ | refine wo_op rfl (op_ldCell rfl Tryz.underlying3 rfl f1) rfl rfl ?_) | ((with_reducible refine ik_fieldAddr ?_); first | refine wo_op rfl (op_fieldAddr (o := 0) rfl Tryz.underlying137 rfl zs3 rfl) rfl rfl ?_ | refine wo_op rfl (op_fieldAddr (o := 1) rfl Tryz.underlying137 rfl zs3 rfl) rfl rfl ?_) | ((with_reducible refine ik_bin ?_); refine wo_op rfl (op_leq rfl rfl) rfl rfl ?_) | ((with_reducible refine ik_build ?_); refine wo_op rfl (op_buildT rfl zz65 zp65 rfl rfl) rfl rfl ?_) | ((with_reducible refine ik_store ?_); refine wo_op0 rfl (op_stAgg rfl rfl at_A zs65 rfl rfl rfl rfl) rfl ?_)) | with_reducible refine sq_norm ?_ | with_reducible refine wc_seq ?_ | with_reducible refine wc_region ?_ | with_reducible refine wc_ret ?_ | with_reducible refine sq_ret ?_ | (refine wc_if rfl (fun hb => ?_) (fun hb => dead_A hb); (try simp only [decide_eq_true_eq, decide_eq_false_iff_not, Bool.not_eq_true', Bool.not_eq_false', Int.not_lt, Int.not_le, Decidable.not_not, not_true_eq_false, not_false_eq_true, beq_self_eq_true, reduceCtorEq] at hb)))
    exact rqc1 rfl (ldAgg at_A Tryz.underlying65 rfl zs65 rfl rfl) ⟨⟨0, Nat.zero_le _, fun k hk => absurd hk (Nat.not_lt_zero _), .inr (by rw [e0]; exact c0), by rw [hlv]⟩, gr_A⟩
  repeat' (first | with_reducible refine wo_nil ?_ | ((with_reducible refine wo_any ?_); first | ((with_reducible refine ik_move ?_); refine wo_op rfl (op_move rfl) rfl rfl ?_) | ((with_reducible refine ik_assign ?_); refine wo_op rfl (op_assign rfl) rfl rfl ?_) | ((with_reducible refine ik_indexAddr ?_); refine wo_op rfl (op_indexAddr rfl rfl i1) rfl rfl ?_) | ((with_reducible refine ik_load ?_); refine wo_op rfl (op_ldCell rfl Tryz.underlying3 rfl f0) rfl rfl ?_) | ((with_reducible refine ik_fieldAddr ?_); refine wo_op rfl (op_fieldAddr (o := 0) rfl Tryz.underlying137 rfl zs3 rfl) rfl rfl ?_) | ((with_reducible refine ik_bin ?_); refine wo_op rfl (op_leq rfl rfl) rfl rfl ?_)) | with_reducible refine sq_norm ?_ | with_reducible refine wc_seq ?_ | with_reducible refine wc_region ?_ | with_reducible refine wc_skip ?_ | with_reducible refine wc_block ?_ | (refine wc_if rfl (fun hb => ?_) (fun hb => ?_) <;> (try simp only [decide_eq_true_eq, decide_eq_false_iff_not, Bool.not_eq_true', Bool.not_eq_false', Int.not_lt, Int.not_le, Decidable.not_not, not_true_eq_false, not_false_eq_true, beq_self_eq_true, reduceCtorEq] at hb) <;> (try (exfalso; omega))))
  refine wc_loop (fun k => n - k) (fun k : Nat => [(0, .slice a n c), (1, .int .i64 tick), (4, .pointer (some ⟨h.nx, 0, some 0⟩)), (5, .int .i64 k)]) (fun k h' => ((Wf h' ∧ Grow h h') ∧ At h' h.nx (.cells [.int .i64 0, .int .i64 0] 65 2 false)) ∧ (1 ≤ k ∧ k ≤ n) ∧ ∀ i, i < k → (tdG ts i).1 < tick) 1 (within_lk ⟨rfl, rfl, rfl, rfl, trivial⟩) ⟨⟨⟨wf_A, gr_A⟩, at_A⟩, ⟨Nat.le_refl _, by omega⟩, fun i hi => by rw [show i = 0 by omega, e0]; show x < tick; omega⟩ ?_
  clear wa ga aa la ha i1 i3 f0 f1
  rintro k ha ⟨⟨⟨wa, ga⟩, aa⟩, ⟨hk1, hk⟩, hb4⟩
  have la := aa.lt
  by_cases hlt : k < n
  · obtain ⟨ad, i1, i3⟩ := tid_at (s.grow ga) Tryz.underlying84 zs137 (i := (k : Int)) (q := k) hlt rfl
    obtain ⟨bd, j1, j3⟩ := tid_at (s.grow ga) Tryz.underlying84 zs137 (i := (k : Int) - 1) (q := k - 1) (by omega) (by omega)
    obtain ⟨x2, hx2⟩ : ∃ x, (ts.getD k (0, 0)).1 = x := ⟨_, rfl⟩
    obtain ⟨y2, hy2⟩ : ∃ y, (ts.getD k (0, 0)).2 = y := ⟨_, rfl⟩
    obtain ⟨z, hzz⟩ : ∃ x, (ts.getD (k - 1) (0, 0)).1 = x := ⟨_, rfl⟩
    obtain ⟨w, hww⟩ : ∃ y, (ts.getD (k - 1) (0, 0)).2 = y := ⟨_, rfl⟩
    have e1 := tdG_eq hx2 hy2
    have e2 := tdG_eq hzz hww
    rw [hx2, hy2] at i3
    rw [hzz, hww] at j3
    have b1 := ok.tick k (by omega)
    have b2 := ok.high k (by omega)
    have b3 := ok.tick (k - 1) (by omega)
    have b4 := ok.high (k - 1) (by omega)
    have b5 := ok.asc (k - 1) (by omega)
    rw [show k - 1 + 1 = k by omega, e1, e2] at b5
    rw [e1] at b1 b2
    rw [e2] at b3 b4
    simp only at b1 b2 b3 b4 b5
    have qi := fun (h' : H) (g : Grow ha h') => (i3.grow g).all
    have qj := fun (h' : H) (g : Grow ha h') => (j3.grow g).all
    by_cases c1 : tick ≤ x2
    · have hlv := lvl_mid (tick := tick) (show k ≠ 0 by omega) (show k ≠ ts.length by omega) e1 e2
      have p1 := prod_bound (x := w) (y := x2 - z) (A := 64) (C := 100000) (by omega) (by omega)
      have p2 := prod_bound (x := y2 - w) (y := tick - z) (A := 128) (C := 100000) (by omega) (by omega)
      have o1 : IntKind.wrap .i64 (w * (x2 - z)) = w * (x2 - z) := w64 (by omega) (by omega)
      have o2 : IntKind.wrap .i64 ((y2 - w) * (tick - z)) = (y2 - w) * (tick - z) := w64 (by omega) (by omega)
      have q96 := fun (h' : H) (w' : Wf h') => c96 (G := G) (h := h') (a := w * (x2 - z) + (y2 - w) * (tick - z)) (b := x2 - z) (by omega) (by omega) (by omega) w'
      repeat' (first | with_reducible refine wo_nil ?_ | ((with_reducible refine wo_any ?_); first | ((with_reducible refine ik_move ?_); refine wo_op rfl (op_move rfl) rfl rfl ?_) | ((with_reducible refine ik_load ?_); refine wo_op rfl (op_ldAt rfl at_A Tryz.underlying3 rfl rfl) rfl rfl ?_) | ((with_reducible refine ik_bin ?_); first | refine wo_op rfl (op_mul' rfl rfl o1) rfl rfl ?_ | refine wo_op rfl (op_mul' rfl rfl o2) rfl rfl ?_ | refine wo_op rfl (op_leq rfl rfl) rfl rfl ?_ | refine wo_op rfl (op_lss rfl rfl) rfl rfl ?_ | refine wo_op rfl (op_sub' rfl rfl (w64 (by omega) (by omega))) rfl rfl ?_ | refine wo_op rfl (op_add' rfl rfl (w64 (by omega) (by omega))) rfl rfl ?_) | ((with_reducible refine ik_fieldAddr ?_); first | refine wo_op rfl (op_fieldAddr (o := 0) rfl Tryz.underlying137 rfl zs3 rfl) rfl rfl ?_ | refine wo_op rfl (op_fieldAddr (o := 1) rfl Tryz.underlying137 rfl zs3 rfl) rfl rfl ?_) | ((with_reducible refine ik_store ?_); refine wo_op0 rfl (op_stAgg rfl rfl at_A zs65 rfl rfl rfl rfl) rfl ?_) | ((with_reducible refine ik_callb ?_); refine wo_op rfl (op_lenSl rfl Tryz.underlying84) rfl rfl ?_) | ((with_reducible refine ik_callv ?_); (refine wo_call rfl rfl rfl rfl (q96 _ wf_A) rfl rfl ?_; rintro _ _ ⟨rfl, hq⟩; all_goals ((try (have hqn := hq.nx)); (try simp only [H.nx_push, H.nx_set, H.nx_bump] at hqn))))) | ((with_reducible refine xk_any ?_); first | ((with_reducible refine xk_as0 ?_); first | ((with_reducible refine xk_move ?_); refine wx_q (wt_none rfl) rfl rfl (op_q rfl (op_move rfl)) rfl rfl rfl ?_) | ((with_reducible refine xk_indexAddr ?_); first | refine wx_q (wt_none rfl) rfl rfl (op_q rfl (op_indexAddr rfl rfl i1)) rfl rfl rfl ?_ | refine wx_q (wt_none rfl) rfl rfl (op_q rfl (op_indexAddr rfl rfl j1)) rfl rfl rfl ?_) | ((with_reducible refine xk_load ?_); first | refine wx_h0 (wt_none rfl) rfl (op_q rfl (op_ldCells rfl Tryz.underlying137 rfl zs137 (qi _ gr_A))) rfl rfl rfl ?_ | refine wx_h0 (wt_none rfl) rfl (op_q rfl (op_ldCells rfl Tryz.underlying137 rfl zs137 (qj _ gr_A))) rfl rfl rfl ?_) | ((with_reducible refine xk_bin ?_); refine wx_q (wt_none rfl) rfl rfl (op_q rfl (op_sub' rfl rfl (w64 (by omega) (by omega)))) rfl rfl rfl ?_) | ((with_reducible refine xk_alloc ?_); refine wx_a0 (wt_none rfl) rfl (oa_alloc zz65 zs65 rfl rfl rfl) rfl rfl ?_)) | ((with_reducible refine xk_alloc ?_); refine wx_a (wt_none rfl) rfl rfl (oa_alloc zz65 zs65 rfl rfl rfl) rfl rfl rfl ?_) | ((with_reducible refine xk_store ?_); refine wx_e0n (wt_none rfl) rfl rfl rfl rfl (op_stAgg rfl rfl at_A zs65 rfl rfl rfl rfl) rfl ?_) | refine wx_niln ?_ ?_ rfl rfl ?_) | with_reducible exact obl_nil | with_reducible refine obl_cons ?_ ?_ | ((with_reducible refine ik_obs ?_); first | exact obs_nil | refine obs_skip rfl ?_ | refine obs_chkn rfl rfl (op_q rfl (op_ldCells rfl Tryz.underlying137 rfl zs137 (qi _ gr_A))) ?_ | refine obs_chkn rfl rfl (op_q rfl (op_ldCells rfl Tryz.underlying137 rfl zs137 (qj _ gr_A))) ?_) | with_reducible exact stk_nil | with_reducible refine stk_cons ?_ ?_ | ((with_reducible refine ik_stk ?_); first | exact stk_abs rfl rfl | exact stk_freeB rfl rfl wf_A gr_B) | with_reducible refine sq_norm ?_ | with_reducible refine wc_seq ?_ | with_reducible refine wc_region ?_ | with_reducible refine wc_skip ?_ | with_reducible refine wc_ret ?_ | with_reducible refine wc_block ?_ | with_reducible refine bq_ret ?_ | with_reducible refine sq_ret ?_ | with_reducible refine lq_ret ?_ | (refine wc_if rfl (fun hb => ?_) (fun hb => dead_A hb); (try simp only [decide_eq_true_eq, decide_eq_false_iff_not, Bool.not_eq_true', Bool.not_eq_false', Int.not_lt, Int.not_le, Decidable.not_not, not_true_eq_false, not_false_eq_true, beq_self_eq_true, reduceCtorEq] at hb)) | refine wc_drawB (id := 6) 13 [0, 0, 2, 7, 15, 0, 0, 96, 224, 0, 0, 1567, 4095] [0, 1, 2, 3, 4, 5, 6, 7, 8, 9, 10, 11, 12] (by kernel_rfl) (by kernel_rfl) rfl rfl ?_ | ((with_reducible refine xk_any ?_); (with_reducible refine xk_store ?_); refine wx_e02 (wt_none rfl) rfl rfl rfl rfl (op_stAgg rfl rfl at_A zs137 rfl rfl rfl rfl) rfl ?_))
      exact rqc1 rfl (ldAgg at_A Tryz.underlying65 rfl zs65 rfl rfl) ⟨⟨k, by omega, hb4, .inr (by rw [e1]; exact c1), by rw [hlv]⟩, gr_A⟩
    · repeat' (first | with_reducible refine wo_nil ?_ | ((with_reducible refine wo_any ?_); first | ((with_reducible refine ik_move ?_); refine wo_op rfl (op_move rfl) rfl rfl ?_) | ((with_reducible refine ik_assign ?_); refine wo_op rfl (op_assign rfl) rfl rfl ?_) | ((with_reducible refine ik_load ?_); refine wo_op rfl (op_ldAt rfl at_A Tryz.underlying3 rfl rfl) rfl rfl ?_) | ((with_reducible refine ik_fieldAddr ?_); refine wo_op rfl (op_fieldAddr (o := 0) rfl Tryz.underlying137 rfl zs3 rfl) rfl rfl ?_) | ((with_reducible refine ik_bin ?_); first | refine wo_op rfl (op_leq rfl rfl) rfl rfl ?_ | refine wo_op rfl (op_lss rfl rfl) rfl rfl ?_ | refine wo_op rfl (op_add' rfl rfl (w64 (by omega) (by omega))) rfl rfl ?_) | ((with_reducible refine ik_callb ?_); refine wo_op rfl (op_lenSl rfl Tryz.underlying84) rfl rfl ?_)) | ((with_reducible refine xk_any ?_); first | ((with_reducible refine xk_as0 ?_); first | ((with_reducible refine xk_move ?_); refine wx_q (wt_none rfl) rfl rfl (op_q rfl (op_move rfl)) rfl rfl rfl ?_) | ((with_reducible refine xk_indexAddr ?_); first | refine wx_q (wt_none rfl) rfl rfl (op_q rfl (op_indexAddr rfl rfl i1)) rfl rfl rfl ?_ | refine wx_q (wt_none rfl) rfl rfl (op_q rfl (op_indexAddr rfl rfl j1)) rfl rfl rfl ?_) | ((with_reducible refine xk_load ?_); first | refine wx_h0 (wt_none rfl) rfl (op_q rfl (op_ldCells rfl Tryz.underlying137 rfl zs137 (qi _ gr_A))) rfl rfl rfl ?_ | refine wx_h0 (wt_none rfl) rfl (op_q rfl (op_ldCells rfl Tryz.underlying137 rfl zs137 (qj _ gr_A))) rfl rfl rfl ?_) | ((with_reducible refine xk_alloc ?_); refine wx_a0 (wt_none rfl) rfl (oa_alloc zz65 zs65 rfl rfl rfl) rfl rfl ?_) | ((with_reducible refine xk_bin ?_); refine wx_q (wt_none rfl) rfl rfl (op_q rfl (op_sub' rfl rfl (w64 (by omega) (by omega)))) rfl rfl rfl ?_)) | ((with_reducible refine xk_alloc ?_); refine wx_a (wt_none rfl) rfl rfl (oa_alloc zz65 zs65 rfl rfl rfl) rfl rfl rfl ?_) | ((with_reducible refine xk_store ?_); refine wx_e0n (wt_none rfl) rfl rfl rfl rfl (op_stAgg rfl rfl at_A zs65 rfl rfl rfl rfl) rfl ?_) | refine wx_niln ?_ ?_ rfl rfl ?_) | with_reducible exact obl_nil | with_reducible refine obl_cons ?_ ?_ | ((with_reducible refine ik_obs ?_); first | exact obs_nil | refine obs_skip rfl ?_ | refine obs_chkn rfl rfl (op_q rfl (op_ldCells rfl Tryz.underlying137 rfl zs137 (qi _ gr_A))) ?_ | refine obs_chkn rfl rfl (op_q rfl (op_ldCells rfl Tryz.underlying137 rfl zs137 (qj _ gr_A))) ?_) | with_reducible exact stk_nil | with_reducible refine stk_cons ?_ ?_ | ((with_reducible refine ik_stk ?_); first | exact stk_abs rfl rfl | exact stk_freeB rfl rfl wf_A gr_B) | with_reducible refine sq_norm ?_ | with_reducible refine wc_seq ?_ | with_reducible refine wc_region ?_ | with_reducible refine wc_skip ?_ | with_reducible refine wc_block ?_ | with_reducible refine bq_norm ?_ | (refine wc_if rfl (fun hb => dead_A hb) (fun hb => ?_); (try simp only [decide_eq_true_eq, decide_eq_false_iff_not, Bool.not_eq_true', Bool.not_eq_false', Int.not_lt, Int.not_le, Decidable.not_not, not_true_eq_false, not_false_eq_true, beq_self_eq_true, reduceCtorEq] at hb)) | (refine wc_if rfl (fun hb => ?_) (fun hb => dead_A hb); (try simp only [decide_eq_true_eq, decide_eq_false_iff_not, Bool.not_eq_true', Bool.not_eq_false', Int.not_lt, Int.not_le, Decidable.not_not, not_true_eq_false, not_false_eq_true, beq_self_eq_true, reduceCtorEq] at hb)) | refine wc_drawB (id := 6) 13 [0, 0, 2, 7, 15, 0, 0, 96, 224, 0, 0, 1567, 4095] [0, 1, 2, 3, 4, 5, 6, 7, 8, 9, 10, 11, 12] (by kernel_rfl) (by kernel_rfl) rfl rfl ?_ | ((with_reducible refine xk_any ?_); (with_reducible refine xk_store ?_); refine wx_e02 (wt_none rfl) rfl rfl rfl rfl (op_stAgg rfl rfl at_A zs137 rfl rfl rfl rfl) rfl ?_))
      exact lq_norm (k + 1) (by omega) (within_lk ⟨rfl, rfl, rfl, rfl, trivial⟩) ⟨⟨⟨wf_A, gr_A⟩, at_A⟩, ⟨by omega, by omega⟩, fun i hi => by
        by_cases q : i = k
        · rw [q, e1]; show x2 < tick; omega
        · exact hb4 i (by omega)⟩
  · have hin : k = n := by omega
    subst hin
    obtain ⟨ad, i1, i3⟩ := tid_at (s.grow ga) Tryz.underlying84 zs137 (i := (k : Int) - 1) (q := k - 1) (by omega) (by omega)
    obtain ⟨x2, hx2⟩ : ∃ x, (ts.getD (k - 1) (0, 0)).1 = x := ⟨_, rfl⟩
    obtain ⟨y2, hy2⟩ : ∃ y, (ts.getD (k - 1) (0, 0)).2 = y := ⟨_, rfl⟩
    have e1 := tdG_eq hx2 hy2
    rw [hx2, hy2] at i3
    have f1 := i3.get 1 _ rfl
    have hlv := lvl_full (tick := tick) hl (by omega) e1
    repeat' (first | with_reducible refine wo_nil ?_ | ((with_reducible refine wo_any ?_); first | ((with_reducible refine ik_move ?_); refine wo_op rfl (op_move rfl) rfl rfl ?_) | ((with_reducible refine ik_indexAddr ?_); refine wo_op rfl (op_indexAddr rfl rfl i1) rfl rfl ?_) | ((with_reducible refine ik_load ?_); refine wo_op rfl (op_ldCell rfl Tryz.underlying3 rfl f1) rfl rfl ?_) | ((with_reducible refine ik_fieldAddr ?_); refine wo_op rfl (op_fieldAddr (o := 1) rfl Tryz.underlying137 rfl zs3 rfl) rfl rfl ?_) | ((with_reducible refine ik_bin ?_); first | refine wo_op rfl (op_lss rfl rfl) rfl rfl ?_ | refine wo_op rfl (op_sub' rfl rfl (w64 (by omega) (by omega))) rfl rfl ?_) | ((with_reducible refine ik_build ?_); refine wo_op rfl (op_buildT rfl zz65 zp65 rfl rfl) rfl rfl ?_) | ((with_reducible refine ik_store ?_); refine wo_op0 rfl (op_stAgg rfl rfl at_A zs65 rfl rfl rfl rfl) rfl ?_) | ((with_reducible refine ik_callb ?_); refine wo_op rfl (op_lenSl rfl Tryz.underlying84) rfl rfl ?_)) | with_reducible refine sq_norm ?_ | with_reducible refine wc_seq ?_ | with_reducible refine wc_region ?_ | with_reducible refine wc_ret ?_ | with_reducible refine wc_exit ?_ | with_reducible refine sq_exit ?_ | with_reducible refine lq_exit ?_ | refine bq_eq rfl ?_ | (refine wc_if rfl (fun hb => dead_A hb) (fun hb => ?_); (try simp only [decide_eq_true_eq, decide_eq_false_iff_not, Bool.not_eq_true', Bool.not_eq_false', Int.not_lt, Int.not_le, Decidable.not_not, not_true_eq_false, not_false_eq_true, beq_self_eq_true, reduceCtorEq] at hb)))
    exact rqc1 rfl (ldAgg at_A Tryz.underlying65 rfl zs65 rfl rfl) ⟨⟨k, by omega, hb4, .inl hl, by rw [hlv]⟩, gr_A⟩
end Go.Proofs.YtdfpadokepmknaaGreatDoor

/- Tides: the level at a tick by the program, walked. -/
namespace Go.Proofs.YtdfpadokepmknaaGreatDoor
open Go Go.Ab Go.Fl
attribute [local irreducible] SeqQ BlkQ LpQ RetQ Wc Wo WD WX Op1 Op1q Op1a Cf Cl From
attribute [local irreducible] Ieee.Format.order Ieee.Format.read Ieee.Format.nearest Ieee.Format.write Ieee.Format.mul Ieee.Format.div Ieee.Datum.order Ieee.Datum.integral smpE smp smpW K J U sumN lchk tchk trE hdrE appL undL undA undI wr ghoL rnd mulL dghL dghA rngE notN innL lowN lowD madeE pairE subL subF anyLarge subE remE difL rowE tidE errT lvl lvN lvD
set_option maxRecDepth 10000
variable {G : Base} {h : H}

def LevP (ts : List (Int × Int)) (tick : Int) (r : Value) : Prop :=
  ∃ i, i ≤ ts.length ∧ (∀ k, k < i → (tdG ts k).1 ≤ tick) ∧ (i = ts.length ∨ tick < (tdG ts i).1) ∧ r = ratV (lvl ts tick i).1 (lvl ts tick i).2
set_option maxHeartbeats 4000000 in
theorem c101 {v : Value} {n : Nat} {tick : Int} {ts : List (Int × Int)} (s : Sl G h 2 v n (ts.flatMap tidC)) (ok : TidOk ts) (ht0 : 0 ≤ tick) (ht1 : tick ≤ 100000) (hw : Wf h) : Cf (mz G) (.func (.func 101) #[] #[]) [v, .int .i64 tick] h fun r h' => LevP ts tick r ∧ Grow h h' := by
  obtain ⟨a, c, rfl⟩ := s.form
  have hl := s.length
  rw [tid_len] at hl
  have hl : n = ts.length := by omega
  have hn0 := ok.one
  have hn16 := ok.few
  refine cf_enter0 64 [.cell 4 65] Tryz.func101 rfl rfl rfl rfl ?_
  refine wc_mid (ι := Unit) (fun _ => [(0, .slice a n c), (1, .int .i64 tick), (4, .pointer (some ⟨h.nx, 0, some 0⟩))]) (fun _ h' => (Wf h' ∧ Grow h h') ∧ At h' h.nx (.cells [.int .i64 0, .int .i64 0] 65 2 false)) ?_ ?_
  · repeat' (first | with_reducible refine wo_nil ?_ | ((with_reducible refine wo_any ?_); ((with_reducible refine ik_alloc ?_); refine wo_op rfl (op_alloc zz65 zs65 rfl rfl rfl) rfl rfl ?_)) | with_reducible refine wc_region ?_)
    exact ⟨rfl, (), within_lk ⟨rfl, rfl, rfl, trivial⟩, ⟨wf_A, gr_A⟩, at_A⟩
  rintro _ ha ⟨⟨wa, ga⟩, aa⟩
  have la := aa.lt
  obtain ⟨ad, i1, i3⟩ := tid_at (s.grow ga) Tryz.underlying87 zs103 (i := 0) (q := 0) (by omega) rfl
  obtain ⟨bd, j1, j3⟩ := tid_at (s.grow ga) Tryz.underlying87 zs103 (i := (n : Int) - 1) (q := n - 1) (by omega) (by omega)
  obtain ⟨x, hx⟩ : ∃ x, (ts.getD 0 (0, 0)).1 = x := ⟨_, rfl⟩
  obtain ⟨y, hy⟩ : ∃ y, (ts.getD 0 (0, 0)).2 = y := ⟨_, rfl⟩
  obtain ⟨z, hzz⟩ : ∃ x, (ts.getD (n - 1) (0, 0)).1 = x := ⟨_, rfl⟩
  obtain ⟨w, hww⟩ : ∃ y, (ts.getD (n - 1) (0, 0)).2 = y := ⟨_, rfl⟩
  have e0 := tdG_eq hx hy
  have el := tdG_eq hzz hww
  rw [hx, hy] at i3
  rw [hzz, hww] at j3
  have qi := fun (h' : H) (g : Grow ha h') => (i3.grow g).all
  have qj := fun (h' : H) (g : Grow ha h') => (j3.grow g).all
  repeat' (first | with_reducible refine wo_nil ?_ | ((with_reducible refine wo_any ?_); first | ((with_reducible refine ik_move ?_); refine wo_op rfl (op_move rfl) rfl rfl ?_) | ((with_reducible refine ik_callb ?_); refine wo_op rfl (op_lenSl rfl Tryz.underlying87) rfl rfl ?_)) | ((with_reducible refine xk_any ?_); first | ((with_reducible refine xk_as0 ?_); first | ((with_reducible refine xk_move ?_); refine wx_q (wt_none rfl) rfl rfl (op_q rfl (op_move rfl)) rfl rfl rfl ?_) | ((with_reducible refine xk_indexAddr ?_); first | refine wx_q (wt_none rfl) rfl rfl (op_q rfl (op_indexAddr rfl rfl i1)) rfl rfl rfl ?_ | refine wx_q (wt_none rfl) rfl rfl (op_q rfl (op_indexAddr rfl rfl j1)) rfl rfl rfl ?_) | ((with_reducible refine xk_load ?_); first | refine wx_h0 (wt_none rfl) rfl (op_q rfl (op_ldCells rfl Tryz.underlying103 rfl zs103 (qi _ gr_A))) rfl rfl rfl ?_ | refine wx_h0 (wt_none rfl) rfl (op_q rfl (op_ldCells rfl Tryz.underlying103 rfl zs103 (qj _ gr_A))) rfl rfl rfl ?_) | ((with_reducible refine xk_alloc ?_); refine wx_a0 (wt_none rfl) rfl (oa_alloc zz65 zs65 rfl rfl rfl) rfl rfl ?_) | ((with_reducible refine xk_callb ?_); refine wx_q (wt_none rfl) rfl rfl (op_q rfl (op_lenSl rfl Tryz.underlying87)) rfl rfl rfl ?_) | ((with_reducible refine xk_bin ?_); refine wx_q (wt_none rfl) rfl rfl (op_q rfl (op_sub' rfl rfl (w64 (by omega) (by omega)))) rfl rfl rfl ?_)) | ((with_reducible refine xk_alloc ?_); refine wx_a (wt_none rfl) rfl rfl (oa_alloc zz65 zs65 rfl rfl rfl) rfl rfl rfl ?_) | ((with_reducible refine xk_store ?_); refine wx_e0n (wt_none rfl) rfl rfl rfl rfl (op_stAgg rfl rfl at_A zs103 rfl rfl rfl rfl) rfl ?_) | refine wx_niln ?_ ?_ rfl rfl ?_) | with_reducible exact obl_nil | with_reducible refine obl_cons ?_ ?_ | ((with_reducible refine ik_obs ?_); first | exact obs_nil | refine obs_skip rfl ?_ | refine obs_chkn rfl rfl (op_q rfl (op_ldCells rfl Tryz.underlying103 rfl zs103 (qi _ gr_A))) ?_ | refine obs_chkn rfl rfl (op_q rfl (op_ldCells rfl Tryz.underlying103 rfl zs103 (qj _ gr_A))) ?_) | with_reducible exact stk_nil | with_reducible refine stk_cons ?_ ?_ | ((with_reducible refine ik_stk ?_); first | exact stk_abs rfl rfl | exact stk_freeB rfl rfl wf_A gr_B) | with_reducible refine sq_norm ?_ | with_reducible refine wc_seq ?_ | with_reducible refine wc_region ?_ | with_reducible refine wc_label ?_ | with_reducible refine wc_block ?_ | with_reducible refine wc_scope ?_ | refine wc_drawB (id := 1) 13 [0, 1, 3, 0, 0, 16, 48, 120, 248, 0, 0, 1543, 4095] [0, 1, 2, 3, 4, 5, 6, 7, 8, 9, 10, 11, 12] (by kernel_rfl) (by kernel_rfl) rfl rfl ?_ | ((with_reducible refine xk_any ?_); (with_reducible refine xk_store ?_); refine wx_e02 (wt_none rfl) rfl rfl rfl rfl (op_stAgg rfl rfl at_A zs103 rfl rfl rfl rfl) rfl ?_))
  refine wc_cut (ι := Nat × Nat) (fun i => [(0, .slice a n c), (1, .int .i64 tick), (4, .pointer (some ⟨h.nx, 0, some 0⟩)), (5, .pointer (some ⟨i.1, 0, some 0⟩)), (6, .pointer (some ⟨i.2, 0, some 0⟩)), (20, .slice a n c), (21, .int .i64 n), (22, .int .i64 0)]) (fun i h' => ((Wf h' ∧ Grow h h') ∧ At h' h.nx (.cells [.int .i64 0, .int .i64 0] 65 2 false)) ∧ (h.nx < i.1 ∧ i.1 < i.2) ∧ At h' i.1 (.cells [.int .i64 x, .int .i64 y] 103 2 false) ∧ At h' i.2 (.cells [.int .i64 z, .int .i64 w] 103 2 false)) (_, _) (within_lk ⟨rfl, rfl, rfl, rfl, rfl, rfl, rfl, rfl, trivial⟩) ⟨⟨⟨wf_A, gr_A⟩, at_A⟩, ⟨ne_A, ne_A⟩, at_A, at_A⟩ ?_
  clear wa ga aa la ha i1 i3 j1 j3 qi qj
  rintro ⟨A, B⟩ g0 ⟨⟨⟨wg, gg⟩, ag⟩, ⟨hA, hB⟩, aA, aB⟩
  simp only at hA hB aA aB ⊢
  refine wc_loop (fun k => n - k) (fun k : Nat => [(0, .slice a n c), (1, .int .i64 tick), (4, .pointer (some ⟨h.nx, 0, some 0⟩)), (5, .pointer (some ⟨A, 0, some 0⟩)), (6, .pointer (some ⟨B, 0, some 0⟩)), (20, .slice a n c), (21, .int .i64 n), (22, .int .i64 k)]) (fun k h' => ((Wf h' ∧ Grow h h') ∧ At h' h.nx (.cells [.int .i64 0, .int .i64 0] 65 2 false)) ∧ (k ≤ n ∧ ∀ i, i < k → (tdG ts i).1 ≤ tick) ∧ At h' A (.cells [.int .i64 (tdG ts (k - 1)).1, .int .i64 (tdG ts (k - 1)).2] 103 2 false) ∧ At h' B (.cells [.int .i64 z, .int .i64 w] 103 2 false)) 0 (within_lk ⟨rfl, rfl, rfl, rfl, rfl, rfl, rfl, rfl, trivial⟩) ⟨⟨⟨wg, gg⟩, ag⟩, ⟨Nat.zero_le _, fun i hi => absurd hi (Nat.not_lt_zero _)⟩, by rw [show tdG ts (0 - 1) = (x, y) from e0]; exact aA, aB⟩ ?_
  clear wg gg ag aA aB g0
  rintro k ha ⟨⟨⟨wa, ga⟩, aa⟩, ⟨hk, hb4⟩, aA, aB⟩
  have la := aa.lt
  have lA := aA.lt
  have lB := aB.lt
  by_cases hlt : k < n
  · obtain ⟨ad, i1, i3⟩ := tid_at (s.grow ga) Tryz.underlying87 zs103 (i := (k : Int)) (q := k) hlt rfl
    obtain ⟨x2, hx2⟩ : ∃ x, (ts.getD k (0, 0)).1 = x := ⟨_, rfl⟩
    obtain ⟨y2, hy2⟩ : ∃ y, (ts.getD k (0, 0)).2 = y := ⟨_, rfl⟩
    obtain ⟨p, hpp⟩ : ∃ x, (ts.getD (k - 1) (0, 0)).1 = x := ⟨_, rfl⟩
    obtain ⟨q, hqq⟩ : ∃ y, (ts.getD (k - 1) (0, 0)).2 = y := ⟨_, rfl⟩
    have e1 := tdG_eq hx2 hy2
    have e2 := tdG_eq hpp hqq
    rw [hx2, hy2] at i3
    rw [e2] at aA
    simp only at aA
    have b1 := ok.tick k (by omega)
    have b2 := ok.high k (by omega)
    have b3 := ok.tick (k - 1) (by omega)
    have b4 := ok.high (k - 1) (by omega)
    rw [e1] at b1 b2
    rw [e2] at b3 b4
    simp only at b1 b2 b3 b4
    have qi := fun (h' : H) (g : Grow ha h') => (i3.grow g).all
    by_cases c1 : tick < x2
    · by_cases hk0 : k = 0
      · subst hk0
        have hxy : x2 = p ∧ y2 = q := by rw [← hx2, ← hy2, ← hpp, ← hqq]; exact ⟨rfl, rfl⟩
        obtain ⟨rfl, rfl⟩ := hxy
        have hlv := lvl_zero (tick := tick) e1
        repeat' (first | with_reducible refine wo_nil ?_ | ((with_reducible refine wo_any ?_); first | ((with_reducible refine ik_move ?_); refine wo_op rfl (op_move rfl) rfl rfl ?_) | ((with_reducible refine ik_assign ?_); refine wo_op rfl (op_assign rfl) rfl rfl ?_) | ((with_reducible refine ik_indexAddr ?_); refine wo_op rfl (op_indexAddr rfl rfl i1) rfl rfl ?_) | ((with_reducible refine ik_load ?_); first | refine wo_op rfl (op_ldCells rfl Tryz.underlying103 rfl zs103 (qi _ gr_A)) rfl rfl ?_ | refine wo_op rfl (op_ldAgg rfl at_A Tryz.underlying103 rfl zs103 rfl rfl) rfl rfl ?_ | refine wo_op rfl (op_ldAt rfl at_A Tryz.underlying3 rfl rfl) rfl rfl ?_) | ((with_reducible refine ik_bin ?_); first | refine wo_op rfl (op_eqT 3 rfl rfl rfl Tryz.underlying103 rfl eg103 (eq103 _ _)) rfl rfl ?_ | refine wo_op rfl (op_lss rfl rfl) rfl rfl ?_ | refine wo_op rfl (op_gtr rfl rfl) rfl rfl ?_) | ((with_reducible refine ik_alloc ?_); refine wo_op rfl (op_alloc zz65 zs65 rfl rfl rfl) rfl rfl ?_) | ((with_reducible refine ik_store ?_); refine wo_op0 rfl (op_stAgg rfl rfl at_A zs103 rfl rfl rfl rfl) rfl ?_) | ((with_reducible refine ik_fieldAddr ?_); first | refine wo_op rfl (op_fieldAddr (o := 0) rfl Tryz.underlying103 rfl zs3 rfl) rfl rfl ?_ | refine wo_op rfl (op_fieldAddr (o := 1) rfl Tryz.underlying103 rfl zs3 rfl) rfl rfl ?_) | ((with_reducible refine ik_build ?_); refine wo_op rfl (op_buildT rfl zz65 zp65 rfl rfl) rfl rfl ?_)) | with_reducible refine sq_norm ?_ | with_reducible refine wc_seq ?_ | with_reducible refine wc_region ?_ | with_reducible refine wc_skip ?_ | with_reducible refine wc_ret ?_ | with_reducible refine wc_exit ?_ | with_reducible refine wc_block ?_ | with_reducible refine sq_ret ?_ | with_reducible refine sq_exit ?_ | with_reducible refine lq_exit ?_ | refine bq_eq rfl ?_ | refine bq_ne rfl ?_ | refine wc_ift rfl ?_ | (refine wc_if rfl (fun hb => ?_) (fun hb => dead_A hb); (try simp only [decide_eq_true_eq, decide_eq_false_iff_not, Bool.not_eq_true', Bool.not_eq_false', Int.not_lt, Int.not_le, Decidable.not_not, not_true_eq_false, not_false_eq_true, beq_self_eq_true, reduceCtorEq] at hb)))
        exact rqc1 rfl (ldAgg at_A Tryz.underlying65 rfl zs65 rfl rfl) ⟨⟨0, Nat.zero_le _, hb4, .inr (by rw [e1]; exact c1), by rw [hlv]⟩, gr_A⟩
      · have b5 := ok.asc (k - 1) (by omega)
        rw [show k - 1 + 1 = k by omega, e1, e2] at b5
        simp only at b5
        have b6 := hb4 (k - 1) (by omega)
        rw [e2] at b6
        simp only at b6
        have hlv := lvl_mid (tick := tick) (show k ≠ 0 by omega) (show k ≠ ts.length by omega) e1 e2
        have p1 := prod_bound (x := q) (y := x2 - p) (A := 64) (C := 100000) (by omega) (by omega)
        have p2 := prod_bound (x := y2 - q) (y := tick - p) (A := 128) (C := 100000) (by omega) (by omega)
        have o1 : IntKind.wrap .i64 (q * (x2 - p)) = q * (x2 - p) := w64 (by omega) (by omega)
        have o2 : IntKind.wrap .i64 ((y2 - q) * (tick - p)) = (y2 - q) * (tick - p) := w64 (by omega) (by omega)
        have hne : p ≠ x2 := by omega
        have q94 := fun (h' : H) (w' : Wf h') => c94 (G := G) (h := h') (a := q * (x2 - p) + (y2 - q) * (tick - p)) (b := x2 - p) (by omega) (by omega) (by omega) w'
        repeat' (first | with_reducible refine wo_nil ?_ | ((with_reducible refine wo_any ?_); first | ((with_reducible refine ik_move ?_); refine wo_op rfl (op_move rfl) rfl rfl ?_) | ((with_reducible refine ik_assign ?_); refine wo_op rfl (op_assign rfl) rfl rfl ?_) | ((with_reducible refine ik_indexAddr ?_); refine wo_op rfl (op_indexAddr rfl rfl i1) rfl rfl ?_) | ((with_reducible refine ik_load ?_); first | refine wo_op rfl (op_ldCells rfl Tryz.underlying103 rfl zs103 (qi _ gr_A)) rfl rfl ?_ | refine wo_op rfl (op_ldAgg rfl at_A Tryz.underlying103 rfl zs103 rfl rfl) rfl rfl ?_ | refine wo_op rfl (op_ldAt rfl at_A Tryz.underlying3 rfl rfl) rfl rfl ?_) | ((with_reducible refine ik_bin ?_); first | refine wo_op rfl (op_eqT 3 rfl rfl rfl Tryz.underlying103 rfl eg103 (ne103 hne)) rfl rfl ?_ | refine wo_op rfl (op_mul' rfl rfl o1) rfl rfl ?_ | refine wo_op rfl (op_mul' rfl rfl o2) rfl rfl ?_ | refine wo_op rfl (op_sub' rfl rfl (w64 (by omega) (by omega))) rfl rfl ?_ | refine wo_op rfl (op_lss rfl rfl) rfl rfl ?_ | refine wo_op rfl (op_gtr rfl rfl) rfl rfl ?_ | refine wo_op rfl (op_add' rfl rfl (w64 (by omega) (by omega))) rfl rfl ?_) | ((with_reducible refine ik_alloc ?_); refine wo_op rfl (op_alloc zz65 zs65 rfl rfl rfl) rfl rfl ?_) | ((with_reducible refine ik_store ?_); refine wo_op0 rfl (op_stAgg rfl rfl at_A zs103 rfl rfl rfl rfl) rfl ?_) | ((with_reducible refine ik_fieldAddr ?_); first | refine wo_op rfl (op_fieldAddr (o := 0) rfl Tryz.underlying103 rfl zs3 rfl) rfl rfl ?_ | refine wo_op rfl (op_fieldAddr (o := 1) rfl Tryz.underlying103 rfl zs3 rfl) rfl rfl ?_) | ((with_reducible refine ik_build ?_); refine wo_op rfl (op_buildT rfl zz65 zp65 rfl rfl) rfl rfl ?_) | ((with_reducible refine ik_callv ?_); (refine wo_call rfl rfl rfl rfl (q94 _ wf_A) rfl rfl ?_; rintro _ _ ⟨rfl, hq⟩; all_goals ((try (have hqn := hq.nx)); (try simp only [H.nx_push, H.nx_set, H.nx_bump] at hqn))))) | with_reducible refine sq_norm ?_ | with_reducible refine wc_seq ?_ | with_reducible refine wc_region ?_ | with_reducible refine wc_skip ?_ | with_reducible refine wc_ret ?_ | with_reducible refine wc_exit ?_ | with_reducible refine wc_block ?_ | with_reducible refine sq_exit ?_ | with_reducible refine lq_exit ?_ | refine bq_eq rfl ?_ | refine bq_ne rfl ?_ | refine wc_iff rfl ?_ | (refine wc_if rfl (fun hb => ?_) (fun hb => dead_A hb); (try simp only [decide_eq_true_eq, decide_eq_false_iff_not, Bool.not_eq_true', Bool.not_eq_false', Int.not_lt, Int.not_le, Decidable.not_not, not_true_eq_false, not_false_eq_true, beq_self_eq_true, reduceCtorEq] at hb)))
        exact rqc1 rfl (ldAgg at_A Tryz.underlying65 rfl zs65 rfl rfl) ⟨⟨k, by omega, hb4, .inr (by rw [e1]; exact c1), by rw [hlv]⟩, gr_A⟩
    · repeat' (first | with_reducible refine wo_nil ?_ | ((with_reducible refine wo_any ?_); first | ((with_reducible refine ik_move ?_); refine wo_op rfl (op_move rfl) rfl rfl ?_) | ((with_reducible refine ik_assign ?_); refine wo_op rfl (op_assign rfl) rfl rfl ?_) | ((with_reducible refine ik_indexAddr ?_); refine wo_op rfl (op_indexAddr rfl rfl i1) rfl rfl ?_) | ((with_reducible refine ik_load ?_); first | refine wo_op rfl (op_ldCells rfl Tryz.underlying103 rfl zs103 (qi _ gr_A)) rfl rfl ?_ | refine wo_op rfl (op_ldAgg rfl at_A Tryz.underlying103 rfl zs103 rfl rfl) rfl rfl ?_ | refine wo_op rfl (op_ldAt rfl at_A Tryz.underlying3 rfl rfl) rfl rfl ?_) | ((with_reducible refine ik_alloc ?_); refine wo_op rfl (op_alloc zz65 zs65 rfl rfl rfl) rfl rfl ?_) | ((with_reducible refine ik_bin ?_); first | refine wo_op rfl (op_lss rfl rfl) rfl rfl ?_ | refine wo_op rfl (op_gtr rfl rfl) rfl rfl ?_ | refine wo_op rfl (op_add' rfl rfl (w64 (by omega) (by omega))) rfl rfl ?_) | ((with_reducible refine ik_store ?_); refine wo_op0 rfl (op_stAgg rfl rfl at_A zs103 rfl rfl rfl rfl) rfl ?_) | ((with_reducible refine ik_fieldAddr ?_); refine wo_op rfl (op_fieldAddr (o := 0) rfl Tryz.underlying103 rfl zs3 rfl) rfl rfl ?_)) | with_reducible refine sq_norm ?_ | with_reducible refine wc_seq ?_ | with_reducible refine wc_region ?_ | with_reducible refine wc_skip ?_ | with_reducible refine wc_block ?_ | with_reducible refine bq_norm ?_ | (refine wc_if rfl (fun hb => dead_A hb) (fun hb => ?_); (try simp only [decide_eq_true_eq, decide_eq_false_iff_not, Bool.not_eq_true', Bool.not_eq_false', Int.not_lt, Int.not_le, Decidable.not_not, not_true_eq_false, not_false_eq_true, beq_self_eq_true, reduceCtorEq] at hb)) | (refine wc_if rfl (fun hb => ?_) (fun hb => dead_A hb); (try simp only [decide_eq_true_eq, decide_eq_false_iff_not, Bool.not_eq_true', Bool.not_eq_false', Int.not_lt, Int.not_le, Decidable.not_not, not_true_eq_false, not_false_eq_true, beq_self_eq_true, reduceCtorEq] at hb)))
      exact lq_norm (k + 1) (by omega) (within_lk ⟨rfl, rfl, rfl, rfl, rfl, rfl, rfl, rfl, trivial⟩) ⟨⟨⟨wf_A, gr_A⟩, at_A⟩, ⟨by omega, fun i hi => by
        by_cases r : i = k
        · rw [r, e1]; show x2 ≤ tick; omega
        · exact hb4 i (by omega)⟩, by rw [show k + 1 - 1 = k by omega, e1]; exact at_A, at_A⟩
  · have hin : k = n := by omega
    subst hin
    rw [el] at aA
    simp only at aA
    have hlv := lvl_full (tick := tick) hl (by omega) el
    repeat' (first | with_reducible refine wo_nil ?_ | ((with_reducible refine wo_any ?_); first | ((with_reducible refine ik_bin ?_); first | refine wo_op rfl (op_eqT 3 rfl rfl rfl Tryz.underlying103 rfl eg103 (eq103 _ _)) rfl rfl ?_ | refine wo_op rfl (op_lss rfl rfl) rfl rfl ?_) | ((with_reducible refine ik_load ?_); first | refine wo_op rfl (op_ldAgg rfl at_A Tryz.underlying103 rfl zs103 rfl rfl) rfl rfl ?_ | refine wo_op rfl (op_ldAt rfl at_A Tryz.underlying3 rfl rfl) rfl rfl ?_) | ((with_reducible refine ik_store ?_); refine wo_op0 rfl (op_stAgg rfl rfl at_A zs103 rfl rfl rfl rfl) rfl ?_) | ((with_reducible refine ik_fieldAddr ?_); refine wo_op rfl (op_fieldAddr (o := 1) rfl Tryz.underlying103 rfl zs3 rfl) rfl rfl ?_) | ((with_reducible refine ik_build ?_); refine wo_op rfl (op_buildT rfl zz65 zp65 rfl rfl) rfl rfl ?_)) | with_reducible refine sq_norm ?_ | with_reducible refine wc_seq ?_ | with_reducible refine wc_region ?_ | with_reducible refine wc_ret ?_ | with_reducible refine wc_exit ?_ | with_reducible refine sq_ret ?_ | with_reducible refine sq_exit ?_ | with_reducible refine lq_exit ?_ | refine bq_eq rfl ?_ | refine wc_ift rfl ?_ | (refine wc_if rfl (fun hb => dead_A hb) (fun hb => ?_); (try simp only [decide_eq_true_eq, decide_eq_false_iff_not, Bool.not_eq_true', Bool.not_eq_false', Int.not_lt, Int.not_le, Decidable.not_not, not_true_eq_false, not_false_eq_true, beq_self_eq_true, reduceCtorEq] at hb)))
    exact rqc1 rfl (ldAgg at_A Tryz.underlying65 rfl zs65 rfl rfl) ⟨⟨k, by omega, hb4, .inl hl, by rw [hlv]⟩, gr_A⟩
end Go.Proofs.YtdfpadokepmknaaGreatDoor
