/- Survey: windows both ways, with their errors. -/
import Derived.Test.YtlioomhcdlicmaaGreatDoorC8
import Derived.Test.YtlioomhcdlicmaaGreatDoorL0
set_option linter.all false
/- Survey: windows both ways. -/
namespace Go.Proofs.YtlioomhcdlicmaaGreatDoor
open Go Go.Ab Go.Fl
attribute [local irreducible] SeqQ BlkQ LpQ RetQ Wc Wo WD WX Op1 Op1q Op1a Cf Cl From
attribute [local irreducible] Ieee.Format.order Ieee.Format.read Ieee.Format.nearest Ieee.Format.write Ieee.Format.mul Ieee.Format.div Ieee.Format.sqrt Ieee.Datum.order Ieee.Datum.integral K U rngE errN ptE firstNZ vesE watE sgE sgsE allE hitB sqD insB qsL lvl rn rl
set_option maxRecDepth 10000
variable {G : Base} {h : H}

attribute [local irreducible] fl silN insN levN inL leL
theorem qt_ge {g : Nat → Bool} : ∀ (K t : Nat), (∀ j, t ≤ j → j < K → g j = true) → K ≤ t + qt (fun k => !g k) K
  | 0, t, _ => by omega
  | K + 1, t, hh => by
    by_cases q : t ≤ K
    · have ih := qt_ge K t (fun j a b => hh j a (by omega))
      rw [qt, hh K q (by omega)]
      simp only [Bool.not_true, Bool.false_eq_true, if_false]
      omega
    · omega
theorem win_start {g : Nat → Bool} {T N t : Nat} (hN : 1 ≤ N) (hT : t + N ≤ T) (hg : ∀ j, t ≤ j → j < t + N → g j = true) (hno : ∀ s, s < t → ∃ j, s ≤ j ∧ j < s + N ∧ g j = false) : winAt g T N (t + N - 1) := by
  have no : ∀ k, k + 1 < t + N → qt (fun k => !g k) (k + 1) < N := fun k hk => by
    refine Nat.lt_of_not_le fun q => ?_
    have q2 := qt_le (fun k => !g k) (k + 1)
    obtain ⟨j, a, b, c⟩ := hno (k + 1 - N) (by omega)
    have := qt_run (g := g) (k + 1) j (by omega) (by omega)
    rw [c] at this; cases this
  have e : t + N - 1 + 1 = t + N := by omega
  refine ⟨by omega, ?_, fun k hk => Nat.ne_of_lt (no k (by omega))⟩
  rw [e]
  have h1 := qt_ge (g := g) (t + N) t hg
  have h2 : qt (fun k => !g k) (t + N) ≤ N := by
    have s := qt_step (fun k => !g k) (t + N - 1)
    rw [e] at s
    by_cases z : t + N - 1 = 0
    · rw [z, qt] at s; omega
    · have := no (t + N - 1 - 1) (by omega)
      rw [show t + N - 1 - 1 + 1 = t + N - 1 by omega] at this
      omega
  omega
theorem win_none {g : Nat → Bool} {T N K : Nat} (hh : winAt g T N K) : ∃ t, t + N ≤ T ∧ t + N = K + 1 ∧ ∀ j, t ≤ j → j < t + N → g j = true := by
  have q2 := qt_le (fun k => !g k) (K + 1)
  rw [hh.2.1] at q2
  have := hh.1
  exact ⟨K + 1 - N, by omega, by omega, fun j a b => win_in hh (by omega) (by omega)⟩
/-- What a window is, with its error. -/
def winR (g : Nat → Bool) (T : Nat) (E tk a e : Int) : Prop := (E ≠ 0 ∧ a = 0 ∧ e = E) ∨ (E = 0 ∧ ((a = 0 ∧ e = 7 ∧ ∀ K, ¬winAt g T tk.toNat K) ∨ (e = 0 ∧ ∃ K, winAt g T tk.toNat K ∧ a = (K : Int) + 1 - tk)))
theorem winR_one {g : Nat → Bool} {T : Nat} {E tk a e a' e' : Int} (h1 : winR g T E tk a e) (h2 : winR g T E tk a' e') : a = a' ∧ e = e' := by
  rcases h1 with ⟨p, rfl, rfl⟩ | ⟨p, q⟩
  · rcases h2 with ⟨_, rfl, rfl⟩ | ⟨p2, _⟩
    · exact ⟨rfl, rfl⟩
    · exact absurd p2 p
  · rcases h2 with ⟨p2, _, _⟩ | ⟨_, q2⟩
    · exact absurd p p2
    · rcases q with ⟨rfl, rfl, n1⟩ | ⟨rfl, K, w1, rfl⟩
      · rcases q2 with ⟨rfl, rfl, _⟩ | ⟨_, K, w, _⟩
        · exact ⟨rfl, rfl⟩
        · exact absurd w (n1 K)
      · rcases q2 with ⟨_, _, n1⟩ | ⟨rfl, K', w2, rfl⟩
        · exact absurd w1 (n1 K)
        · have a1 : K ≤ K' := by
            by_cases q : K' < K
            · exact absurd w2.2.1 (w1.2.2 K' q)
            · omega
          have a2 : K' ≤ K := by
            by_cases q : K < K'
            · exact absurd w1.2.1 (w2.2.2 K q)
            · omega
          exact ⟨by omega, rfl⟩
theorem c142 {k : Int} {v : Value} {n : Nat} {l : List Spn} (s : Sl G h 2 v n (l.flatMap Spn.cells)) (hl : l.length = n) (hn : n < 1000000) (hw : Wf h) :
    Cf (mz G) (.func (.func 142) #[] #[]) [v, .int .i64 k] h fun r h' => r = .bool (l.any (inP k)) ∧ Grow h h' := by
  obtain ⟨a, c, rfl⟩ := s.form
  refine cf_enter0 28 [.tmp 4] Tryz.func142 rfl rfl rfl rfl ?_
  repeat' (first | with_reducible refine wo_nil ?_ | ((with_reducible refine wo_any ?_); ((with_reducible refine ik_assign ?_); refine wo_op rfl (op_assign rfl) rfl rfl ?_)) | with_reducible refine sq_norm ?_ | with_reducible refine wc_seq ?_ | with_reducible refine wc_region ?_ | with_reducible refine wc_block ?_)
  refine wc_loop (fun i => n - i) (fun i : Nat => [(0, .slice a n c), (1, .int .i64 k), (5, .int .i64 i)]) (fun i h' => (Wf h' ∧ Grow h h') ∧ i ≤ n ∧ (l.drop i).any (inP k) = l.any (inP k)) 0 (within_lk ⟨rfl, rfl, rfl, trivial⟩) ⟨⟨wf_A, gr_A⟩, Nat.zero_le _, rfl⟩ ?_
  rintro i h1 ⟨⟨w1, g1⟩, hi, hp⟩
  have n1 := g1.nx
  by_cases hlt : i < n
  · obtain ⟨id, i1, i3⟩ := rl_at Spn.len ⟨0, 0⟩ (s.grow g1) hl Tryz.underlying52 zs79 (i := (i : Int)) hlt rfl
    rw [any_next ⟨0, 0⟩ (by omega)] at hp
    obtain ⟨x0, hx⟩ : ∃ x, l.getD i ⟨0, 0⟩ = x := ⟨_, rfl⟩
    rw [hx] at i3 hp
    obtain ⟨f, t⟩ := x0
    have hP : inP k ⟨f, t⟩ = decide (f ≤ k ∧ k < t) := rfl
    rw [hP] at hp
    clear hx hP
    have jf := fun (h' : H) (g' : Grow h1 h') => (show acell G h' (aadd id 0) = some (.int .i64 f) from (i3 h' g').get 0 _ rfl)
    have jt := fun (h' : H) (g' : Grow h1 h') => (show acell G h' (aadd id 1) = some (.int .i64 t) from (i3 h' g').get 1 _ rfl)
    clear i3
    by_cases h1' : f ≤ k
    · by_cases h2' : k < t
      · rw [decide_eq_true ⟨h1', h2'⟩, Bool.true_or] at hp
        rw [← hp]
        clear hp
        repeat' (first | with_reducible refine wo_nil ?_ | ((with_reducible refine wo_any ?_); first | ((with_reducible refine ik_move ?_); refine wo_op rfl (op_move rfl) rfl rfl ?_) | ((with_reducible refine ik_assign ?_); refine wo_op rfl (op_assign rfl) rfl rfl ?_) | ((with_reducible refine ik_indexAddr ?_); refine wo_op rfl (op_indexAddr rfl rfl i1) rfl rfl ?_) | ((with_reducible refine ik_load ?_); refine wo_op rfl (op_ldCell rfl Tryz.underlying3 rfl (jf _ gr_A)) rfl rfl ?_) | ((with_reducible refine ik_callb ?_); refine wo_op rfl (op_lenSl rfl Tryz.underlying52) rfl rfl ?_) | ((with_reducible refine ik_bin ?_); first | refine wo_op rfl (op_lss rfl rfl) rfl rfl ?_ | refine wo_op rfl (op_leq rfl rfl) rfl rfl ?_) | ((with_reducible refine ik_fieldAddr ?_); refine wo_op rfl (op_fieldAddr (o := 0) rfl Tryz.underlying79 rfl zs3 rfl) rfl rfl ?_) | ((with_reducible refine ik_pick ?_); refine wo_op rfl (op_pickt rfl rfl) rfl rfl ?_) | ((with_reducible refine ik_g ?_); first | ((with_reducible refine ig_move ?_); refine wo_grun rfl rfl rfl (op_move rfl) rfl rfl ?_) | ((with_reducible refine ig_indexAddr ?_); refine wo_grun rfl rfl rfl (op_indexAddr rfl rfl i1) rfl rfl ?_) | ((with_reducible refine ig_load ?_); refine wo_grun rfl rfl rfl (op_ldCell rfl Tryz.underlying3 rfl (jt _ gr_A)) rfl rfl ?_) | ((with_reducible refine ig_bin ?_); refine wo_grun rfl rfl rfl (op_lss rfl rfl) rfl rfl ?_) | ((with_reducible refine ig_fieldAddr ?_); refine wo_grun rfl rfl rfl (op_fieldAddr (o := 1) rfl Tryz.underlying79 rfl zs3 rfl) rfl rfl ?_) | (refine wo_gsplit rfl rfl rfl (fun hb => ?_) (fun hb => dead_A hb); (try simp only [decide_eq_true_eq, decide_eq_false_iff_not, Bool.not_eq_true', Bool.not_eq_false', Int.not_lt, Int.not_le, Decidable.not_not, not_true_eq_false, not_false_eq_true, beq_self_eq_true, reduceCtorEq] at hb)))) | with_reducible refine sq_norm ?_ | with_reducible refine wc_seq ?_ | with_reducible refine wc_region ?_ | with_reducible refine wc_skip ?_ | with_reducible refine wc_ret ?_ | with_reducible refine wc_block ?_ | with_reducible refine bq_ret ?_ | with_reducible refine sq_ret ?_ | with_reducible refine lq_ret ?_ | (refine wc_if rfl (fun hb => ?_) (fun hb => dead_A hb); (try simp only [decide_eq_true_eq, decide_eq_false_iff_not, Bool.not_eq_true', Bool.not_eq_false', Int.not_lt, Int.not_le, Decidable.not_not, not_true_eq_false, not_false_eq_true, beq_self_eq_true, reduceCtorEq] at hb)))
        exact rq1 rfl ⟨rfl, gr_A⟩
      · rw [decide_eq_false (fun q => h2' q.2), Bool.false_or] at hp
        repeat' (first | with_reducible refine wo_nil ?_ | ((with_reducible refine wo_any ?_); first | ((with_reducible refine ik_move ?_); refine wo_op rfl (op_move rfl) rfl rfl ?_) | ((with_reducible refine ik_assign ?_); refine wo_op rfl (op_assign rfl) rfl rfl ?_) | ((with_reducible refine ik_indexAddr ?_); refine wo_op rfl (op_indexAddr rfl rfl i1) rfl rfl ?_) | ((with_reducible refine ik_load ?_); refine wo_op rfl (op_ldCell rfl Tryz.underlying3 rfl (jf _ gr_A)) rfl rfl ?_) | ((with_reducible refine ik_callb ?_); refine wo_op rfl (op_lenSl rfl Tryz.underlying52) rfl rfl ?_) | ((with_reducible refine ik_bin ?_); first | refine wo_op rfl (op_lss rfl rfl) rfl rfl ?_ | refine wo_op rfl (op_leq rfl rfl) rfl rfl ?_ | refine wo_op rfl (op_add' rfl rfl (w64 (by omega) (by omega))) rfl rfl ?_) | ((with_reducible refine ik_fieldAddr ?_); refine wo_op rfl (op_fieldAddr (o := 0) rfl Tryz.underlying79 rfl zs3 rfl) rfl rfl ?_) | ((with_reducible refine ik_pick ?_); refine wo_op rfl (op_pickt rfl rfl) rfl rfl ?_) | ((with_reducible refine ik_g ?_); first | ((with_reducible refine ig_move ?_); refine wo_grun rfl rfl rfl (op_move rfl) rfl rfl ?_) | ((with_reducible refine ig_indexAddr ?_); refine wo_grun rfl rfl rfl (op_indexAddr rfl rfl i1) rfl rfl ?_) | ((with_reducible refine ig_load ?_); refine wo_grun rfl rfl rfl (op_ldCell rfl Tryz.underlying3 rfl (jt _ gr_A)) rfl rfl ?_) | ((with_reducible refine ig_bin ?_); refine wo_grun rfl rfl rfl (op_lss rfl rfl) rfl rfl ?_) | ((with_reducible refine ig_fieldAddr ?_); refine wo_grun rfl rfl rfl (op_fieldAddr (o := 1) rfl Tryz.underlying79 rfl zs3 rfl) rfl rfl ?_) | (refine wo_gsplit rfl rfl rfl (fun hb => ?_) (fun hb => dead_A hb); (try simp only [decide_eq_true_eq, decide_eq_false_iff_not, Bool.not_eq_true', Bool.not_eq_false', Int.not_lt, Int.not_le, Decidable.not_not, not_true_eq_false, not_false_eq_true, beq_self_eq_true, reduceCtorEq] at hb)))) | with_reducible refine sq_norm ?_ | with_reducible refine wc_seq ?_ | with_reducible refine wc_region ?_ | with_reducible refine wc_skip ?_ | with_reducible refine wc_block ?_ | with_reducible refine bq_norm ?_ | (refine wc_if rfl (fun hb => dead_A hb) (fun hb => ?_); (try simp only [decide_eq_true_eq, decide_eq_false_iff_not, Bool.not_eq_true', Bool.not_eq_false', Int.not_lt, Int.not_le, Decidable.not_not, not_true_eq_false, not_false_eq_true, beq_self_eq_true, reduceCtorEq] at hb)) | (refine wc_if rfl (fun hb => ?_) (fun hb => dead_A hb); (try simp only [decide_eq_true_eq, decide_eq_false_iff_not, Bool.not_eq_true', Bool.not_eq_false', Int.not_lt, Int.not_le, Decidable.not_not, not_true_eq_false, not_false_eq_true, beq_self_eq_true, reduceCtorEq] at hb)))
        exact lq_norm (i + 1) (by omega) (within_lk ⟨rfl, rfl, rfl, trivial⟩) ⟨⟨wf_A, gr_A⟩, by omega, hp⟩
    · rw [decide_eq_false (fun q => h1' q.1), Bool.false_or] at hp
      repeat' (first | with_reducible refine wo_nil ?_ | ((with_reducible refine wo_any ?_); first | ((with_reducible refine ik_move ?_); refine wo_op rfl (op_move rfl) rfl rfl ?_) | ((with_reducible refine ik_assign ?_); refine wo_op rfl (op_assign rfl) rfl rfl ?_) | ((with_reducible refine ik_indexAddr ?_); refine wo_op rfl (op_indexAddr rfl rfl i1) rfl rfl ?_) | ((with_reducible refine ik_load ?_); refine wo_op rfl (op_ldCell rfl Tryz.underlying3 rfl (jf _ gr_A)) rfl rfl ?_) | ((with_reducible refine ik_callb ?_); refine wo_op rfl (op_lenSl rfl Tryz.underlying52) rfl rfl ?_) | ((with_reducible refine ik_bin ?_); first | refine wo_op rfl (op_lss rfl rfl) rfl rfl ?_ | refine wo_op rfl (op_leq rfl rfl) rfl rfl ?_ | refine wo_op rfl (op_add' rfl rfl (w64 (by omega) (by omega))) rfl rfl ?_) | ((with_reducible refine ik_fieldAddr ?_); refine wo_op rfl (op_fieldAddr (o := 0) rfl Tryz.underlying79 rfl zs3 rfl) rfl rfl ?_) | ((with_reducible refine ik_pick ?_); refine wo_op rfl (op_pickf rfl rfl) rfl rfl ?_) | ((with_reducible refine ik_g ?_); first | refine wo_gskip rfl rfl rfl rfl rfl rfl ?_ | (refine wo_gsplit rfl rfl rfl (fun hb => dead_A hb) (fun hb => ?_); (try simp only [decide_eq_true_eq, decide_eq_false_iff_not, Bool.not_eq_true', Bool.not_eq_false', Int.not_lt, Int.not_le, Decidable.not_not, not_true_eq_false, not_false_eq_true, beq_self_eq_true, reduceCtorEq] at hb)))) | with_reducible refine sq_norm ?_ | with_reducible refine wc_seq ?_ | with_reducible refine wc_region ?_ | with_reducible refine wc_skip ?_ | with_reducible refine wc_block ?_ | with_reducible refine bq_norm ?_ | refine wc_iff rfl ?_ | (refine wc_if rfl (fun hb => ?_) (fun hb => dead_A hb); (try simp only [decide_eq_true_eq, decide_eq_false_iff_not, Bool.not_eq_true', Bool.not_eq_false', Int.not_lt, Int.not_le, Decidable.not_not, not_true_eq_false, not_false_eq_true, beq_self_eq_true, reduceCtorEq] at hb)))
      exact lq_norm (i + 1) (by omega) (within_lk ⟨rfl, rfl, rfl, trivial⟩) ⟨⟨wf_A, gr_A⟩, by omega, hp⟩
  · have hkn : i = n := by omega
    rw [List.drop_eq_nil_of_le (by omega)] at hp
    rw [← hp]
    subst hkn
    repeat' (first | with_reducible refine wo_nil ?_ | ((with_reducible refine wo_any ?_); first | ((with_reducible refine ik_move ?_); refine wo_op rfl (op_move rfl) rfl rfl ?_) | ((with_reducible refine ik_assign ?_); refine wo_op rfl (op_assign rfl) rfl rfl ?_) | ((with_reducible refine ik_callb ?_); refine wo_op rfl (op_lenSl rfl Tryz.underlying52) rfl rfl ?_) | ((with_reducible refine ik_bin ?_); refine wo_op rfl (op_lss rfl rfl) rfl rfl ?_)) | with_reducible refine sq_norm ?_ | with_reducible refine wc_seq ?_ | with_reducible refine wc_region ?_ | with_reducible refine wc_ret ?_ | with_reducible refine wc_exit ?_ | with_reducible refine sq_exit ?_ | with_reducible refine lq_exit ?_ | refine bq_eq rfl ?_ | (refine wc_if rfl (fun hb => dead_A hb) (fun hb => ?_); (try simp only [decide_eq_true_eq, decide_eq_false_iff_not, Bool.not_eq_true', Bool.not_eq_false', Int.not_lt, Int.not_le, Decidable.not_not, not_true_eq_false, not_false_eq_true, beq_self_eq_true, reduceCtorEq] at hb)))
    exact rq1 rfl ⟨rfl, gr_A⟩
set_option maxHeartbeats 16000000 in
/-- Windows by the program, with their errors. -/
theorem c69e {x y u v t r sp lo cl so tk : Int} {w vs : Value} {n m : Nat} {l : List Sg} {L : List Spn} (s : Sl G h 3 w n (l.flatMap Sg.cells)) (hl : l.length = n) (hn : n < 1000000) (p : Sl G h 2 vs m (L.flatMap Spn.cells)) (hL : L.length = m) (hm : m < 1000000) (hw : Wf h) :
    Cf (mz G) (.func (.func 69) #[] #[]) [.agg ⟨[.int .i64 x, .int .i64 y, .int .i64 u, .int .i64 v, .int .i64 t]⟩, .agg ⟨[.int .i64 r, .int .i64 sp, .int .i64 lo, .int .i64 cl, .int .i64 so]⟩, w, vs, .int .i64 tk] h fun r' h' => (∃ a e : Int, r' = .tuple #[.int .i64 a, .int .i64 e] ∧ winR (gdB cl so (insB x y u v r sp lo l) L) t.toNat (firstNZ [allE x y u v t r sp lo cl so l, spsE L, rngE tk 1 4096]) tk a e) ∧ Grow h h' := by
  by_cases hE : (firstNZ [allE x y u v t r sp lo cl so l, spsE L, rngE tk 1 4096]) = 0
  · have z := firstNZ_zero hE
    have he : allE x y u v t r sp lo cl so l = 0 := z _ (by simp)
    have hsp : spsE L = 0 := z _ (by simp)
    have hN := rng_ok (z (rngE tk 1 4096) (by simp))
    obtain ⟨_, _, ⟨bt, bT⟩, _⟩ := all_ok he
    obtain ⟨T, rfl⟩ : ∃ T : Nat, t = T := ⟨t.toNat, by omega⟩
    obtain ⟨N, rfl⟩ : ∃ N : Nat, tk = N := ⟨tk.toNat, by omega⟩
    rw [hE]
    refine (c69 s hl hn p hL hm he hsp (by omega) hw).mono fun r' h' ⟨⟨a, e, e1, e2⟩, g⟩ => ⟨⟨a, e, e1, .inr ⟨rfl, ?_⟩⟩, g⟩
    simpa using e2
  · have q81 := fun (h' : H) (g : Grow h h') (w' : Wf h') => c81 (x := x) (y := y) (u := u) (v := v) (t := t) (r := r) (sp := sp) (lo := lo) (cl := cl) (so := so) (s.grow g) hl hn w'
    have q134 := fun (h' : H) (g : Grow h h') (w' : Wf h') => c134 (p.grow g) hL hm w'
    have qf3 := fun (h' : H) (vv : Value) (s : Sl G h' 1 vv 3 ([allE x y u v t r sp lo cl so l, spsE L, rngE tk 1 4096].map (.int .i64))) => c93 s (by omega)
    have fin : ∀ E : Int, (firstNZ [allE x y u v t r sp lo cl so l, spsE L, rngE tk 1 4096]) = E → winR (gdB cl so (insB x y u v r sp lo l) L) t.toNat (firstNZ [allE x y u v t r sp lo cl so l, spsE L, rngE tk 1 4096]) tk 0 E := fun E q => .inl ⟨hE, rfl, q.symm⟩
    obtain ⟨E, hE'⟩ : ∃ E, (firstNZ [allE x y u v t r sp lo cl so l, spsE L, rngE tk 1 4096]) = E := ⟨_, rfl⟩
    have fin := fin E hE'
    rw [hE'] at qf3 hE fin ⊢
    generalize gdB cl so (insB x y u v r sp lo l) L = g at fin ⊢
    generalize allE x y u v t r sp lo cl so l = E1 at q81 qf3
    generalize spsE L = E2 at q134 qf3
    clear hE'
    obtain ⟨a, c, rfl⟩ := s.form
    obtain ⟨pa, pc, rfl⟩ := p.form
    refine cf_enter0 66 [.tmp 10, .tmp 11] Tryz.func69 rfl rfl rfl rfl ?_
    repeat' (first | with_reducible refine wo_nil ?_ | ((with_reducible refine wo_any ?_); first | ((with_reducible refine ik_move ?_); refine wo_op rfl (op_move rfl) rfl rfl ?_) | ((with_reducible refine ik_assign ?_); refine wo_op rfl (op_assign rfl) rfl rfl ?_) | ((with_reducible refine ik_box ?_); refine wo_op rfl (op_boxAgg rfl zs45 rfl) rfl rfl ?_) | ((with_reducible refine ik_load ?_); first | refine wo_op rfl (op_ldAgg rfl at_A Tryz.underlying45 rfl zs45 rfl rfl) rfl rfl ?_ | refine wo_op rfl (op_ldAgg rfl at_A Tryz.underlying46 rfl zs46 rfl rfl) rfl rfl ?_) | ((with_reducible refine ik_buildSlice ?_); refine wo_op rfl (op_buildSl rfl Tryz.underlying238 zs26 zz26 rfl rfl) rfl rfl ?_) | ((with_reducible refine ik_bin ?_); refine wo_op rfl (op_neq rfl rfl) rfl rfl ?_) | ((with_reducible refine ik_callF (f := 96) ?_); refine wo_op rfl (op_call rfl rfl (c96 _ _ _)) rfl rfl ?_) | ((with_reducible refine ik_callv ?_); first | refine wo_op rfl (op_call rfl rfl (qf3 _ _ (Sl.ofAt (show At _ _ (.cells [.int .i64 E1, .int .i64 E2, .int .i64 (rngE tk 1 4096)] 26 1 false) from at_A) rfl (Nat.le_refl _)))) rfl rfl ?_ | (refine wo_call rfl rfl rfl rfl (q81 _ gr_A wf_A) rfl rfl ?_; rintro _ _ ⟨rfl, hq⟩; all_goals ((try (have hqn := hq.nx)); (try simp only [H.nx_push, H.nx_set, H.nx_bump] at hqn))) | (refine wo_call rfl rfl rfl rfl (q134 _ gr_A wf_A) rfl rfl ?_; rintro _ _ ⟨rfl, hq⟩; all_goals ((try (have hqn := hq.nx)); (try simp only [H.nx_push, H.nx_set, H.nx_bump] at hqn))))) | with_reducible refine sq_norm ?_ | with_reducible refine wc_seq ?_ | with_reducible refine wc_region ?_ | with_reducible refine wc_ret ?_ | with_reducible refine wc_scope ?_ | with_reducible refine sq_ret ?_ | (refine wc_if rfl (fun hb => ?_) (fun hb => dead_A hb); (try simp only [decide_eq_true_eq, decide_eq_false_iff_not, Bool.not_eq_true', Bool.not_eq_false', Int.not_lt, Int.not_le, Decidable.not_not, not_true_eq_false, not_false_eq_true, beq_self_eq_true, reduceCtorEq] at hb)))
    exact rq2 rfl rfl ⟨⟨_, _, rfl, fin⟩, gr_A⟩
end Go.Proofs.YtlioomhcdlicmaaGreatDoor

/- Survey: windows by the reference. -/
namespace Go.Proofs.YtlioomhcdlicmaaGreatDoor
open Go Go.Ab Go.Fl
attribute [local irreducible] SeqQ BlkQ LpQ RetQ Wc Wo WD WX Op1 Op1q Op1a Cf Cl From
attribute [local irreducible] Ieee.Format.order Ieee.Format.read Ieee.Format.nearest Ieee.Format.write Ieee.Format.mul Ieee.Format.div Ieee.Format.sqrt Ieee.Datum.order Ieee.Datum.integral K U rngE errN ptE firstNZ vesE watE sgE sgsE allE hitB sqD insB qsL lvl rn rl
set_option maxRecDepth 10000
variable {G : Base} {h : H}

attribute [local irreducible] fl silN insN levN inL leL
theorem wc_midRR {M : Mc} {ro : Option Nat} {a b : Code} {sz : Nat} {l : KL} {h : H} {Q : X → KL → H → Prop} {ι : Type} (L : ι → KL) (I : ι → H → Prop) (hA : Wc M ro a sz l h (fun x l' h' => (x = .norm ∧ ∃ i, (∀ t v, lk (L i) t = some v → lk l' t = some v) ∧ I i h') ∨ (x = .ret ∧ Q .ret l' h'))) (hB : ∀ i h, I i h → Wc M ro b sz (L i) h Q) : Wc M ro (a.seq b) sz l h Q :=
  wc_seq (wc_mono hA fun x l' h' q => by
    rcases q with ⟨e, i, hl, hi⟩ | ⟨e, q⟩
    · subst e
      exact sq_norm (wc_less hl (hB i h' hi))
    · subst e
      exact sq_ret q)
def gAll (g : Nat → Bool) (t d : Nat) : Bool := (List.range d).all fun i => g (t + i)
theorem gAll_next {g : Nat → Bool} {t d : Nat} : gAll g t (d + 1) = (gAll g t d && g (t + d)) := by
  unfold gAll; rw [List.range_succ, List.all_append]; simp
theorem gAll_all {g : Nat → Bool} {t d : Nat} (hh : gAll g t d = true) : ∀ j, t ≤ j → j < t + d → g j = true := fun j a b => by
  have := List.all_eq_true.1 hh (j - t) (List.mem_range.2 (by omega))
  rw [show t + (j - t) = j by omega] at this
  exact this
theorem gAll_ex {g : Nat → Bool} {t d : Nat} (hh : gAll g t d = false) : ∃ j, t ≤ j ∧ j < t + d ∧ g j = false := by
  unfold gAll at hh
  rw [← Bool.not_eq_true, List.all_eq_true] at hh
  simp only [List.mem_range, Classical.not_forall] at hh
  obtain ⟨i, hi, q⟩ := hh
  exact ⟨t + i, by omega, by omega, by simpa using q⟩
set_option maxHeartbeats 16000000 in
theorem c70 {x y u v t r sp lo cl so tk : Int} {w vs : Value} {n m : Nat} {l : List Sg} {L : List Spn} (s : Sl G h 3 w n (l.flatMap Sg.cells)) (hl : l.length = n) (hn : n < 1000000) (p : Sl G h 2 vs m (L.flatMap Spn.cells)) (hL : L.length = m) (hm : m < 1000000) (hw : Wf h) :
    Cf (mz G) (.func (.func 70) #[] #[]) [.agg ⟨[.int .i64 x, .int .i64 y, .int .i64 u, .int .i64 v, .int .i64 t]⟩, .agg ⟨[.int .i64 r, .int .i64 sp, .int .i64 lo, .int .i64 cl, .int .i64 so]⟩, w, vs, .int .i64 tk] h fun r' h' => (∃ a e : Int, r' = .tuple #[.int .i64 a, .int .i64 e] ∧ winR (gdB cl so (insB x y u v r sp lo l) L) t.toNat (firstNZ [allE x y u v t r sp lo cl so l, spsE L, rngE tk 1 4096]) tk a e) ∧ Grow h h' := by
  have q21 := fun (h' : H) (g : Grow h h') (w' : Wf h') => c21 (x := x) (y := y) (u := u) (v := v) (t := t) (r := r) (sp := sp) (lo := lo) (cl := cl) (so := so) (s.grow g) hl hn w'
  have q66 := fun (h' : H) (g : Grow h h') (w' : Wf h') => c66 (p.grow g) hL hm w'
  have qf3 := fun (h' : H) (vv : Value) (s : Sl G h' 1 vv 3 ([allE x y u v t r sp lo cl so l, spsE L, rngE tk 1 4096].map (.int .i64))) => c91 s (by omega)
  by_cases hE : (firstNZ [allE x y u v t r sp lo cl so l, spsE L, rngE tk 1 4096]) = 0
  · have z := firstNZ_zero hE
    have he : allE x y u v t r sp lo cl so l = 0 := z _ (by simp)
    have hsp : spsE L = 0 := z _ (by simp)
    have hN := rng_ok (z (rngE tk 1 4096) (by simp))
    obtain ⟨⟨b1, b2⟩, ⟨b3, b4⟩, ⟨bt, bT⟩, hr, hs, hlo, hcl, hso, hlen, hall⟩ := all_ok he
    obtain ⟨T, rfl⟩ : ∃ T : Nat, t = T := ⟨t.toNat, by omega⟩
    obtain ⟨N, rfl⟩ : ∃ N : Nat, tk = N := ⟨tk.toNat, by omega⟩
    have hT : T ≤ 4096 := by omega
    have q23 := fun (h' : H) (g : Grow h h') (w' : Wf h') => cf_formW (c23 (cl := cl) (so := so) (T := T) (s.grow g) hl hn w' b1 b2 b3 b4 hT hr hs hlo hcl hso hall)
    have qin := fun (h' : H) (k : Nat) (g : Grow h h') (w' : Wf h') => c142 (k := (k : Int)) (p.grow g) hL hm w'
    rw [hE] at qf3 ⊢
    rw [he] at q21 qf3
    rw [hsp] at q66 qf3
    have fin : ∀ a e : Int, ((a = 0 ∧ e = 7 ∧ ∀ K, ¬winAt (gdB cl so (insB x y u v r sp lo l) L) T N K) ∨ (e = 0 ∧ ∃ K, winAt (gdB cl so (insB x y u v r sp lo l) L) T N K ∧ a = (K : Int) + 1 - (N : Int))) → winR (gdB cl so (insB x y u v r sp lo l) L) (T : Int).toNat 0 (N : Nat) a e := fun a e q => .inr ⟨rfl, by simpa using q⟩
    have hg : ∀ k, gdB cl so (insB x y u v r sp lo l) L k = (decide (lvl cl so (qt (insB x y u v r sp lo l) (k + 1) : Int) = so + 1) && L.any (inP (k : Int))) := fun k => rfl
    have hLg : ∀ m, m < T → (leL cl so (insB x y u v r sp lo l) T).getD m 0 = lvl cl so (qt (insB x y u v r sp lo l) (m + 1) : Int) := fun m hm => by
      unfold leL; simp [List.getD, List.getElem?_map, List.getElem?_range hm]
    have hg : ∀ k, k < T → gdB cl so (insB x y u v r sp lo l) L k = (decide ((leL cl so (insB x y u v r sp lo l) T).getD k 0 = so + 1) && L.any (inP (k : Int))) := fun k hk => by rw [hg, hLg k hk]
    clear hLg he hsp hall hlen hE z
    generalize gdB cl so (insB x y u v r sp lo l) L = g at fin hg ⊢
    obtain ⟨LL, hLL⟩ : ∃ LL, leL cl so (insB x y u v r sp lo l) T = LL := ⟨_, rfl⟩
    rw [hLL] at q23 hg
    clear hLL
    obtain ⟨a, c, rfl⟩ := s.form
    obtain ⟨pa, pc, rfl⟩ := p.form
    refine cf_enter0 68 [.tmp 10, .tmp 11] Tryz.func70 rfl rfl rfl rfl ?_
    repeat' (first | with_reducible refine wo_nil ?_ | ((with_reducible refine wo_any ?_); first | ((with_reducible refine ik_move ?_); refine wo_op rfl (op_move rfl) rfl rfl ?_) | ((with_reducible refine ik_assign ?_); refine wo_op rfl (op_assign rfl) rfl rfl ?_) | ((with_reducible refine ik_box ?_); refine wo_op rfl (op_boxAgg rfl zs37 rfl) rfl rfl ?_) | ((with_reducible refine ik_load ?_); first | refine wo_op rfl (op_ldAgg rfl at_A Tryz.underlying37 rfl zs37 rfl rfl) rfl rfl ?_ | refine wo_op rfl (op_ldAgg rfl at_A Tryz.underlying39 rfl zs39 rfl rfl) rfl rfl ?_) | ((with_reducible refine ik_buildSlice ?_); refine wo_op rfl (op_buildSl rfl Tryz.underlying49 zs3 zz3 rfl rfl) rfl rfl ?_) | ((with_reducible refine ik_bin ?_); refine wo_op rfl (op_neq rfl rfl) rfl rfl ?_) | ((with_reducible refine ik_callF (f := 72) ?_); refine wo_op rfl (op_call rfl rfl (c72 _ _ _)) rfl rfl ?_) | ((with_reducible refine ik_callv ?_); first | refine wo_op rfl (op_call rfl rfl (qf3 _ _ (Sl.ofAt (show At _ _ (.cells [.int .i64 0, .int .i64 0, .int .i64 (rngE (N : Nat) 1 4096)] 3 1 false) from at_A) rfl (Nat.le_refl _)))) rfl rfl ?_ | (refine wo_call rfl rfl rfl rfl (q21 _ gr_A wf_A) rfl rfl ?_; rintro _ _ ⟨rfl, hq⟩; all_goals ((try (have hqn := hq.nx)); (try simp only [H.nx_push, H.nx_set, H.nx_bump] at hqn))) | (refine wo_call rfl rfl rfl rfl (q66 _ gr_A wf_A) rfl rfl ?_; rintro _ _ ⟨rfl, hq⟩; all_goals ((try (have hqn := hq.nx)); (try simp only [H.nx_push, H.nx_set, H.nx_bump] at hqn))) | (refine wo_call rfl rfl rfl rfl (q23 _ gr_A wf_A) rfl rfl ?_; rintro _ _ ⟨⟨la, lc, rfl, s13⟩, hq⟩; all_goals ((try (have hqn := hq.nx)); (try simp only [H.nx_push, H.nx_set, H.nx_bump] at hqn))))) | with_reducible refine sq_norm ?_ | with_reducible refine wc_seq ?_ | with_reducible refine wc_region ?_ | with_reducible refine wc_skip ?_ | with_reducible refine wc_block ?_ | refine wc_iff rfl ?_)
    refine wc_cut (ι := Unit) (fun _ => [(3, .slice pa m pc), (4, .int .i64 (N : Nat)), (6, .pointer (some ⟨h.nx + 1, 0, some 0⟩)), (13, .slice la T lc), (14, .int .i64 0)]) (fun _ h' => (Wf h' ∧ Grow h h') ∧ At h' (h.nx + 1) (.cells [.int .i64 r, .int .i64 sp, .int .i64 lo, .int .i64 cl, .int .i64 so] 39 5 false) ∧ Sl G h' 1 (.slice la T lc) T (LL.map (Value.int .i64))) () (within_lk ⟨rfl, rfl, rfl, rfl, rfl, trivial⟩) ⟨⟨wf_A, gr_A⟩, at_A, s13.grow gr_A⟩ ?_
    clear q21 q66 qf3 q23 s13
    rintro _ h0 ⟨⟨w1, g0⟩, aW, s13⟩
    have n0 := g0.nx
    have lW := aW.lt
    refine wc_loop (fun t => T + 1 - t) (fun t : Nat => [(3, .slice pa m pc), (4, .int .i64 (N : Nat)), (6, .pointer (some ⟨h.nx + 1, 0, some 0⟩)), (13, .slice la T lc), (14, .int .i64 (t : Nat))]) (fun t h' => (Wf h' ∧ Grow h0 h') ∧ t ≤ T ∧ ∀ s, s < t → ∃ j, s ≤ j ∧ j < s + N ∧ g j = false) 0 (within_lk ⟨rfl, rfl, rfl, rfl, rfl, trivial⟩) ⟨⟨w1, Grow.refl _⟩, Nat.zero_le _, fun s hs => by omega⟩ ?_
    clear w1
    rintro t h1 ⟨⟨w1, g1⟩, ht, hno⟩
    have n1 := g1.nx
    have gg := g0.trans g1
    by_cases hlt : t + N ≤ T
    · refine wc_mid (ι := Unit) (fun _ => [(3, .slice pa m pc), (4, .int .i64 (N : Nat)), (6, .pointer (some ⟨h.nx + 1, 0, some 0⟩)), (13, .slice la T lc), (14, .int .i64 (t : Nat))]) (fun _ h' => h1 = h') ?_ ?_
      · repeat' (first | with_reducible refine wo_nil ?_ | ((with_reducible refine wo_any ?_); first | ((with_reducible refine ik_move ?_); refine wo_op rfl (op_move rfl) rfl rfl ?_) | ((with_reducible refine ik_bin ?_); first | refine wo_op rfl (op_add' rfl rfl (w64 (by omega) (by omega))) rfl rfl ?_ | refine wo_op rfl (op_leq rfl rfl) rfl rfl ?_) | ((with_reducible refine ik_callb ?_); refine wo_op rfl (op_lenSl rfl Tryz.underlying49) rfl rfl ?_)) | with_reducible refine sq_norm ?_ | with_reducible refine wc_seq ?_ | with_reducible refine wc_region ?_ | with_reducible refine wc_skip ?_ | (refine wc_if rfl (fun hb => ?_) (fun hb => dead_A hb); (try simp only [decide_eq_true_eq, decide_eq_false_iff_not, Bool.not_eq_true', Bool.not_eq_false', Int.not_lt, Int.not_le, Decidable.not_not, not_true_eq_false, not_false_eq_true, beq_self_eq_true, reduceCtorEq] at hb)))
        exact ⟨rfl, (), within_lk ⟨rfl, rfl, rfl, rfl, rfl, trivial⟩, rfl⟩
      rintro _ h1' e
      subst e
      refine wc_midRR (ι := Unit) (fun _ => [(3, .slice pa m pc), (4, .int .i64 (N : Nat)), (6, .pointer (some ⟨h.nx + 1, 0, some 0⟩)), (13, .slice la T lc), (14, .int .i64 (t : Nat))]) (fun _ h' => (Wf h' ∧ Grow h0 h') ∧ ∃ j, t ≤ j ∧ j < t + N ∧ g j = false) ?_ ?_
      · refine wc_block ?_
        refine wc_mid (ι := Unit) (fun _ => [(3, .slice pa m pc), (4, .int .i64 (N : Nat)), (6, .pointer (some ⟨h.nx + 1, 0, some 0⟩)), (13, .slice la T lc), (14, .int .i64 (t : Nat)), (15, .bool true)]) (fun _ h' => h1 = h') ?_ ?_
        · repeat' (first | with_reducible refine wo_nil ?_ | ((with_reducible refine wo_any ?_); ((with_reducible refine ik_assign ?_); refine wo_op rfl (op_assign rfl) rfl rfl ?_)) | with_reducible refine wc_region ?_)
          exact ⟨rfl, (), within_lk ⟨rfl, rfl, rfl, rfl, rfl, rfl, trivial⟩, rfl⟩
        rintro _ h1' e
        subst e
        refine wc_mid (ι := Unit) (fun _ => [(3, .slice pa m pc), (4, .int .i64 (N : Nat)), (6, .pointer (some ⟨h.nx + 1, 0, some 0⟩)), (13, .slice la T lc), (14, .int .i64 (t : Nat)), (15, .bool (gAll g t N))]) (fun _ h' => Wf h' ∧ Grow h0 h') ?_ ?_
        · refine wc_mid (ι := Unit) (fun _ => [(3, .slice pa m pc), (4, .int .i64 (N : Nat)), (6, .pointer (some ⟨h.nx + 1, 0, some 0⟩)), (13, .slice la T lc), (14, .int .i64 (t : Nat)), (15, .bool (gAll g t 0)), (16, .int .i64 ((t + 0 : Nat) : Int))]) (fun _ h' => h1 = h') ?_ ?_
          · repeat' (first | with_reducible refine wo_nil ?_ | ((with_reducible refine wo_any ?_); first | ((with_reducible refine ik_move ?_); refine wo_op rfl (op_move rfl) rfl rfl ?_) | ((with_reducible refine ik_assign ?_); refine wo_op rfl (op_assign rfl) rfl rfl ?_)) | with_reducible refine wc_region ?_)
            exact ⟨rfl, (), within_lk ⟨rfl, rfl, rfl, rfl, rfl, rfl, rfl, trivial⟩, rfl⟩
          rintro _ h1' e
          subst e
          refine wc_block ?_
          refine wc_loop (fun d => N - d) (fun d : Nat => [(3, .slice pa m pc), (4, .int .i64 (N : Nat)), (6, .pointer (some ⟨h.nx + 1, 0, some 0⟩)), (13, .slice la T lc), (14, .int .i64 (t : Nat)), (15, .bool (gAll g t d)), (16, .int .i64 ((t + d : Nat) : Int))]) (fun d h' => (Wf h' ∧ Grow h0 h') ∧ d ≤ N) 0 (within_lk ⟨rfl, rfl, rfl, rfl, rfl, rfl, rfl, trivial⟩) ⟨⟨w1, g1⟩, Nat.zero_le _⟩ ?_
          clear w1 g1 gg n1
          rintro d h1 ⟨⟨w1, g1⟩, hd⟩
          have n1 := g1.nx
          have gg := g0.trans g1
          by_cases hdN : d < N
          · obtain ⟨ld, l1, l3⟩ := in_atV (Value.int .i64) 0 (s13.grow g1) Tryz.underlying49 zs3 (i := ((t + d : Nat) : Int)) (q := t + d) (by omega) rfl
            have hgk := hg (t + d) (by omega)
            have nx := gAll_next (g := g) (t := t) (d := d)
            rw [hgk] at nx
            have aW1 := aW.grow g1
            have qi := fun (h' : H) (g' : Grow h1 h') (w' : Wf h') => qin h' (t + d) (gg.trans g') w'
            generalize LL.getD (t + d) 0 = A at l3 nx
            generalize L.any (inP ((t + d : Nat) : Int)) = B at qi nx
            obtain ⟨P2, hP2⟩ : ∃ b, gAll g t (d + 1) = b := ⟨_, rfl⟩
            rw [hP2] at nx
            generalize gAll g t d = P at nx ⊢
            clear hgk hg hno fin qin s13 aW
            cases P with
            | false =>
              rw [Bool.false_and] at nx
              repeat' (first | with_reducible refine wo_nil ?_ | ((with_reducible refine wo_any ?_); first | ((with_reducible refine ik_move ?_); refine wo_op rfl (op_move rfl) rfl rfl ?_) | ((with_reducible refine ik_assign ?_); refine wo_op rfl (op_assign rfl) rfl rfl ?_) | ((with_reducible refine ik_bin ?_); first | refine wo_op rfl (op_add' rfl rfl (w64 (by omega) (by omega))) rfl rfl ?_ | refine wo_op rfl (op_lss rfl rfl) rfl rfl ?_)) | ((with_reducible refine xk_any ?_); ((with_reducible refine xk_as0 ?_); first | ((with_reducible refine xk_move ?_); refine wx_q (wt_none rfl) rfl rfl (op_q rfl (op_move rfl)) rfl rfl rfl ?_) | ((with_reducible refine xk_assign ?_); refine wx_q (wt_none rfl) rfl rfl (op_q rfl (op_assign rfl)) rfl rfl rfl ?_) | ((with_reducible refine xk_pick ?_); refine wx_q (wt_none rfl) rfl rfl (op_q rfl (op_pickf rfl rfl)) rfl rfl rfl ?_) | ((with_reducible refine xk_g ?_); refine wx_s (wt_skip rfl rfl rfl rfl) rfl rfl ?_) | with_reducible refine wx_nil0 ?_ ?_)) | with_reducible exact obl_nil | with_reducible refine sq_norm ?_ | with_reducible refine wc_seq ?_ | with_reducible refine wc_region ?_ | with_reducible refine wc_skip ?_ | with_reducible refine wc_block ?_ | with_reducible refine bq_norm ?_ | (refine wc_if rfl (fun hb => ?_) (fun hb => dead_A hb); (try simp only [decide_eq_true_eq, decide_eq_false_iff_not, Bool.not_eq_true', Bool.not_eq_false', Int.not_lt, Int.not_le, Decidable.not_not, not_true_eq_false, not_false_eq_true, beq_self_eq_true, reduceCtorEq] at hb)) | refine wc_drawB (id := 12) 17 [0, 1, 3, 3, 15, 31, 3, 67, 195, 511, 1023, 2047, 4095, 4095, 16383, 32767, 65535] [0, 1, 2, 3, 4, 5, 6, 7, 8, 9, 10, 11, 12, 13, 14, 15, 16] (by kernel_rfl) (by kernel_rfl) rfl rfl ?_)
              exact lq_norm (d + 1) (by omega) (within_lk ⟨rfl, rfl, rfl, rfl, rfl, by simp only [lk]; rw [hP2, nx], rfl, trivial⟩) ⟨⟨wf_A, gr_A⟩, by omega⟩
            | true =>
              rw [Bool.true_and] at nx
              by_cases hA : A = so + 1
              · rw [decide_eq_true hA, Bool.true_and] at nx
                repeat' (first | with_reducible refine wo_nil ?_ | ((with_reducible refine wo_any ?_); first | ((with_reducible refine ik_move ?_); refine wo_op rfl (op_move rfl) rfl rfl ?_) | ((with_reducible refine ik_assign ?_); refine wo_op rfl (op_assign rfl) rfl rfl ?_) | ((with_reducible refine ik_bin ?_); first | refine wo_op rfl (op_add' rfl rfl (w64 (by omega) (by omega))) rfl rfl ?_ | refine wo_op rfl (op_lss rfl rfl) rfl rfl ?_)) | ((with_reducible refine xk_any ?_); ((with_reducible refine xk_as0 ?_); first | ((with_reducible refine xk_move ?_); refine wx_q (wt_none rfl) rfl rfl (op_q rfl (op_move rfl)) rfl rfl rfl ?_) | ((with_reducible refine xk_assign ?_); refine wx_q (wt_none rfl) rfl rfl (op_q rfl (op_assign rfl)) rfl rfl rfl ?_) | ((with_reducible refine xk_pick ?_); refine wx_q (wt_none rfl) rfl rfl (op_q rfl (op_pickt rfl rfl)) rfl rfl rfl ?_) | ((with_reducible refine xk_g ?_); first | ((with_reducible refine xg_move ?_); refine wx_q (wt_run rfl rfl rfl) rfl rfl (op_q rfl (op_move rfl)) rfl rfl rfl ?_) | ((with_reducible refine xg_indexAddr ?_); refine wx_q (wt_run rfl rfl rfl) rfl rfl (op_q rfl (op_indexAddr rfl rfl l1)) rfl rfl rfl ?_) | ((with_reducible refine xg_load ?_); first | refine wx_h0 (wt_run rfl rfl rfl) rfl (op_q rfl (op_ldCell rfl Tryz.underlying3 rfl (l3 _ gr_A))) rfl rfl rfl ?_ | refine wx_h0 (wt_run rfl rfl rfl) rfl (op_q rfl (op_ldAt (b := h.nx + 1) (off := 4) rfl at_A Tryz.underlying3 rfl rfl)) rfl rfl rfl ?_) | ((with_reducible refine xg_bin ?_); first | refine wx_q (wt_run rfl rfl rfl) rfl rfl (op_q rfl (op_add' rfl rfl (w64 (by omega) (by omega)))) rfl rfl rfl ?_ | refine wx_q (wt_run rfl rfl rfl) rfl rfl (op_q rfl (op_eql rfl rfl)) rfl rfl rfl ?_) | ((with_reducible refine xg_fieldAddr ?_); refine wx_q (wt_run rfl rfl rfl) rfl rfl (op_q rfl (op_fieldAddr (o := 4) rfl Tryz.underlying39 rfl zs3 rfl)) rfl rfl rfl ?_) | ((with_reducible refine xg_callv ?_); (refine wx_call0 (wt_run rfl rfl rfl) rfl rfl rfl rfl (qi _ gr_A wf_A) rfl rfl ?_; rintro _ _ ⟨rfl, hq⟩; all_goals ((try (have hqn := hq.nx)); (try simp only [H.nx_push, H.nx_set, H.nx_bump] at hqn)))) | (refine wx_split rfl rfl rfl (fun hb => ?_) (fun hb => dead_A hb); (try simp only [decide_eq_true_eq, decide_eq_false_iff_not, Bool.not_eq_true', Bool.not_eq_false', Int.not_lt, Int.not_le, Decidable.not_not, not_true_eq_false, not_false_eq_true, beq_self_eq_true, reduceCtorEq] at hb))) | with_reducible refine wx_nil0 ?_ ?_)) | with_reducible exact obl_nil | with_reducible refine obl_cons ?_ ?_ | ((with_reducible refine ik_obs ?_); first | exact obs_nil | refine obs_skip rfl ?_ | refine obs_chkn rfl rfl (op_q rfl (op_ldCell rfl Tryz.underlying3 rfl (l3 _ gr_A))) ?_ | refine obs_chkn rfl rfl (op_q rfl (op_ldAt (b := h.nx + 1) (off := 4) rfl at_A Tryz.underlying3 rfl (by rfl))) ?_) | with_reducible refine sq_norm ?_ | with_reducible refine wc_seq ?_ | with_reducible refine wc_region ?_ | with_reducible refine wc_skip ?_ | with_reducible refine wc_block ?_ | with_reducible refine bq_norm ?_ | (refine wc_if rfl (fun hb => ?_) (fun hb => dead_A hb); (try simp only [decide_eq_true_eq, decide_eq_false_iff_not, Bool.not_eq_true', Bool.not_eq_false', Int.not_lt, Int.not_le, Decidable.not_not, not_true_eq_false, not_false_eq_true, beq_self_eq_true, reduceCtorEq] at hb)) | refine wc_drawB (id := 12) 17 [0, 1, 3, 3, 15, 31, 3, 67, 195, 511, 1023, 2047, 4095, 4095, 16383, 32767, 65535] [0, 1, 2, 3, 4, 5, 6, 7, 8, 9, 10, 11, 12, 13, 14, 15, 16] (by kernel_rfl) (by kernel_rfl) rfl rfl ?_)
                exact lq_norm (d + 1) (by omega) (within_lk ⟨rfl, rfl, rfl, rfl, rfl, by simp only [lk]; rw [hP2, nx], rfl, trivial⟩) ⟨⟨wf_A, gr_A⟩, by omega⟩
              · rw [decide_eq_false hA, Bool.false_and] at nx
                repeat' (first | with_reducible refine wo_nil ?_ | ((with_reducible refine wo_any ?_); first | ((with_reducible refine ik_move ?_); refine wo_op rfl (op_move rfl) rfl rfl ?_) | ((with_reducible refine ik_assign ?_); refine wo_op rfl (op_assign rfl) rfl rfl ?_) | ((with_reducible refine ik_bin ?_); first | refine wo_op rfl (op_add' rfl rfl (w64 (by omega) (by omega))) rfl rfl ?_ | refine wo_op rfl (op_lss rfl rfl) rfl rfl ?_)) | ((with_reducible refine xk_any ?_); ((with_reducible refine xk_as0 ?_); first | ((with_reducible refine xk_move ?_); refine wx_q (wt_none rfl) rfl rfl (op_q rfl (op_move rfl)) rfl rfl rfl ?_) | ((with_reducible refine xk_assign ?_); refine wx_q (wt_none rfl) rfl rfl (op_q rfl (op_assign rfl)) rfl rfl rfl ?_) | ((with_reducible refine xk_pick ?_); first | refine wx_q (wt_none rfl) rfl rfl (op_q rfl (op_pickt rfl rfl)) rfl rfl rfl ?_ | refine wx_q (wt_none rfl) rfl rfl (op_q rfl (op_pickf rfl rfl)) rfl rfl rfl ?_) | ((with_reducible refine xk_g ?_); first | refine wx_s (wt_skip rfl rfl rfl rfl) rfl rfl ?_ | ((with_reducible refine xg_move ?_); refine wx_q (wt_run rfl rfl rfl) rfl rfl (op_q rfl (op_move rfl)) rfl rfl rfl ?_) | ((with_reducible refine xg_indexAddr ?_); refine wx_q (wt_run rfl rfl rfl) rfl rfl (op_q rfl (op_indexAddr rfl rfl l1)) rfl rfl rfl ?_) | ((with_reducible refine xg_load ?_); first | refine wx_h0 (wt_run rfl rfl rfl) rfl (op_q rfl (op_ldCell rfl Tryz.underlying3 rfl (l3 _ gr_A))) rfl rfl rfl ?_ | refine wx_h0 (wt_run rfl rfl rfl) rfl (op_q rfl (op_ldAt (b := h.nx + 1) (off := 4) rfl at_A Tryz.underlying3 rfl rfl)) rfl rfl rfl ?_) | ((with_reducible refine xg_bin ?_); first | refine wx_q (wt_run rfl rfl rfl) rfl rfl (op_q rfl (op_add' rfl rfl (w64 (by omega) (by omega)))) rfl rfl rfl ?_ | refine wx_q (wt_run rfl rfl rfl) rfl rfl (op_q rfl (op_eql rfl rfl)) rfl rfl rfl ?_) | ((with_reducible refine xg_fieldAddr ?_); refine wx_q (wt_run rfl rfl rfl) rfl rfl (op_q rfl (op_fieldAddr (o := 4) rfl Tryz.underlying39 rfl zs3 rfl)) rfl rfl rfl ?_) | (refine wx_split rfl rfl rfl (fun hb => dead_A hb) (fun hb => ?_); (try simp only [decide_eq_true_eq, decide_eq_false_iff_not, Bool.not_eq_true', Bool.not_eq_false', Int.not_lt, Int.not_le, Decidable.not_not, not_true_eq_false, not_false_eq_true, beq_self_eq_true, reduceCtorEq] at hb))) | with_reducible refine wx_nil0 ?_ ?_)) | with_reducible exact obl_nil | with_reducible refine obl_cons ?_ ?_ | ((with_reducible refine ik_obs ?_); first | exact obs_nil | refine obs_chkn rfl rfl (op_q rfl (op_ldCell rfl Tryz.underlying3 rfl (l3 _ gr_A))) ?_ | refine obs_chkn rfl rfl (op_q rfl (op_ldAt (b := h.nx + 1) (off := 4) rfl at_A Tryz.underlying3 rfl (by rfl))) ?_) | with_reducible refine sq_norm ?_ | with_reducible refine wc_seq ?_ | with_reducible refine wc_region ?_ | with_reducible refine wc_skip ?_ | with_reducible refine wc_block ?_ | with_reducible refine bq_norm ?_ | (refine wc_if rfl (fun hb => ?_) (fun hb => dead_A hb); (try simp only [decide_eq_true_eq, decide_eq_false_iff_not, Bool.not_eq_true', Bool.not_eq_false', Int.not_lt, Int.not_le, Decidable.not_not, not_true_eq_false, not_false_eq_true, beq_self_eq_true, reduceCtorEq] at hb)) | refine wc_drawB (id := 12) 17 [0, 1, 3, 3, 15, 31, 3, 67, 195, 511, 1023, 2047, 4095, 4095, 16383, 32767, 65535] [0, 1, 2, 3, 4, 5, 6, 7, 8, 9, 10, 11, 12, 13, 14, 15, 16] (by kernel_rfl) (by kernel_rfl) rfl rfl ?_)
                exact lq_norm (d + 1) (by omega) (within_lk ⟨rfl, rfl, rfl, rfl, rfl, by simp only [lk]; rw [hP2, nx], rfl, trivial⟩) ⟨⟨wf_A, gr_A⟩, by omega⟩
          · have e : d = N := by omega
            subst e
            repeat' (first | with_reducible refine wo_nil ?_ | ((with_reducible refine wo_any ?_); first | ((with_reducible refine ik_move ?_); refine wo_op rfl (op_move rfl) rfl rfl ?_) | ((with_reducible refine ik_bin ?_); first | refine wo_op rfl (op_add' rfl rfl (w64 (by omega) (by omega))) rfl rfl ?_ | refine wo_op rfl (op_lss rfl rfl) rfl rfl ?_)) | with_reducible refine sq_norm ?_ | with_reducible refine wc_seq ?_ | with_reducible refine wc_region ?_ | with_reducible refine wc_exit ?_ | with_reducible refine sq_exit ?_ | with_reducible refine lq_exit ?_ | refine bq_eq rfl ?_ | (refine wc_if rfl (fun hb => dead_A hb) (fun hb => ?_); (try simp only [decide_eq_true_eq, decide_eq_false_iff_not, Bool.not_eq_true', Bool.not_eq_false', Int.not_lt, Int.not_le, Decidable.not_not, not_true_eq_false, not_false_eq_true, beq_self_eq_true, reduceCtorEq] at hb)))
            exact ⟨rfl, (), within_lk ⟨rfl, rfl, rfl, rfl, rfl, rfl, trivial⟩, w1, g1⟩
        clear w1 g1 gg n1
        rintro _ h1 ⟨w1, g1⟩
        have n1 := g1.nx
        have gg := g0.trans g1
        obtain ⟨P, hP⟩ : ∃ b, gAll g t N = b := ⟨_, rfl⟩
        rw [hP]
        clear qin hg s13
        cases P with
        | true =>
          have hw := win_start (by omega) hlt (gAll_all hP) hno
          have fn := fin (t : Nat) 0 (.inr ⟨rfl, _, hw, by omega⟩)
          clear fin hno
          repeat' (first | with_reducible refine wo_nil ?_ | ((with_reducible refine wo_any ?_); first | ((with_reducible refine ik_move ?_); refine wo_op rfl (op_move rfl) rfl rfl ?_) | ((with_reducible refine ik_assign ?_); refine wo_op rfl (op_assign rfl) rfl rfl ?_)) | with_reducible refine sq_norm ?_ | with_reducible refine wc_seq ?_ | with_reducible refine wc_region ?_ | with_reducible refine wc_ret ?_ | with_reducible refine bq_ret ?_ | refine wc_ift rfl ?_)
          exact .inr ⟨rfl, lq_ret (bq_ret (sq_ret (rq2 rfl rfl ⟨⟨_, _, rfl, fn⟩, gr_A⟩)))⟩
        | false =>
          have ex := gAll_ex hP
          clear fin hno
          repeat' (first | with_reducible refine wo_nil ?_ | ((with_reducible refine wo_any ?_); ((with_reducible refine ik_move ?_); refine wo_op rfl (op_move rfl) rfl rfl ?_)) | with_reducible refine sq_norm ?_ | with_reducible refine wc_seq ?_ | with_reducible refine wc_region ?_ | with_reducible refine wc_skip ?_ | with_reducible refine bq_norm ?_ | refine wc_iff rfl ?_)
          exact .inl ⟨rfl, (), within_lk ⟨rfl, rfl, rfl, rfl, rfl, trivial⟩, ⟨wf_A, gr_A⟩, ex⟩
      · clear w1 g1 gg n1
        rintro _ h1 ⟨⟨w1, g1⟩, ex⟩
        have n1 := g1.nx
        clear qin hg s13 fin
        repeat' (first | with_reducible refine wo_nil ?_ | ((with_reducible refine wo_any ?_); first | ((with_reducible refine ik_move ?_); refine wo_op rfl (op_move rfl) rfl rfl ?_) | ((with_reducible refine ik_assign ?_); refine wo_op rfl (op_assign rfl) rfl rfl ?_) | ((with_reducible refine ik_bin ?_); refine wo_op rfl (op_add' rfl rfl (w64 (by omega) (by omega))) rfl rfl ?_)) | with_reducible refine wc_region ?_)
        exact lq_norm (t + 1) (by omega) (within_lk ⟨rfl, rfl, rfl, rfl, rfl, trivial⟩) ⟨⟨wf_A, gr_A⟩, by omega, fun s hs => by
          by_cases q : s = t
          · rw [q]; exact ex
          · exact hno s (by omega)⟩
    · have fn := fin 0 7 (.inl ⟨rfl, rfl, fun K hk => by
        obtain ⟨s, a1, a2, a3⟩ := win_none hk
        obtain ⟨j, b1, b2, b3⟩ := hno s (by omega)
        rw [a3 j b1 b2] at b3; cases b3⟩)
      clear fin hno qin hg s13
      repeat' (first | with_reducible refine wo_nil ?_ | ((with_reducible refine wo_any ?_); first | ((with_reducible refine ik_move ?_); refine wo_op rfl (op_move rfl) rfl rfl ?_) | ((with_reducible refine ik_assign ?_); refine wo_op rfl (op_assign rfl) rfl rfl ?_) | ((with_reducible refine ik_bin ?_); first | refine wo_op rfl (op_add' rfl rfl (w64 (by omega) (by omega))) rfl rfl ?_ | refine wo_op rfl (op_leq rfl rfl) rfl rfl ?_) | ((with_reducible refine ik_callb ?_); refine wo_op rfl (op_lenSl rfl Tryz.underlying49) rfl rfl ?_)) | with_reducible refine sq_norm ?_ | with_reducible refine wc_seq ?_ | with_reducible refine wc_region ?_ | with_reducible refine wc_ret ?_ | with_reducible refine wc_exit ?_ | with_reducible refine sq_exit ?_ | with_reducible refine lq_exit ?_ | refine bq_eq rfl ?_ | (refine wc_if rfl (fun hb => dead_A hb) (fun hb => ?_); (try simp only [decide_eq_true_eq, decide_eq_false_iff_not, Bool.not_eq_true', Bool.not_eq_false', Int.not_lt, Int.not_le, Decidable.not_not, not_true_eq_false, not_false_eq_true, beq_self_eq_true, reduceCtorEq] at hb)))
      exact rq2 rfl rfl ⟨⟨_, _, rfl, fn⟩, gr_A⟩
  · have fin : ∀ E : Int, (firstNZ [allE x y u v t r sp lo cl so l, spsE L, rngE tk 1 4096]) = E → winR (gdB cl so (insB x y u v r sp lo l) L) t.toNat (firstNZ [allE x y u v t r sp lo cl so l, spsE L, rngE tk 1 4096]) tk 0 E := fun E q => .inl ⟨hE, rfl, q.symm⟩
    obtain ⟨E, hE'⟩ : ∃ E, (firstNZ [allE x y u v t r sp lo cl so l, spsE L, rngE tk 1 4096]) = E := ⟨_, rfl⟩
    have fin := fin E hE'
    rw [hE'] at qf3 hE fin ⊢
    generalize gdB cl so (insB x y u v r sp lo l) L = g at fin ⊢
    generalize allE x y u v t r sp lo cl so l = E1 at q21 qf3
    generalize spsE L = E2 at q66 qf3
    clear hE'
    obtain ⟨a, c, rfl⟩ := s.form
    obtain ⟨pa, pc, rfl⟩ := p.form
    refine cf_enter0 68 [.tmp 10, .tmp 11] Tryz.func70 rfl rfl rfl rfl ?_
    repeat' (first | with_reducible refine wo_nil ?_ | ((with_reducible refine wo_any ?_); first | ((with_reducible refine ik_move ?_); refine wo_op rfl (op_move rfl) rfl rfl ?_) | ((with_reducible refine ik_assign ?_); refine wo_op rfl (op_assign rfl) rfl rfl ?_) | ((with_reducible refine ik_box ?_); refine wo_op rfl (op_boxAgg rfl zs37 rfl) rfl rfl ?_) | ((with_reducible refine ik_load ?_); first | refine wo_op rfl (op_ldAgg rfl at_A Tryz.underlying37 rfl zs37 rfl rfl) rfl rfl ?_ | refine wo_op rfl (op_ldAgg rfl at_A Tryz.underlying39 rfl zs39 rfl rfl) rfl rfl ?_) | ((with_reducible refine ik_buildSlice ?_); refine wo_op rfl (op_buildSl rfl Tryz.underlying49 zs3 zz3 rfl rfl) rfl rfl ?_) | ((with_reducible refine ik_bin ?_); refine wo_op rfl (op_neq rfl rfl) rfl rfl ?_) | ((with_reducible refine ik_callF (f := 72) ?_); refine wo_op rfl (op_call rfl rfl (c72 _ _ _)) rfl rfl ?_) | ((with_reducible refine ik_callv ?_); first | refine wo_op rfl (op_call rfl rfl (qf3 _ _ (Sl.ofAt (show At _ _ (.cells [.int .i64 E1, .int .i64 E2, .int .i64 (rngE tk 1 4096)] 3 1 false) from at_A) rfl (Nat.le_refl _)))) rfl rfl ?_ | (refine wo_call rfl rfl rfl rfl (q21 _ gr_A wf_A) rfl rfl ?_; rintro _ _ ⟨rfl, hq⟩; all_goals ((try (have hqn := hq.nx)); (try simp only [H.nx_push, H.nx_set, H.nx_bump] at hqn))) | (refine wo_call rfl rfl rfl rfl (q66 _ gr_A wf_A) rfl rfl ?_; rintro _ _ ⟨rfl, hq⟩; all_goals ((try (have hqn := hq.nx)); (try simp only [H.nx_push, H.nx_set, H.nx_bump] at hqn))))) | with_reducible refine sq_norm ?_ | with_reducible refine wc_seq ?_ | with_reducible refine wc_region ?_ | with_reducible refine wc_ret ?_ | with_reducible refine sq_ret ?_ | (refine wc_if rfl (fun hb => ?_) (fun hb => dead_A hb); (try simp only [decide_eq_true_eq, decide_eq_false_iff_not, Bool.not_eq_true', Bool.not_eq_false', Int.not_lt, Int.not_le, Decidable.not_not, not_true_eq_false, not_false_eq_true, beq_self_eq_true, reduceCtorEq] at hb)))
    exact rq2 rfl rfl ⟨⟨_, _, rfl, fin⟩, gr_A⟩
end Go.Proofs.YtlioomhcdlicmaaGreatDoor
