/- The law SurveyMore: the window. -/
import Derived.Test.YtlioomhcdlicmaaGreatDoorL1
set_option linter.all false
/- The law SurveyMore: the window. -/
namespace Go.Proofs.YtlioomhcdlicmaaGreatDoor
open Go Go.Ab Go.Fl
attribute [local irreducible] SeqQ BlkQ LpQ RetQ Wc Wo WD WX Op1 Op1q Op1a Cf Cl From
attribute [local irreducible] Ieee.Format.order Ieee.Format.read Ieee.Format.nearest Ieee.Format.write Ieee.Format.mul Ieee.Format.div Ieee.Format.sqrt Ieee.Datum.order Ieee.Datum.integral K U rngE errN ptE firstNZ vesE watE sgE sgsE allE hitB sqD insB qsL lvl rn rl
set_option maxRecDepth 10000
variable {G : Base} {h : H}

attribute [local irreducible] fl silN insN levN inL leL
theorem any_take {P : Spn → Bool} {L : List Spn} {i : Nat} (hi : i < L.length) : (L.take (i + 1)).any P = ((L.take i).any P || P (L.getD i ⟨0, 0⟩)) := by
  rw [take_next ⟨0, 0⟩ hi, List.any_append]; simp
theorem win_first {g : Nat → Bool} {T N K K' : Nat} (hh : winAt g T N K) (hk : winAt g T N K') : K ≤ K' := by
  by_cases q : K' < K
  · exact absurd hk.2.1 (hh.2.2 K' q)
  · omega
set_option maxHeartbeats 16000000 in
/-- The ticks of a window. -/
theorem c11q {x y u v r sp lo cl so : Int} {T N : Nat} {a : Option Addr} {n c : Nat} {l : List Sg} {L : List Spn} (s : Sl G h 3 (.slice a n c) n (l.flatMap Sg.cells)) (hl : l.length = n) (hn : n < 1000000) (he : allE x y u v (T : Nat) r sp lo cl so l = 0)
    {h0 : H} {ad : Addr} {sa wa : Option Addr} {m sc wn wc c8 wb : Nat} (g0 : Grow h h0) (aV : At h0 h.nx (.cells [.int .i64 x, .int .i64 y, .int .i64 u, .int .i64 v, .int .i64 (T : Nat)] 37 5 false)) (aX : At h0 (h.nx + 1) (.cells [.int .i64 r, .int .i64 sp, .int .i64 lo, .int .i64 cl, .int .i64 so, .slice a n c] 70 6 false)) (aS : At h0 (h.nx + 2) (.cells [.slice sa m sc, .slice wa wn wc, .int .i64 (N : Nat)] 125 3 false)) (aW : At h0 wb (.cells [.int .i64 r, .int .i64 sp, .int .i64 lo, .int .i64 cl, .int .i64 so] 39 5 false)) (s3 : Sl G h0 1 (.slice (some ad) T c8) T ((leL cl so (insB x y u v r sp lo l) T).map (Value.int .i64))) (p : Sl G h 2 (.slice sa m sc) m (L.flatMap Spn.cells)) (hL : L.length = m) (hm : m < 1000000) (hsp : spsE L = 0) (hN : 1 ≤ N ∧ N ≤ 4096) {K k0 : Nat} (hw : winAt (gdB cl so (insB x y u v r sp lo l) L) T N K) (hk0 : k0 + N = K + 1) {h1 : H} (w1 : Wf h1) (g1 : Grow h0 h1) :
    Wc (mz G) none (subc [true, true, true, true, true, true, true, true, true, true, true, true, true, true, true, true, true, true, true, true, false] (Tryz.f11.body.getD .skip)) 308 [(3, .pointer (some ⟨h.nx, 0, some 0⟩)), (4, .pointer (some ⟨h.nx + 1, 0, some 0⟩)), (5, .pointer (some ⟨h.nx + 2, 0, some 0⟩)), (7, .func (.func 73) #[] #[]), (8, .slice (some ad) T c8), (9, .pointer (some ⟨wb, 0, some 0⟩)), (20, .int .i64 (k0 : Nat))] h1 (fun X0 l' h' => X0 = .norm ∧ ∃ i : Unit, (∀ t1 v1, lk ((fun _ => [(3, .pointer (some ⟨h.nx, 0, some 0⟩)), (4, .pointer (some ⟨h.nx + 1, 0, some 0⟩)), (5, .pointer (some ⟨h.nx + 2, 0, some 0⟩)), (7, .func (.func 73) #[] #[]), (8, .slice (some ad) T c8), (9, .pointer (some ⟨wb, 0, some 0⟩)), (20, .int .i64 (k0 : Nat))]) i) t1 = some v1 → lk l' t1 = some v1) ∧ (Wf h' ∧ Grow h0 h')) := by
  obtain ⟨_, _, ⟨bt, bT⟩, hr, hs, hlo, hcl, hso, hlen, hall⟩ := all_ok he
  have hKT := hw.1
  have hin := fun (q : Nat) (h1 : K + 1 ≤ q + N) (h2 : q ≤ K) => win_in hw h1 h2
  have hg : ∀ k, (gdB cl so (insB x y u v r sp lo l) L) k = (decide (lvl cl so (qt (insB x y u v r sp lo l) (k + 1) : Int) = so + 1) && L.any (inP (k : Int))) := fun k => rfl
  have hLg : ∀ m, m < T → (leL cl so (insB x y u v r sp lo l) T).getD m 0 = lvl cl so (qt (insB x y u v r sp lo l) (m + 1) : Int) := fun m hm => by
    unfold leL; simp [List.getD, List.getElem?_map, List.getElem?_range hm]
  have hq : ∀ q, k0 ≤ q → q < k0 + N → q < T ∧ L.any (inP (q : Int)) = true ∧ (leL cl so (insB x y u v r sp lo l) T).getD q 0 = so + 1 := fun q a b => by
    have := hin q (by omega) (by omega)
    rw [hg, Bool.and_eq_true] at this
    refine ⟨by omega, this.2, ?_⟩
    rw [hLg q (by omega)]
    exact of_decide_eq_true this.1
  clear hin hg hLg hw hall hlen he s
  have n0 := g0.nx
  have lS := aS.lt
  have lW := aW.lt
  show Wc (mz G) none (.seq _ (.block _ (.loop _))) _ _ _ _
  refine wc_mid (ι := Unit) (fun _ => [(3, .pointer (some ⟨h.nx, 0, some 0⟩)), (4, .pointer (some ⟨h.nx + 1, 0, some 0⟩)), (5, .pointer (some ⟨h.nx + 2, 0, some 0⟩)), (7, .func (.func 73) #[] #[]), (8, .slice (some ad) T c8), (9, .pointer (some ⟨wb, 0, some 0⟩)), (20, .int .i64 (k0 : Nat)), (22, .int .i64 (k0 : Nat))]) (fun _ h' => h1 = h') ?_ ?_
  · repeat' (first | with_reducible refine wo_nil ?_ | ((with_reducible refine wo_any ?_); first | ((with_reducible refine ik_move ?_); refine wo_op rfl (op_move rfl) rfl rfl ?_) | ((with_reducible refine ik_assign ?_); refine wo_op rfl (op_assign rfl) rfl rfl ?_)) | with_reducible refine wc_region ?_)
    exact ⟨rfl, (), within_lk ⟨rfl, rfl, rfl, rfl, rfl, rfl, rfl, rfl, trivial⟩, rfl⟩
  rintro _ h1' e
  subst e
  refine wc_block ?_
  refine wc_loop (fun q => k0 + N - q) (fun q : Nat => [(3, .pointer (some ⟨h.nx, 0, some 0⟩)), (4, .pointer (some ⟨h.nx + 1, 0, some 0⟩)), (5, .pointer (some ⟨h.nx + 2, 0, some 0⟩)), (7, .func (.func 73) #[] #[]), (8, .slice (some ad) T c8), (9, .pointer (some ⟨wb, 0, some 0⟩)), (20, .int .i64 (k0 : Nat)), (22, .int .i64 (q : Nat))]) (fun q h' => (Wf h' ∧ Grow h0 h') ∧ k0 ≤ q ∧ q ≤ k0 + N) k0 (within_lk ⟨rfl, rfl, rfl, rfl, rfl, rfl, rfl, rfl, trivial⟩) ⟨⟨w1, g1⟩, by omega, by omega⟩ ?_
  clear w1 g1
  rintro q h1 ⟨⟨w1, g1⟩, hq1, hq2⟩
  have aV1 := aV.grow g1
  have aX1 := aX.grow g1
  have aS1 := aS.grow g1
  have aW1 := aW.grow g1
  have nn1 := g1.nx
  have gg1 := g0.trans g1
  by_cases hlt : q < k0 + N
  · obtain ⟨hqT, hany, hlev⟩ := hq q hq1 hlt
    clear hq
    refine wc_mid (ι := Unit) (fun _ => [(3, .pointer (some ⟨h.nx, 0, some 0⟩)), (4, .pointer (some ⟨h.nx + 1, 0, some 0⟩)), (5, .pointer (some ⟨h.nx + 2, 0, some 0⟩)), (7, .func (.func 73) #[] #[]), (8, .slice (some ad) T c8), (9, .pointer (some ⟨wb, 0, some 0⟩)), (20, .int .i64 (k0 : Nat)), (22, .int .i64 (q : Nat))]) (fun _ h' => h1 = h') ?_ ?_
    · repeat' (first | with_reducible refine wo_nil ?_ | ((with_reducible refine wo_any ?_); first | ((with_reducible refine ik_move ?_); refine wo_op rfl (op_move rfl) rfl rfl ?_) | ((with_reducible refine ik_load ?_); refine wo_op rfl (op_ldAt (b := h.nx + 2) (off := 2) rfl at_A Tryz.underlying3 rfl rfl) rfl rfl ?_) | ((with_reducible refine ik_fieldAddr ?_); refine wo_op rfl (op_fieldAddr (o := 2) rfl Tryz.underlying125 rfl zs3 rfl) rfl rfl ?_) | ((with_reducible refine ik_bin ?_); first | refine wo_op rfl (op_lss rfl rfl) rfl rfl ?_ | refine wo_op rfl (op_add' rfl rfl (w64 (by omega) (by omega))) rfl rfl ?_)) | with_reducible refine sq_norm ?_ | with_reducible refine wc_seq ?_ | with_reducible refine wc_region ?_ | with_reducible refine wc_skip ?_ | (refine wc_if rfl (fun hb => ?_) (fun hb => dead_A hb); (try simp only [decide_eq_true_eq, decide_eq_false_iff_not, Bool.not_eq_true', Bool.not_eq_false', Int.not_lt, Int.not_le, Decidable.not_not, not_true_eq_false, not_false_eq_true, beq_self_eq_true, reduceCtorEq] at hb)))
      exact ⟨rfl, (), within_lk ⟨rfl, rfl, rfl, rfl, rfl, rfl, rfl, rfl, trivial⟩, rfl⟩
    rintro _ h1' e
    subst e
    refine wc_mid (ι := Unit) (fun _ => [(3, .pointer (some ⟨h.nx, 0, some 0⟩)), (4, .pointer (some ⟨h.nx + 1, 0, some 0⟩)), (5, .pointer (some ⟨h.nx + 2, 0, some 0⟩)), (7, .func (.func 73) #[] #[]), (8, .slice (some ad) T c8), (9, .pointer (some ⟨wb, 0, some 0⟩)), (20, .int .i64 (k0 : Nat)), (22, .int .i64 (q : Nat))]) (fun _ h' => Wf h' ∧ Grow h0 h') ?_ ?_
    · refine wc_block ?_
      refine wc_mid (ι := Unit) (fun _ => [(3, .pointer (some ⟨h.nx, 0, some 0⟩)), (4, .pointer (some ⟨h.nx + 1, 0, some 0⟩)), (5, .pointer (some ⟨h.nx + 2, 0, some 0⟩)), (7, .func (.func 73) #[] #[]), (8, .slice (some ad) T c8), (9, .pointer (some ⟨wb, 0, some 0⟩)), (20, .int .i64 (k0 : Nat)), (22, .int .i64 (q : Nat)), (23, .bool false)]) (fun _ h' => h1 = h') ?_ ?_
      · repeat' (first | with_reducible refine wo_nil ?_ | ((with_reducible refine wo_any ?_); ((with_reducible refine ik_assign ?_); refine wo_op rfl (op_assign rfl) rfl rfl ?_)) | with_reducible refine wc_region ?_)
        exact ⟨rfl, (), within_lk ⟨rfl, rfl, rfl, rfl, rfl, rfl, rfl, rfl, rfl, trivial⟩, rfl⟩
      rintro _ h1' e
      subst e
      refine wc_mid (ι := Unit) (fun _ => [(3, .pointer (some ⟨h.nx, 0, some 0⟩)), (4, .pointer (some ⟨h.nx + 1, 0, some 0⟩)), (5, .pointer (some ⟨h.nx + 2, 0, some 0⟩)), (7, .func (.func 73) #[] #[]), (8, .slice (some ad) T c8), (9, .pointer (some ⟨wb, 0, some 0⟩)), (20, .int .i64 (k0 : Nat)), (22, .int .i64 (q : Nat)), (23, .bool true)]) (fun _ h' => Wf h' ∧ Grow h0 h') ?_ ?_
      · refine wc_mid (ι := Unit) (fun _ => [(3, .pointer (some ⟨h.nx, 0, some 0⟩)), (4, .pointer (some ⟨h.nx + 1, 0, some 0⟩)), (5, .pointer (some ⟨h.nx + 2, 0, some 0⟩)), (7, .func (.func 73) #[] #[]), (8, .slice (some ad) T c8), (9, .pointer (some ⟨wb, 0, some 0⟩)), (20, .int .i64 (k0 : Nat)), (22, .int .i64 (q : Nat)), (23, .bool ((L.take 0).any (inP (q : Nat)))), (247, .slice sa m sc), (248, .int .i64 (m : Nat)), (249, .int .i64 (0 : Nat))]) (fun _ h' => h1 = h') ?_ ?_
        · repeat' (first | with_reducible refine wo_nil ?_ | ((with_reducible refine wo_any ?_); first | ((with_reducible refine ik_move ?_); refine wo_op rfl (op_move rfl) rfl rfl ?_) | ((with_reducible refine ik_load ?_); refine wo_op rfl (op_ldAt (b := h.nx + 2) (off := 0) rfl at_A Tryz.underlying52 rfl rfl) rfl rfl ?_) | ((with_reducible refine ik_fieldAddr ?_); refine wo_op rfl (op_fieldAddr (o := 0) rfl Tryz.underlying125 rfl zs52 rfl) rfl rfl ?_) | ((with_reducible refine ik_callb ?_); refine wo_op rfl (op_lenSl rfl Tryz.underlying52) rfl rfl ?_)) | with_reducible refine wc_region ?_)
          exact ⟨rfl, (), within_lk ⟨rfl, rfl, rfl, rfl, rfl, rfl, rfl, rfl, rfl, rfl, rfl, rfl, trivial⟩, rfl⟩
        rintro _ h1' e
        subst e
        refine wc_block ?_
        refine wc_loop (fun i => m - i) (fun i : Nat => [(3, .pointer (some ⟨h.nx, 0, some 0⟩)), (4, .pointer (some ⟨h.nx + 1, 0, some 0⟩)), (5, .pointer (some ⟨h.nx + 2, 0, some 0⟩)), (7, .func (.func 73) #[] #[]), (8, .slice (some ad) T c8), (9, .pointer (some ⟨wb, 0, some 0⟩)), (20, .int .i64 (k0 : Nat)), (22, .int .i64 (q : Nat)), (23, .bool ((L.take i).any (inP (q : Nat)))), (247, .slice sa m sc), (248, .int .i64 (m : Nat)), (249, .int .i64 (i : Nat))]) (fun i h' => (Wf h' ∧ Grow h1 h') ∧ i ≤ m) 0 (within_lk ⟨rfl, rfl, rfl, rfl, rfl, rfl, rfl, rfl, rfl, rfl, rfl, rfl, trivial⟩) ⟨⟨w1, Grow.refl _⟩, by omega⟩ ?_
        clear w1
        rintro i h2 ⟨⟨w1, g2⟩, hi⟩
        have nn2 := g2.nx
        have gg2 := gg1.trans g2
        by_cases him : i < m
        · obtain ⟨ud, u1, u3⟩ := rl_at Spn.len ⟨0, 0⟩ (p.grow gg2) hL Tryz.underlying52 zs79 (i := (i : Int)) him rfl
          have an := any_take (P := inP (q : Nat)) (L := L) (i := i) (by omega)
          obtain ⟨x0, hx⟩ : ∃ x, L.getD i ⟨0, 0⟩ = x := ⟨_, rfl⟩
          rw [hx] at u3 an
          obtain ⟨f, tt⟩ := x0
          have hP : inP (q : Nat) ⟨f, tt⟩ = decide (f ≤ (q : Nat) ∧ ((q : Nat) : Int) < tt) := rfl
          rw [hP] at an
          dsimp only [Spn.cells] at u3
          obtain ⟨B2, hB2⟩ : ∃ b, (L.take (i + 1)).any (inP (q : Nat)) = b := ⟨_, rfl⟩
          rw [hB2] at an
          obtain ⟨B, hB⟩ : ∃ b, (L.take i).any (inP (q : Nat)) = b := ⟨_, rfl⟩
          rw [hB] at an ⊢
          clear hx hP hlev hany
          have fin : B2 = B2 := rfl
          cases B with
          | true =>
            rw [Bool.true_or] at an
            repeat' (first | with_reducible refine wo_nil ?_ | ((with_reducible refine wo_any ?_); first | ((with_reducible refine ik_move ?_); refine wo_op rfl (op_move rfl) rfl rfl ?_) | ((with_reducible refine ik_assign ?_); refine wo_op rfl (op_assign rfl) rfl rfl ?_) | ((with_reducible refine ik_indexAddr ?_); refine wo_op rfl (op_indexAddr rfl rfl u1) rfl rfl ?_) | ((with_reducible refine ik_load ?_); refine wo_op rfl (op_ldLn rfl Tryz.underlying79 rfl zs79 (u3 _ gr_A).all) rfl rfl ?_) | ((with_reducible refine ik_pick ?_); refine wo_op rfl (op_pickt rfl rfl) rfl rfl ?_) | ((with_reducible refine ik_bin ?_); first | refine wo_op rfl (op_lss rfl rfl) rfl rfl ?_ | refine wo_op rfl (op_add' rfl rfl (w64 (by omega) (by omega))) rfl rfl ?_) | ((with_reducible refine ik_alloc ?_); refine wo_op rfl (op_alloc zz79 zs79 rfl rfl rfl) rfl rfl ?_) | ((with_reducible refine ik_store ?_); refine wo_op0 rfl (op_stAgg rfl rfl at_A zs35 rfl rfl rfl rfl) rfl ?_) | ((with_reducible refine ik_g ?_); first | refine wo_gskip rfl rfl rfl rfl rfl rfl ?_ | refine wo_gskip' rfl rfl rfl rfl rfl ?_)) | with_reducible refine sq_norm ?_ | with_reducible refine wc_seq ?_ | with_reducible refine wc_region ?_ | with_reducible refine wc_skip ?_ | with_reducible refine wc_block ?_ | with_reducible refine bq_norm ?_ | (refine wc_if rfl (fun hb => ?_) (fun hb => dead_A hb); (try simp only [decide_eq_true_eq, decide_eq_false_iff_not, Bool.not_eq_true', Bool.not_eq_false', Int.not_lt, Int.not_le, Decidable.not_not, not_true_eq_false, not_false_eq_true, beq_self_eq_true, reduceCtorEq] at hb)))
            exact lq_norm (i + 1) (by omega) (within_lk ⟨rfl, rfl, rfl, rfl, rfl, rfl, rfl, rfl, by simp only [lk]; rw [hB2, an], rfl, rfl, rfl, trivial⟩) ⟨⟨wf_A, gr_A⟩, by omega⟩
          | false =>
            rw [Bool.false_or] at an
            by_cases hf : f ≤ (q : Nat)
            · by_cases ht : ((q : Nat) : Int) < tt
              · rw [decide_eq_true ⟨hf, ht⟩] at an
                repeat' (first | with_reducible refine wo_nil ?_ | ((with_reducible refine wo_any ?_); first | ((with_reducible refine ik_move ?_); refine wo_op rfl (op_move rfl) rfl rfl ?_) | ((with_reducible refine ik_assign ?_); refine wo_op rfl (op_assign rfl) rfl rfl ?_) | ((with_reducible refine ik_indexAddr ?_); refine wo_op rfl (op_indexAddr rfl rfl u1) rfl rfl ?_) | ((with_reducible refine ik_load ?_); refine wo_op rfl (op_ldLn rfl Tryz.underlying79 rfl zs79 (u3 _ gr_A).all) rfl rfl ?_) | ((with_reducible refine ik_pick ?_); refine wo_op rfl (op_pickf rfl rfl) rfl rfl ?_) | ((with_reducible refine ik_bin ?_); first | refine wo_op rfl (op_lss rfl rfl) rfl rfl ?_ | refine wo_op rfl (op_add' rfl rfl (w64 (by omega) (by omega))) rfl rfl ?_) | ((with_reducible refine ik_alloc ?_); refine wo_op rfl (op_alloc zz79 zs79 rfl rfl rfl) rfl rfl ?_) | ((with_reducible refine ik_store ?_); refine wo_op0 rfl (op_stAgg rfl rfl at_A zs35 rfl rfl rfl rfl) rfl ?_) | ((with_reducible refine ik_g ?_); first | ((with_reducible refine ig_move ?_); refine wo_grun rfl rfl rfl (op_move rfl) rfl rfl ?_) | ((with_reducible refine ig_load ?_); refine wo_grun rfl rfl rfl (op_ldAt rfl at_A Tryz.underlying3 rfl rfl) rfl rfl ?_) | ((with_reducible refine ig_fieldAddr ?_); first | refine wo_grun rfl rfl rfl (op_fieldAddr (o := 0) rfl Tryz.underlying79 rfl zs3 rfl) rfl rfl ?_ | refine wo_grun rfl rfl rfl (op_fieldAddr (o := 1) rfl Tryz.underlying79 rfl zs3 rfl) rfl rfl ?_) | ((with_reducible refine ig_pick ?_); refine wo_grun rfl rfl rfl (op_pickt rfl rfl) rfl rfl ?_) | ((with_reducible refine ig_bin ?_); first | refine wo_grun rfl rfl rfl (op_lss rfl rfl) rfl rfl ?_ | refine wo_grun rfl rfl rfl (op_leq rfl rfl) rfl rfl ?_) | (refine wo_gsplit rfl rfl rfl (fun hb => ?_) (fun hb => dead_A hb); (try simp only [decide_eq_true_eq, decide_eq_false_iff_not, Bool.not_eq_true', Bool.not_eq_false', Int.not_lt, Int.not_le, Decidable.not_not, not_true_eq_false, not_false_eq_true, beq_self_eq_true, reduceCtorEq] at hb)))) | with_reducible refine sq_norm ?_ | with_reducible refine wc_seq ?_ | with_reducible refine wc_region ?_ | with_reducible refine wc_skip ?_ | with_reducible refine wc_block ?_ | with_reducible refine bq_norm ?_ | (refine wc_if rfl (fun hb => ?_) (fun hb => dead_A hb); (try simp only [decide_eq_true_eq, decide_eq_false_iff_not, Bool.not_eq_true', Bool.not_eq_false', Int.not_lt, Int.not_le, Decidable.not_not, not_true_eq_false, not_false_eq_true, beq_self_eq_true, reduceCtorEq] at hb)))
                exact lq_norm (i + 1) (by omega) (within_lk ⟨rfl, rfl, rfl, rfl, rfl, rfl, rfl, rfl, by simp only [lk]; rw [hB2, an, decide_eq_true ht], rfl, rfl, rfl, trivial⟩) ⟨⟨wf_A, gr_A⟩, by omega⟩
              · rw [decide_eq_false (fun q => ht q.2)] at an
                repeat' (first | with_reducible refine wo_nil ?_ | ((with_reducible refine wo_any ?_); first | ((with_reducible refine ik_move ?_); refine wo_op rfl (op_move rfl) rfl rfl ?_) | ((with_reducible refine ik_assign ?_); refine wo_op rfl (op_assign rfl) rfl rfl ?_) | ((with_reducible refine ik_indexAddr ?_); refine wo_op rfl (op_indexAddr rfl rfl u1) rfl rfl ?_) | ((with_reducible refine ik_load ?_); refine wo_op rfl (op_ldLn rfl Tryz.underlying79 rfl zs79 (u3 _ gr_A).all) rfl rfl ?_) | ((with_reducible refine ik_pick ?_); refine wo_op rfl (op_pickf rfl rfl) rfl rfl ?_) | ((with_reducible refine ik_bin ?_); first | refine wo_op rfl (op_lss rfl rfl) rfl rfl ?_ | refine wo_op rfl (op_add' rfl rfl (w64 (by omega) (by omega))) rfl rfl ?_) | ((with_reducible refine ik_alloc ?_); refine wo_op rfl (op_alloc zz79 zs79 rfl rfl rfl) rfl rfl ?_) | ((with_reducible refine ik_store ?_); refine wo_op0 rfl (op_stAgg rfl rfl at_A zs35 rfl rfl rfl rfl) rfl ?_) | ((with_reducible refine ik_g ?_); first | ((with_reducible refine ig_move ?_); refine wo_grun rfl rfl rfl (op_move rfl) rfl rfl ?_) | ((with_reducible refine ig_load ?_); refine wo_grun rfl rfl rfl (op_ldAt rfl at_A Tryz.underlying3 rfl rfl) rfl rfl ?_) | ((with_reducible refine ig_fieldAddr ?_); first | refine wo_grun rfl rfl rfl (op_fieldAddr (o := 0) rfl Tryz.underlying79 rfl zs3 rfl) rfl rfl ?_ | refine wo_grun rfl rfl rfl (op_fieldAddr (o := 1) rfl Tryz.underlying79 rfl zs3 rfl) rfl rfl ?_) | ((with_reducible refine ig_pick ?_); refine wo_grun rfl rfl rfl (op_pickt rfl rfl) rfl rfl ?_) | ((with_reducible refine ig_bin ?_); first | refine wo_grun rfl rfl rfl (op_lss rfl rfl) rfl rfl ?_ | refine wo_grun rfl rfl rfl (op_leq rfl rfl) rfl rfl ?_) | (refine wo_gsplit rfl rfl rfl (fun hb => ?_) (fun hb => dead_A hb); (try simp only [decide_eq_true_eq, decide_eq_false_iff_not, Bool.not_eq_true', Bool.not_eq_false', Int.not_lt, Int.not_le, Decidable.not_not, not_true_eq_false, not_false_eq_true, beq_self_eq_true, reduceCtorEq] at hb)))) | with_reducible refine sq_norm ?_ | with_reducible refine wc_seq ?_ | with_reducible refine wc_region ?_ | with_reducible refine wc_skip ?_ | with_reducible refine wc_block ?_ | with_reducible refine bq_norm ?_ | (refine wc_if rfl (fun hb => ?_) (fun hb => dead_A hb); (try simp only [decide_eq_true_eq, decide_eq_false_iff_not, Bool.not_eq_true', Bool.not_eq_false', Int.not_lt, Int.not_le, Decidable.not_not, not_true_eq_false, not_false_eq_true, beq_self_eq_true, reduceCtorEq] at hb)))
                exact lq_norm (i + 1) (by omega) (within_lk ⟨rfl, rfl, rfl, rfl, rfl, rfl, rfl, rfl, by simp only [lk]; rw [hB2, an, decide_eq_false ht], rfl, rfl, rfl, trivial⟩) ⟨⟨wf_A, gr_A⟩, by omega⟩
            · rw [decide_eq_false (fun q => hf q.1)] at an
              repeat' (first | with_reducible refine wo_nil ?_ | ((with_reducible refine wo_any ?_); first | ((with_reducible refine ik_move ?_); refine wo_op rfl (op_move rfl) rfl rfl ?_) | ((with_reducible refine ik_assign ?_); refine wo_op rfl (op_assign rfl) rfl rfl ?_) | ((with_reducible refine ik_indexAddr ?_); refine wo_op rfl (op_indexAddr rfl rfl u1) rfl rfl ?_) | ((with_reducible refine ik_load ?_); refine wo_op rfl (op_ldLn rfl Tryz.underlying79 rfl zs79 (u3 _ gr_A).all) rfl rfl ?_) | ((with_reducible refine ik_pick ?_); refine wo_op rfl (op_pickf rfl rfl) rfl rfl ?_) | ((with_reducible refine ik_bin ?_); first | refine wo_op rfl (op_lss rfl rfl) rfl rfl ?_ | refine wo_op rfl (op_add' rfl rfl (w64 (by omega) (by omega))) rfl rfl ?_) | ((with_reducible refine ik_alloc ?_); refine wo_op rfl (op_alloc zz79 zs79 rfl rfl rfl) rfl rfl ?_) | ((with_reducible refine ik_store ?_); refine wo_op0 rfl (op_stAgg rfl rfl at_A zs35 rfl rfl rfl rfl) rfl ?_) | ((with_reducible refine ik_g ?_); first | refine wo_gskip rfl rfl rfl rfl rfl rfl ?_ | ((with_reducible refine ig_move ?_); refine wo_grun rfl rfl rfl (op_move rfl) rfl rfl ?_) | ((with_reducible refine ig_load ?_); refine wo_grun rfl rfl rfl (op_ldAt rfl at_A Tryz.underlying3 rfl rfl) rfl rfl ?_) | ((with_reducible refine ig_fieldAddr ?_); refine wo_grun rfl rfl rfl (op_fieldAddr (o := 0) rfl Tryz.underlying79 rfl zs3 rfl) rfl rfl ?_) | ((with_reducible refine ig_pick ?_); refine wo_grun rfl rfl rfl (op_pickf rfl rfl) rfl rfl ?_) | ((with_reducible refine ig_bin ?_); refine wo_grun rfl rfl rfl (op_leq rfl rfl) rfl rfl ?_) | (refine wo_gsplit rfl rfl rfl (fun hb => dead_A hb) (fun hb => ?_); (try simp only [decide_eq_true_eq, decide_eq_false_iff_not, Bool.not_eq_true', Bool.not_eq_false', Int.not_lt, Int.not_le, Decidable.not_not, not_true_eq_false, not_false_eq_true, beq_self_eq_true, reduceCtorEq] at hb)))) | with_reducible refine sq_norm ?_ | with_reducible refine wc_seq ?_ | with_reducible refine wc_region ?_ | with_reducible refine wc_skip ?_ | with_reducible refine wc_block ?_ | with_reducible refine bq_norm ?_ | (refine wc_if rfl (fun hb => ?_) (fun hb => dead_A hb); (try simp only [decide_eq_true_eq, decide_eq_false_iff_not, Bool.not_eq_true', Bool.not_eq_false', Int.not_lt, Int.not_le, Decidable.not_not, not_true_eq_false, not_false_eq_true, beq_self_eq_true, reduceCtorEq] at hb)))
              exact lq_norm (i + 1) (by omega) (within_lk ⟨rfl, rfl, rfl, rfl, rfl, rfl, rfl, rfl, by simp only [lk]; rw [hB2, an], rfl, rfl, rfl, trivial⟩) ⟨⟨wf_A, gr_A⟩, by omega⟩
        · rw [List.take_of_length_le (by omega), hany]
          repeat' (first | with_reducible refine wo_nil ?_ | ((with_reducible refine wo_any ?_); ((with_reducible refine ik_bin ?_); refine wo_op rfl (op_lss rfl rfl) rfl rfl ?_)) | with_reducible refine sq_norm ?_ | with_reducible refine wc_seq ?_ | with_reducible refine wc_region ?_ | with_reducible refine wc_exit ?_ | with_reducible refine sq_exit ?_ | with_reducible refine lq_exit ?_ | refine bq_eq rfl ?_ | (refine wc_if rfl (fun hb => dead_A hb) (fun hb => ?_); (try simp only [decide_eq_true_eq, decide_eq_false_iff_not, Bool.not_eq_true', Bool.not_eq_false', Int.not_lt, Int.not_le, Decidable.not_not, not_true_eq_false, not_false_eq_true, beq_self_eq_true, reduceCtorEq] at hb)))
          exact ⟨rfl, (), within_lk ⟨rfl, rfl, rfl, rfl, rfl, rfl, rfl, rfl, rfl, trivial⟩, w1, g1.trans g2⟩
      clear w1 g1 aV1 aX1 aS1 aW1 nn1 gg1
      rintro _ h1 ⟨w1, g1⟩
      have aV1 := aV.grow g1
      have aX1 := aX.grow g1
      have aS1 := aS.grow g1
      have aW1 := aW.grow g1
      have nn1 := g1.nx
      have gg1 := g0.trans g1
      obtain ⟨ld, l1, l3⟩ := in_atV (Value.int .i64) 0 (s3.grow g1) Tryz.underlying49 zs3 (i := (q : Int)) hqT rfl
      rw [hlev] at l3
      repeat' (first | ((with_reducible refine xk_any ?_); ((with_reducible refine xk_as0 ?_); first | ((with_reducible refine xk_move ?_); refine wx_q (wt_none rfl) rfl rfl (op_q rfl (op_move rfl)) rfl rfl rfl ?_) | ((with_reducible refine xk_un ?_); refine wx_q (wt_none rfl) rfl rfl (op_q rfl (op_not rfl)) rfl rfl rfl ?_) | ((with_reducible refine xk_pick ?_); refine wx_q (wt_none rfl) rfl rfl (op_q rfl (op_pickf rfl rfl)) rfl rfl rfl ?_) | ((with_reducible refine xk_g ?_); first | ((with_reducible refine xg_move ?_); refine wx_q (wt_run rfl rfl rfl) rfl rfl (op_q rfl (op_move rfl)) rfl rfl rfl ?_) | ((with_reducible refine xg_indexAddr ?_); refine wx_q (wt_run rfl rfl rfl) rfl rfl (op_q rfl (op_indexAddr rfl rfl l1)) rfl rfl rfl ?_) | ((with_reducible refine xg_load ?_); first | refine wx_h0 (wt_run rfl rfl rfl) rfl (op_q rfl (op_ldCell rfl Tryz.underlying3 rfl (l3 _ gr_A))) rfl rfl rfl ?_ | refine wx_h0 (wt_run rfl rfl rfl) rfl (op_q rfl (op_ldAt (b := wb) (off := 4) rfl at_A Tryz.underlying3 rfl rfl)) rfl rfl rfl ?_) | ((with_reducible refine xg_fieldAddr ?_); refine wx_q (wt_run rfl rfl rfl) rfl rfl (op_q rfl (op_fieldAddr (o := 4) rfl Tryz.underlying39 rfl zs3 rfl)) rfl rfl rfl ?_) | ((with_reducible refine xg_bin ?_); first | refine wx_q (wt_run rfl rfl rfl) rfl rfl (op_q rfl (op_neq rfl rfl)) rfl rfl rfl ?_ | refine wx_q (wt_run rfl rfl rfl) rfl rfl (op_q rfl (op_add' rfl rfl (w64 (by omega) (by omega)))) rfl rfl rfl ?_)) | with_reducible refine wx_nil0 ?_ ?_)) | with_reducible exact obl_nil | with_reducible refine obl_cons ?_ ?_ | ((with_reducible refine ik_obs ?_); first | exact obs_nil | refine obs_chkn rfl rfl (op_q rfl (op_ldCell rfl Tryz.underlying3 rfl (l3 _ gr_A))) ?_ | refine obs_chkn rfl rfl (op_q rfl (op_ldAt (b := wb) (off := 4) rfl at_A Tryz.underlying3 rfl (by rfl))) ?_) | with_reducible refine sq_norm ?_ | with_reducible refine wc_seq ?_ | with_reducible refine wc_skip ?_ | with_reducible refine bq_norm ?_ | (refine wc_if rfl (fun hb => (of_decide_eq_true hb rfl).elim) (fun hb => ?_); (try simp only [decide_eq_true_eq, decide_eq_false_iff_not, Bool.not_eq_true', Bool.not_eq_false', Int.not_lt, Int.not_le, Decidable.not_not, not_true_eq_false, not_false_eq_true, beq_self_eq_true, reduceCtorEq] at hb)) | refine wc_drawB (id := 51) 12 [0, 1, 3, 7, 7, 31, 63, 7, 135, 391, 1023, 2047] [0, 1, 2, 3, 4, 5, 6, 7, 8, 9, 10, 11] (by kernel_rfl) (by kernel_rfl) rfl rfl ?_)
      exact ⟨rfl, (), within_lk ⟨rfl, rfl, rfl, rfl, rfl, rfl, rfl, rfl, trivial⟩, wf_A, gr_A⟩
    · clear w1 g1 aV1 aX1 aS1 aW1 nn1 gg1
      rintro _ h1 ⟨w1, g1⟩
      repeat' (first | with_reducible refine wo_nil ?_ | ((with_reducible refine wo_any ?_); first | ((with_reducible refine ik_move ?_); refine wo_op rfl (op_move rfl) rfl rfl ?_) | ((with_reducible refine ik_assign ?_); refine wo_op rfl (op_assign rfl) rfl rfl ?_) | ((with_reducible refine ik_bin ?_); refine wo_op rfl (op_add' rfl rfl (w64 (by omega) (by omega))) rfl rfl ?_)) | with_reducible refine wc_region ?_)
      exact lq_norm (q + 1) (by omega) (within_lk ⟨rfl, rfl, rfl, rfl, rfl, rfl, rfl, rfl, trivial⟩) ⟨⟨wf_A, gr_A⟩, by omega, by omega⟩
  · have e : q = k0 + N := by omega
    subst e
    repeat' (first | with_reducible refine wo_nil ?_ | ((with_reducible refine wo_any ?_); first | ((with_reducible refine ik_move ?_); refine wo_op rfl (op_move rfl) rfl rfl ?_) | ((with_reducible refine ik_load ?_); refine wo_op rfl (op_ldAt (b := h.nx + 2) (off := 2) rfl at_A Tryz.underlying3 rfl rfl) rfl rfl ?_) | ((with_reducible refine ik_fieldAddr ?_); refine wo_op rfl (op_fieldAddr (o := 2) rfl Tryz.underlying125 rfl zs3 rfl) rfl rfl ?_) | ((with_reducible refine ik_bin ?_); first | refine wo_op rfl (op_lss rfl rfl) rfl rfl ?_ | refine wo_op rfl (op_add' rfl rfl (w64 (by omega) (by omega))) rfl rfl ?_)) | with_reducible refine sq_norm ?_ | with_reducible refine wc_seq ?_ | with_reducible refine wc_region ?_ | with_reducible refine wc_exit ?_ | with_reducible refine sq_exit ?_ | with_reducible refine lq_exit ?_ | refine bq_eq rfl ?_ | (refine wc_if rfl (fun hb => dead_A hb) (fun hb => ?_); (try simp only [decide_eq_true_eq, decide_eq_false_iff_not, Bool.not_eq_true', Bool.not_eq_false', Int.not_lt, Int.not_le, Decidable.not_not, not_true_eq_false, not_false_eq_true, beq_self_eq_true, reduceCtorEq] at hb)))
    exact ⟨rfl, (), within_lk ⟨rfl, rfl, rfl, rfl, rfl, rfl, rfl, trivial⟩, w1, g1⟩
set_option maxHeartbeats 16000000 in
/-- From the window on. -/
theorem c11w {x y u v r sp lo cl so : Int} {T N : Nat} {a : Option Addr} {n c : Nat} {l : List Sg} {L : List Spn} (s : Sl G h 3 (.slice a n c) n (l.flatMap Sg.cells)) (hl : l.length = n) (hn : n < 1000000) (he : allE x y u v (T : Nat) r sp lo cl so l = 0)
    {h0 : H} {ad : Addr} {sa wa : Option Addr} {m sc wn wc c8 wb : Nat} (g0 : Grow h h0) (aV : At h0 h.nx (.cells [.int .i64 x, .int .i64 y, .int .i64 u, .int .i64 v, .int .i64 (T : Nat)] 37 5 false)) (aX : At h0 (h.nx + 1) (.cells [.int .i64 r, .int .i64 sp, .int .i64 lo, .int .i64 cl, .int .i64 so, .slice a n c] 70 6 false)) (aS : At h0 (h.nx + 2) (.cells [.slice sa m sc, .slice wa wn wc, .int .i64 (N : Nat)] 125 3 false)) (aW : At h0 wb (.cells [.int .i64 r, .int .i64 sp, .int .i64 lo, .int .i64 cl, .int .i64 so] 39 5 false)) (s3 : Sl G h0 1 (.slice (some ad) T c8) T ((leL cl so (insB x y u v r sp lo l) T).map (Value.int .i64))) (p : Sl G h 2 (.slice sa m sc) m (L.flatMap Spn.cells)) (hL : L.length = m) (hm : m < 1000000) (hsp : spsE L = 0) (hN : 1 ≤ N ∧ N ≤ 4096) {h1 : H} (w1 : Wf h1) (g1 : Grow h0 h1) :
    Wc (mz G) none (subc [true, true, true, true, true, true, true, true, true, true, true, true, true, true, true, true, true] (Tryz.f11.body.getD .skip)) 308 [(3, .pointer (some ⟨h.nx, 0, some 0⟩)), (4, .pointer (some ⟨h.nx + 1, 0, some 0⟩)), (5, .pointer (some ⟨h.nx + 2, 0, some 0⟩)), (7, .func (.func 73) #[] #[]), (8, .slice (some ad) T c8), (9, .pointer (some ⟨wb, 0, some 0⟩))] h1 (RetQ (mz G) [.tmp 6] fun r h' => r = .bool true ∧ Grow h h') := by
  obtain ⟨_, _, ⟨bt, bT⟩, hr, hs, hlo, hcl, hso, hlen, hall⟩ := all_ok he
  have n0 := g0.nx
  have lS := aS.lt
  have lW := aW.lt
  have q18 := fun (h' : H) (g : Grow h h') (w' : Wf h') => cf_formW (c18 (s.grow g) hl hn w')
  have q68 := fun (h' : H) (g : Grow h h') (w' : Wf h') => cf_formW (c68 (p.grow g) hm w')
  have q69 := fun (h' : H) (w1 w2 : Value) (s1 : Sl G h' 3 w1 n (l.flatMap Sg.cells)) (s2 : Sl G h' 2 w2 m (L.flatMap Spn.cells)) (w' : Wf h') => c69 s1 hl hn s2 hL hm he hsp hN w'
  have tick := fun (K k0 : Nat) (hw : winAt (gdB cl so (insB x y u v r sp lo l) L) T N K) (hk0 : k0 + N = K + 1) (h1 : H) (w1 : Wf h1) (g1 : Grow h0 h1) => c11q s hl hn he g0 aV aX aS aW s3 p hL hm hsp hN hw hk0 w1 g1
  have q69' := fun (M : Nat) (hM : N = M + 2) (h' : H) (w1 w2 : Value) (s1 : Sl G h' 3 w1 n (l.flatMap Sg.cells)) (s2 : Sl G h' 2 w2 m (L.flatMap Spn.cells)) (w' : Wf h') => c69 (N := M + 1) s1 hl hn s2 hL hm he hsp (by omega) w'
  clear hall hlen he hsp
  obtain ⟨g, hg⟩ : ∃ g, (gdB cl so (insB x y u v r sp lo l) L) = g := ⟨_, rfl⟩
  rw [hg] at q69 q69' tick
  clear hg
  show Wc (mz G) none (.seq _ _) _ _ _ _
  refine wc_mid (ι := Int × Int) (fun z => [(3, .pointer (some ⟨h.nx, 0, some 0⟩)), (4, .pointer (some ⟨h.nx + 1, 0, some 0⟩)), (5, .pointer (some ⟨h.nx + 2, 0, some 0⟩)), (7, .func (.func 73) #[] #[]), (8, .slice (some ad) T c8), (9, .pointer (some ⟨wb, 0, some 0⟩)), (20, .int .i64 z.1), (21, .int .i64 z.2)]) (fun z h' => ((z.1 = 0 ∧ z.2 = 7 ∧ ∀ K, ¬winAt g T N K) ∨ (z.2 = 0 ∧ ∃ K, winAt g T N K ∧ z.1 = (K : Int) + 1 - (N : Int))) ∧ Wf h' ∧ Grow h0 h') ?_ ?_
  · have aV1 := aV.grow g1
    have aX1 := aX.grow g1
    have aS1 := aS.grow g1
    have aW1 := aW.grow g1
    have nn1 := g1.nx
    have gg1 := g0.trans g1
    clear tick q69'
    repeat' (first | ((with_reducible refine xk_any ?_); ((with_reducible refine xk_as0 ?_); first | ((with_reducible refine xk_move ?_); refine wx_q (wt_none rfl) rfl rfl (op_q rfl (op_move rfl)) rfl rfl rfl ?_) | ((with_reducible refine xk_assign ?_); refine wx_q (wt_none rfl) rfl rfl (op_q rfl (op_assign rfl)) rfl rfl rfl ?_) | ((with_reducible refine xk_load ?_); first | refine wx_h0 (wt_none rfl) rfl (op_q rfl (op_ldAt (b := h.nx + 2) (off := 0) rfl at_A Tryz.underlying52 rfl rfl)) rfl rfl rfl ?_ | refine wx_h0 (wt_none rfl) rfl (op_q rfl (op_ldAt (b := h.nx + 2) (off := 2) rfl at_A Tryz.underlying3 rfl rfl)) rfl rfl rfl ?_ | refine wx_h0 (wt_none rfl) rfl (op_q rfl (op_ldAgg rfl at_A Tryz.underlying37 rfl zs37 rfl rfl)) rfl rfl rfl ?_ | refine wx_h0 (wt_none rfl) rfl (op_q rfl (op_ldAt rfl at_A Tryz.underlying40 rfl rfl)) rfl rfl rfl ?_ | refine wx_h0 (wt_none rfl) rfl (op_q rfl (op_ldAgg rfl at_A Tryz.underlying39 rfl zs39 rfl rfl)) rfl rfl rfl ?_) | ((with_reducible refine xk_fieldAddr ?_); first | refine wx_q (wt_none rfl) rfl rfl (op_q rfl (op_fieldAddr (o := 5) rfl Tryz.underlying70 rfl zs40 rfl)) rfl rfl rfl ?_ | refine wx_q (wt_none rfl) rfl rfl (op_q rfl (op_fieldAddr (o := 0) rfl Tryz.underlying125 rfl zs52 rfl)) rfl rfl rfl ?_ | refine wx_q (wt_none rfl) rfl rfl (op_q rfl (op_fieldAddr (o := 2) rfl Tryz.underlying125 rfl zs3 rfl)) rfl rfl rfl ?_) | ((with_reducible refine xk_extract ?_); refine wx_q (wt_none rfl) rfl rfl (op_q rfl (op_extract rfl rfl)) rfl rfl rfl ?_) | ((with_reducible refine xk_callv ?_); first | (refine wx_call0 (wt_none rfl) rfl rfl rfl rfl (q18 _ (gg1.trans gr_A) wf_A) rfl rfl ?_; rintro _ _ ⟨⟨a1, c1', rfl, s1⟩, hq⟩; all_goals ((try (have hqn := hq.nx)); (try simp only [H.nx_push, H.nx_set, H.nx_bump] at hqn))) | (refine wx_call0 (wt_none rfl) rfl rfl rfl rfl (q68 _ (gg1.trans gr_A) wf_A) rfl rfl ?_; rintro _ _ ⟨⟨a2, c2', rfl, s2⟩, hq⟩; all_goals ((try (have hqn := hq.nx)); (try simp only [H.nx_push, H.nx_set, H.nx_bump] at hqn))) | (refine wx_call0 (wt_none rfl) rfl rfl rfl rfl (q69 _ _ _ (s1.grow gr_A) (s2.grow gr_A) wf_A) rfl rfl ?_; rintro _ _ ⟨⟨ra, re, rfl, hwin⟩, hq⟩; all_goals ((try (have hqn := hq.nx)); (try simp only [H.nx_push, H.nx_set, H.nx_bump] at hqn)))) | with_reducible refine wx_nil0 ?_ ?_)) | with_reducible exact obl_nil | with_reducible refine obl_cons ?_ ?_ | ((with_reducible refine ik_obs ?_); first | exact obs_nil | refine obs_skip rfl ?_ | refine obs_chkn rfl rfl (op_q rfl (op_ldAt (b := h.nx + 2) (off := 0) rfl at_A Tryz.underlying52 rfl (by rfl))) ?_ | refine obs_chkn rfl rfl (op_q rfl (op_ldAt (b := h.nx + 2) (off := 2) rfl at_A Tryz.underlying3 rfl (by rfl))) ?_ | refine obs_chkn rfl rfl (op_q rfl (op_ldAgg rfl at_A Tryz.underlying37 rfl zs37 (by rfl) rfl)) ?_ | refine obs_chkn rfl rfl (op_q rfl (op_ldAt rfl at_A Tryz.underlying40 rfl (by rfl))) ?_ | refine obs_chkn rfl rfl (op_q rfl (op_ldAgg rfl at_A Tryz.underlying39 rfl zs39 (by rfl) rfl)) ?_) | refine wc_drawB (id := 37) 16 [0, 0, 0, 4, 12, 0, 32, 124, 0, 256, 1023, 2047, 4095, 4095, 8191, 32767] [0, 1, 2, 3, 4, 5, 6, 7, 8, 9, 10, 11, 12, 13, 14, 15] (by kernel_rfl) (by kernel_rfl) rfl rfl ?_)
    exact ⟨rfl, (ra, re), within_lk ⟨rfl, rfl, rfl, rfl, rfl, rfl, rfl, rfl, trivial⟩, hwin, wf_A, gr_A⟩
  clear w1 g1
  rintro ⟨ra, re⟩ h1 ⟨hwin, w1, g1⟩
  dsimp only at hwin ⊢
  have aV1 := aV.grow g1
  have aX1 := aX.grow g1
  have aS1 := aS.grow g1
  have aW1 := aW.grow g1
  have nn1 := g1.nx
  have gg1 := g0.trans g1
  rcases hwin with ⟨rfl, rfl, _⟩ | ⟨rfl, K, hw, hra⟩
  · clear q18 q68 q69 q69' tick
    repeat' (first | with_reducible refine wo_nil ?_ | ((with_reducible refine wo_any ?_); first | ((with_reducible refine ik_move ?_); refine wo_op rfl (op_move rfl) rfl rfl ?_) | ((with_reducible refine ik_assign ?_); refine wo_op rfl (op_assign rfl) rfl rfl ?_) | ((with_reducible refine ik_pick ?_); refine wo_op rfl (op_pickt rfl rfl) rfl rfl ?_) | ((with_reducible refine ik_bin ?_); first | refine wo_op rfl (op_neq rfl rfl) rfl rfl ?_ | refine wo_op rfl (op_eql rfl rfl) rfl rfl ?_) | ((with_reducible refine ik_g ?_); ((with_reducible refine ig_callF (f := 15) ?_); refine wo_grun rfl rfl rfl (op_call rfl rfl (c15)) rfl rfl ?_))) | with_reducible refine sq_norm ?_ | with_reducible refine wc_seq ?_ | with_reducible refine wc_region ?_ | with_reducible refine wc_ret ?_ | with_reducible refine sq_ret ?_ | refine wc_ift rfl ?_)
    exact rq1 rfl ⟨rfl, gr_A⟩
  have hKN := qt_le (fun k => !g k) (K + 1)
  rw [hw.2.1] at hKN
  have hKT := hw.1
  obtain ⟨k0, hk0⟩ : ∃ k0, k0 + N = K + 1 := ⟨K + 1 - N, by omega⟩
  have e : ra = (k0 : Nat) := by omega
  subst e
  refine wc_mid (ι := Unit) (fun _ => [(3, .pointer (some ⟨h.nx, 0, some 0⟩)), (4, .pointer (some ⟨h.nx + 1, 0, some 0⟩)), (5, .pointer (some ⟨h.nx + 2, 0, some 0⟩)), (7, .func (.func 73) #[] #[]), (8, .slice (some ad) T c8), (9, .pointer (some ⟨wb, 0, some 0⟩)), (20, .int .i64 (k0 : Nat))]) (fun _ h' => h1 = h') ?_ ?_
  · clear q18 q68 q69 q69' tick
    repeat' (first | with_reducible refine wo_nil ?_ | ((with_reducible refine wo_any ?_); first | ((with_reducible refine ik_move ?_); refine wo_op rfl (op_move rfl) rfl rfl ?_) | ((with_reducible refine ik_bin ?_); refine wo_op rfl (op_neq rfl rfl) rfl rfl ?_)) | with_reducible refine sq_norm ?_ | with_reducible refine wc_seq ?_ | with_reducible refine wc_region ?_ | with_reducible refine wc_skip ?_ | refine wc_iff rfl ?_)
    exact ⟨rfl, (), within_lk ⟨rfl, rfl, rfl, rfl, rfl, rfl, rfl, trivial⟩, rfl⟩
  rintro _ h1' e
  subst e
  refine wc_mid (ι := Unit) (fun _ => [(3, .pointer (some ⟨h.nx, 0, some 0⟩)), (4, .pointer (some ⟨h.nx + 1, 0, some 0⟩)), (5, .pointer (some ⟨h.nx + 2, 0, some 0⟩)), (7, .func (.func 73) #[] #[]), (8, .slice (some ad) T c8), (9, .pointer (some ⟨wb, 0, some 0⟩)), (20, .int .i64 (k0 : Nat))]) (fun _ h' => h1 = h') ?_ ?_
  · clear q18 q68 q69 q69' tick
    repeat' (first | with_reducible refine wo_nil ?_ | ((with_reducible refine wo_any ?_); first | ((with_reducible refine ik_move ?_); refine wo_op rfl (op_move rfl) rfl rfl ?_) | ((with_reducible refine ik_pick ?_); refine wo_op rfl (op_pickf rfl rfl) rfl rfl ?_) | ((with_reducible refine ik_bin ?_); refine wo_op rfl (op_lss rfl rfl) rfl rfl ?_) | ((with_reducible refine ik_g ?_); first | ((with_reducible refine ig_move ?_); refine wo_grun rfl rfl rfl (op_move rfl) rfl rfl ?_) | ((with_reducible refine ig_load ?_); first | refine wo_grun rfl rfl rfl (op_ldAt (b := h.nx + 2) (off := 2) rfl at_A Tryz.underlying3 rfl rfl) rfl rfl ?_ | refine wo_grun rfl rfl rfl (op_ldAt (b := h.nx) (off := 4) rfl at_A Tryz.underlying3 rfl rfl) rfl rfl ?_) | ((with_reducible refine ig_fieldAddr ?_); first | refine wo_grun rfl rfl rfl (op_fieldAddr (o := 2) rfl Tryz.underlying125 rfl zs3 rfl) rfl rfl ?_ | refine wo_grun rfl rfl rfl (op_fieldAddr (o := 4) rfl Tryz.underlying37 rfl zs3 rfl) rfl rfl ?_) | ((with_reducible refine ig_bin ?_); first | refine wo_grun rfl rfl rfl (op_add' rfl rfl (w64 (by omega) (by omega))) rfl rfl ?_ | refine wo_grun rfl rfl rfl (op_gtr rfl rfl) rfl rfl ?_))) | with_reducible refine sq_norm ?_ | with_reducible refine wc_seq ?_ | with_reducible refine wc_region ?_ | with_reducible refine wc_skip ?_ | (refine wc_if rfl (fun hb => dead_A hb) (fun hb => ?_); (try simp only [decide_eq_true_eq, decide_eq_false_iff_not, Bool.not_eq_true', Bool.not_eq_false', Int.not_lt, Int.not_le, Decidable.not_not, not_true_eq_false, not_false_eq_true, beq_self_eq_true, reduceCtorEq] at hb)))
    exact ⟨rfl, (), within_lk ⟨rfl, rfl, rfl, rfl, rfl, rfl, rfl, trivial⟩, rfl⟩
  rintro _ h1' e
  subst e
  refine wc_mid (ι := Unit) (fun _ => [(3, .pointer (some ⟨h.nx, 0, some 0⟩)), (4, .pointer (some ⟨h.nx + 1, 0, some 0⟩)), (5, .pointer (some ⟨h.nx + 2, 0, some 0⟩)), (7, .func (.func 73) #[] #[]), (8, .slice (some ad) T c8), (9, .pointer (some ⟨wb, 0, some 0⟩)), (20, .int .i64 (k0 : Nat))]) (fun _ h' => Wf h' ∧ Grow h0 h') (tick K k0 hw hk0 h1 w1 g1) ?_
  clear w1 g1 aV1 aX1 aS1 aW1 nn1 gg1
  rintro _ h1 ⟨w1, g1⟩
  have aV1 := aV.grow g1
  have aX1 := aX.grow g1
  have aS1 := aS.grow g1
  have aW1 := aW.grow g1
  have nn1 := g1.nx
  have gg1 := g0.trans g1
  by_cases hN1 : N = 1
  · subst hN1
    clear q18 q68 q69 q69' tick
    repeat' (first | with_reducible refine wo_nil ?_ | ((with_reducible refine wo_any ?_); first | ((with_reducible refine ik_assign ?_); refine wo_op rfl (op_assign rfl) rfl rfl ?_) | ((with_reducible refine ik_load ?_); refine wo_op rfl (op_ldAt (b := h.nx + 2) (off := 2) rfl at_A Tryz.underlying3 rfl rfl) rfl rfl ?_) | ((with_reducible refine ik_fieldAddr ?_); refine wo_op rfl (op_fieldAddr (o := 2) rfl Tryz.underlying125 rfl zs3 rfl) rfl rfl ?_) | ((with_reducible refine ik_bin ?_); refine wo_op rfl (op_eql rfl rfl) rfl rfl ?_) | ((with_reducible refine ik_callF (f := 15) ?_); refine wo_op rfl (op_call rfl rfl (c15)) rfl rfl ?_)) | with_reducible refine sq_norm ?_ | with_reducible refine wc_seq ?_ | with_reducible refine wc_region ?_ | with_reducible refine wc_ret ?_ | with_reducible refine sq_ret ?_ | refine wc_ift rfl ?_)
    exact rq1 rfl ⟨rfl, gr_A⟩
  · obtain ⟨M, hM⟩ : ∃ M, N = M + 2 := ⟨N - 2, by omega⟩
    have q70 := q69' M hM
    subst hM
    rw [show ((M + 1 : Nat) : Int) = ((M + 2 : Nat) : Int) - 1 by omega] at q70
    clear q69 q69' tick
    refine wc_mid (ι := Unit) (fun _ => [(3, .pointer (some ⟨h.nx, 0, some 0⟩)), (4, .pointer (some ⟨h.nx + 1, 0, some 0⟩)), (5, .pointer (some ⟨h.nx + 2, 0, some 0⟩)), (7, .func (.func 73) #[] #[]), (8, .slice (some ad) T c8), (9, .pointer (some ⟨wb, 0, some 0⟩)), (20, .int .i64 (k0 : Nat))]) (fun _ h' => h1 = h') ?_ ?_
    · clear q18 q68 q70
      repeat' (first | with_reducible refine wo_nil ?_ | ((with_reducible refine wo_any ?_); first | ((with_reducible refine ik_load ?_); refine wo_op rfl (op_ldAt (b := h.nx + 2) (off := 2) rfl at_A Tryz.underlying3 rfl rfl) rfl rfl ?_) | ((with_reducible refine ik_fieldAddr ?_); refine wo_op rfl (op_fieldAddr (o := 2) rfl Tryz.underlying125 rfl zs3 rfl) rfl rfl ?_) | ((with_reducible refine ik_bin ?_); refine wo_op rfl (op_eql rfl rfl) rfl rfl ?_)) | with_reducible refine sq_norm ?_ | with_reducible refine wc_seq ?_ | with_reducible refine wc_region ?_ | with_reducible refine wc_skip ?_ | refine wc_iff rfl ?_)
      exact ⟨rfl, (), within_lk ⟨rfl, rfl, rfl, rfl, rfl, rfl, rfl, trivial⟩, rfl⟩
    rintro _ h1' e
    subst e
    refine wc_mid (ι := Int × Int) (fun z => [(3, .pointer (some ⟨h.nx, 0, some 0⟩)), (4, .pointer (some ⟨h.nx + 1, 0, some 0⟩)), (5, .pointer (some ⟨h.nx + 2, 0, some 0⟩)), (7, .func (.func 73) #[] #[]), (8, .slice (some ad) T c8), (9, .pointer (some ⟨wb, 0, some 0⟩)), (20, .int .i64 (k0 : Nat)), (26, .int .i64 z.1), (27, .int .i64 z.2)]) (fun z h' => ((z.1 = 0 ∧ z.2 = 7 ∧ ∀ K, ¬winAt g T (M + 1) K) ∨ (z.2 = 0 ∧ ∃ K, winAt g T (M + 1) K ∧ z.1 = (K : Int) + 1 - ((M + 1 : Nat) : Int))) ∧ Wf h' ∧ Grow h0 h') ?_ ?_
    · repeat' (first | ((with_reducible refine xk_any ?_); ((with_reducible refine xk_as0 ?_); first | ((with_reducible refine xk_move ?_); refine wx_q (wt_none rfl) rfl rfl (op_q rfl (op_move rfl)) rfl rfl rfl ?_) | ((with_reducible refine xk_assign ?_); refine wx_q (wt_none rfl) rfl rfl (op_q rfl (op_assign rfl)) rfl rfl rfl ?_) | ((with_reducible refine xk_load ?_); first | refine wx_h0 (wt_none rfl) rfl (op_q rfl (op_ldAt (b := h.nx + 2) (off := 0) rfl at_A Tryz.underlying52 rfl rfl)) rfl rfl rfl ?_ | refine wx_h0 (wt_none rfl) rfl (op_q rfl (op_ldAt (b := h.nx + 2) (off := 2) rfl at_A Tryz.underlying3 rfl rfl)) rfl rfl rfl ?_ | refine wx_h0 (wt_none rfl) rfl (op_q rfl (op_ldAgg rfl at_A Tryz.underlying37 rfl zs37 rfl rfl)) rfl rfl rfl ?_ | refine wx_h0 (wt_none rfl) rfl (op_q rfl (op_ldAt rfl at_A Tryz.underlying40 rfl rfl)) rfl rfl rfl ?_ | refine wx_h0 (wt_none rfl) rfl (op_q rfl (op_ldAgg rfl at_A Tryz.underlying39 rfl zs39 rfl rfl)) rfl rfl rfl ?_) | ((with_reducible refine xk_fieldAddr ?_); first | refine wx_q (wt_none rfl) rfl rfl (op_q rfl (op_fieldAddr (o := 5) rfl Tryz.underlying70 rfl zs40 rfl)) rfl rfl rfl ?_ | refine wx_q (wt_none rfl) rfl rfl (op_q rfl (op_fieldAddr (o := 0) rfl Tryz.underlying125 rfl zs52 rfl)) rfl rfl rfl ?_ | refine wx_q (wt_none rfl) rfl rfl (op_q rfl (op_fieldAddr (o := 2) rfl Tryz.underlying125 rfl zs3 rfl)) rfl rfl rfl ?_) | ((with_reducible refine xk_bin ?_); refine wx_q (wt_none rfl) rfl rfl (op_q rfl (op_sub' rfl rfl (w64 (by omega) (by omega)))) rfl rfl rfl ?_) | ((with_reducible refine xk_extract ?_); refine wx_q (wt_none rfl) rfl rfl (op_q rfl (op_extract rfl rfl)) rfl rfl rfl ?_) | ((with_reducible refine xk_callv ?_); first | (refine wx_call0 (wt_none rfl) rfl rfl rfl rfl (q18 _ (gg1.trans gr_A) wf_A) rfl rfl ?_; rintro _ _ ⟨⟨a1, c1', rfl, s1⟩, hq⟩; all_goals ((try (have hqn := hq.nx)); (try simp only [H.nx_push, H.nx_set, H.nx_bump] at hqn))) | (refine wx_call0 (wt_none rfl) rfl rfl rfl rfl (q68 _ (gg1.trans gr_A) wf_A) rfl rfl ?_; rintro _ _ ⟨⟨a2, c2', rfl, s2⟩, hq⟩; all_goals ((try (have hqn := hq.nx)); (try simp only [H.nx_push, H.nx_set, H.nx_bump] at hqn))) | (refine wx_call0 (wt_none rfl) rfl rfl rfl rfl (q70 _ _ _ (s1.grow gr_A) (s2.grow gr_A) wf_A) rfl rfl ?_; rintro _ _ ⟨⟨ra, re, rfl, hwin⟩, hq⟩; all_goals ((try (have hqn := hq.nx)); (try simp only [H.nx_push, H.nx_set, H.nx_bump] at hqn)))) | with_reducible refine wx_nil0 ?_ ?_)) | with_reducible exact obl_nil | with_reducible refine obl_cons ?_ ?_ | ((with_reducible refine ik_obs ?_); first | exact obs_nil | refine obs_skip rfl ?_ | refine obs_chkn rfl rfl (op_q rfl (op_ldAt (b := h.nx + 2) (off := 0) rfl at_A Tryz.underlying52 rfl (by rfl))) ?_ | refine obs_chkn rfl rfl (op_q rfl (op_ldAt (b := h.nx + 2) (off := 2) rfl at_A Tryz.underlying3 rfl (by rfl))) ?_ | refine obs_chkn rfl rfl (op_q rfl (op_ldAgg rfl at_A Tryz.underlying37 rfl zs37 (by rfl) rfl)) ?_ | refine obs_chkn rfl rfl (op_q rfl (op_ldAt rfl at_A Tryz.underlying40 rfl (by rfl))) ?_ | refine obs_chkn rfl rfl (op_q rfl (op_ldAgg rfl at_A Tryz.underlying39 rfl zs39 (by rfl) rfl)) ?_) | refine wc_drawB (id := 55) 17 [0, 0, 0, 4, 12, 0, 32, 124, 0, 256, 768, 2047, 4095, 8191, 8191, 16383, 65535] [0, 1, 2, 3, 4, 5, 6, 7, 8, 9, 10, 11, 12, 13, 14, 15, 16] (by kernel_rfl) (by kernel_rfl) rfl rfl ?_)
      exact ⟨rfl, (ra, re), within_lk ⟨rfl, rfl, rfl, rfl, rfl, rfl, rfl, rfl, rfl, trivial⟩, (by rw [show ((M + 2 : Nat) : Int) - 1 = ((M + 1 : Nat) : Int) by omega] at hwin; exact hwin), wf_A, gr_A⟩
    clear w1 g1 aV1 aX1 aS1 aW1 nn1 gg1 q18 q68 q70
    rintro ⟨ra, re⟩ h1 ⟨hwin, w1, g1⟩
    dsimp only at hwin ⊢
    have aV1 := aV.grow g1
    have aX1 := aX.grow g1
    have aS1 := aS.grow g1
    have aW1 := aW.grow g1
    have nn1 := g1.nx
    have gg1 := g0.trans g1
    obtain ⟨K', hK', hlt⟩ := win_less hw
    rcases hwin with ⟨_, _, hno⟩ | ⟨rfl, K2, hw2, hra2⟩
    · exact absurd hK' (hno K')
    · have := win_first hw2 hK'
      have hle : ra ≤ (k0 : Nat) := by omega
      repeat' (first | with_reducible refine wo_nil ?_ | ((with_reducible refine wo_any ?_); first | ((with_reducible refine ik_move ?_); refine wo_op rfl (op_move rfl) rfl rfl ?_) | ((with_reducible refine ik_assign ?_); refine wo_op rfl (op_assign rfl) rfl rfl ?_) | ((with_reducible refine ik_pick ?_); refine wo_op rfl (op_pickt rfl rfl) rfl rfl ?_) | ((with_reducible refine ik_bin ?_); refine wo_op rfl (op_eql rfl rfl) rfl rfl ?_) | ((with_reducible refine ik_g ?_); first | ((with_reducible refine ig_move ?_); refine wo_grun rfl rfl rfl (op_move rfl) rfl rfl ?_) | ((with_reducible refine ig_bin ?_); refine wo_grun rfl rfl rfl (op_leq rfl rfl) rfl rfl ?_) | ((with_reducible refine ig_callF (f := 15) ?_); refine wo_grun rfl rfl rfl (op_call rfl rfl (c15)) rfl rfl ?_) | (refine wo_gsplit rfl rfl rfl (fun hb => ?_) (fun hb => dead_A hb); (try simp only [decide_eq_true_eq, decide_eq_false_iff_not, Bool.not_eq_true', Bool.not_eq_false', Int.not_lt, Int.not_le, Decidable.not_not, not_true_eq_false, not_false_eq_true, beq_self_eq_true, reduceCtorEq] at hb)))) | with_reducible refine sq_norm ?_ | with_reducible refine wc_seq ?_ | with_reducible refine wc_region ?_ | with_reducible refine wc_ret ?_)
      all_goals exact rq1 rfl ⟨rfl, gr_A⟩
end Go.Proofs.YtlioomhcdlicmaaGreatDoor
