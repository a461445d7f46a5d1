/- The law SurveyMore: what is moved alike. -/
import Derived.Test.YtlioomhcdlicmaaGreatDoorL2
set_option linter.all false
/- The law SurveyMore: what is moved alike. -/
namespace Go.Proofs.YtlioomhcdlicmaaGreatDoor
open Go Go.Ab Go.Fl
attribute [local irreducible] SeqQ BlkQ LpQ RetQ Wc Wo WD WX Op1 Op1q Op1a Cf Cl From
attribute [local irreducible] Ieee.Format.order Ieee.Format.read Ieee.Format.nearest Ieee.Format.write Ieee.Format.mul Ieee.Format.div Ieee.Format.sqrt Ieee.Datum.order Ieee.Datum.integral K U rngE errN ptE firstNZ vesE watE sgE sgsE allE hitB sqD insB qsL lvl rn rl
set_option maxRecDepth 10000
variable {G : Base} {h : H}

attribute [local irreducible] fl silN insN levN inL leL
set_option maxHeartbeats 16000000 in
/-- From the moved vessel on. -/
theorem c11r {x y u v r sp lo cl so : Int} {T N : Nat} {a : Option Addr} {n c : Nat} {l : List Sg} {L : List Spn} (s : Sl G h 3 (.slice a n c) n (l.flatMap Sg.cells)) (hl : l.length = n) (hn : n < 1000000) (he : allE x y u v (T : Nat) r sp lo cl so l = 0)
    {h0 : H} {ad : Addr} {sa wa : Option Addr} {m sc wn wc c8 wb : Nat} (g0 : Grow h h0) (aV : At h0 h.nx (.cells [.int .i64 x, .int .i64 y, .int .i64 u, .int .i64 v, .int .i64 (T : Nat)] 37 5 false)) (aX : At h0 (h.nx + 1) (.cells [.int .i64 r, .int .i64 sp, .int .i64 lo, .int .i64 cl, .int .i64 so, .slice a n c] 70 6 false)) (aS : At h0 (h.nx + 2) (.cells [.slice sa m sc, .slice wa wn wc, .int .i64 (N : Nat)] 125 3 false)) (aW : At h0 wb (.cells [.int .i64 r, .int .i64 sp, .int .i64 lo, .int .i64 cl, .int .i64 so] 39 5 false)) (s3 : Sl G h0 1 (.slice (some ad) T c8) T ((leL cl so (insB x y u v r sp lo l) T).map (Value.int .i64))) (p : Sl G h 2 (.slice sa m sc) m (L.flatMap Spn.cells)) (hL : L.length = m) (hm : m < 1000000) (hsp : spsE L = 0) (hN : 1 ≤ N ∧ N ≤ 4096) {h1 : H} (w1 : Wf h1) (g1 : Grow h0 h1) :
    Wc (mz G) none (subc [true, true, true, true, true, true, true, true, true, true, true, true] (Tryz.f11.body.getD .skip)) 308 [(3, .pointer (some ⟨h.nx, 0, some 0⟩)), (4, .pointer (some ⟨h.nx + 1, 0, some 0⟩)), (5, .pointer (some ⟨h.nx + 2, 0, some 0⟩)), (7, .func (.func 73) #[] #[]), (8, .slice (some ad) T c8), (9, .pointer (some ⟨wb, 0, some 0⟩))] h1 (RetQ (mz G) [.tmp 6] fun r h' => r = .bool true ∧ Grow h h') := by
  have rest := fun (h1 : H) (w1 : Wf h1) (g1 : Grow h0 h1) => c11w s hl hn he g0 aV aX aS aW s3 p hL hm hsp hN w1 g1
  obtain ⟨⟨b1, b2⟩, _, ⟨bt, bT⟩, hr, hs, hlo, hcl, hso, hlen, hall⟩ := all_ok he
  have n0 := g0.nx
  have lS := aS.lt
  have lW := aW.lt
  clear he p hL hsp hN
  show Wc (mz G) none (.seq _ _) _ _ _ _
  refine wc_mid (ι := Nat) (fun vb => [(3, .pointer (some ⟨h.nx, 0, some 0⟩)), (4, .pointer (some ⟨h.nx + 1, 0, some 0⟩)), (5, .pointer (some ⟨h.nx + 2, 0, some 0⟩)), (7, .func (.func 73) #[] #[]), (8, .slice (some ad) T c8), (9, .pointer (some ⟨wb, 0, some 0⟩)), (16, .pointer (some ⟨vb, 0, some 0⟩))]) (fun vb h' => (Wf h' ∧ Grow h0 h') ∧ At h' vb (.cells [.int .i64 x, .int .i64 y, .int .i64 u, .int .i64 v, .int .i64 (T : Nat)] 37 5 false) ∧ h0.nx ≤ vb) ?_ ?_
  · have aV1 := aV.grow g1
    have aX1 := aX.grow g1
    have aS1 := aS.grow g1
    have aW1 := aW.grow g1
    have nn1 := g1.nx
    have gg1 := g0.trans g1
    repeat' (first | with_reducible refine wo_nil ?_ | ((with_reducible refine wo_any ?_); first | ((with_reducible refine ik_load ?_); refine wo_op rfl (op_ldAgg rfl at_A Tryz.underlying37 rfl zs37 rfl rfl) rfl rfl ?_) | ((with_reducible refine ik_alloc ?_); refine wo_op rfl (op_alloc zz39 zs39 rfl rfl rfl) rfl rfl ?_) | ((with_reducible refine ik_store ?_); refine wo_op0 rfl (op_stAgg rfl rfl at_A zs39 rfl rfl rfl rfl) rfl ?_)) | with_reducible refine wc_region ?_)
    exact ⟨rfl, h1.nx, within_lk ⟨rfl, rfl, rfl, rfl, rfl, rfl, rfl, trivial⟩, ⟨wf_A, gr_A⟩, at_A, by omega⟩
  clear w1 g1
  rintro vb h1 ⟨⟨w1, g1⟩, aB, hvb⟩
  refine wc_mid (ι := Unit) (fun _ => [(3, .pointer (some ⟨h.nx, 0, some 0⟩)), (4, .pointer (some ⟨h.nx + 1, 0, some 0⟩)), (5, .pointer (some ⟨h.nx + 2, 0, some 0⟩)), (7, .func (.func 73) #[] #[]), (8, .slice (some ad) T c8), (9, .pointer (some ⟨wb, 0, some 0⟩)), (16, .pointer (some ⟨vb, 0, some 0⟩))]) (fun _ h' => (Wf h' ∧ Grow h0 h') ∧ At h' vb (.cells [.int .i64 (x + 7), .int .i64 (y - 9), .int .i64 u, .int .i64 v, .int .i64 (T : Nat)] 37 5 false)) ?_ ?_
  · have aV1 := aV.grow g1
    have aX1 := aX.grow g1
    have aS1 := aS.grow g1
    have aW1 := aW.grow g1
    have nn1 := g1.nx
    have gg1 := g0.trans g1
    have lB := aB.lt
    repeat' (first | with_reducible refine wo_nil ?_ | ((with_reducible refine wo_any ?_); first | ((with_reducible refine ik_load ?_); first | refine wo_op rfl (op_ldAt (b := h.nx) (off := 0) rfl at_A Tryz.underlying3 rfl rfl) rfl rfl ?_ | refine wo_op rfl (op_ldAt (b := h.nx) (off := 1) rfl at_A Tryz.underlying3 rfl rfl) rfl rfl ?_) | ((with_reducible refine ik_store ?_); refine wo_op0 rfl (op_stAgg rfl rfl at_A zs35 rfl rfl rfl rfl) rfl ?_) | ((with_reducible refine ik_fieldAddr ?_); first | refine wo_op rfl (op_fieldAddr (o := 0) rfl Tryz.underlying37 rfl zs35 rfl) rfl rfl ?_ | refine wo_op rfl (op_fieldAddr (o := 0) rfl Tryz.underlying35 rfl zs3 rfl) rfl rfl ?_ | refine wo_op rfl (op_fieldAddr (o := 1) rfl Tryz.underlying35 rfl zs3 rfl) rfl rfl ?_) | ((with_reducible refine ik_bin ?_); first | refine wo_op rfl (op_sub' rfl rfl (w64 (by omega) (by omega))) rfl rfl ?_ | refine wo_op rfl (op_add' rfl rfl (w64 (by omega) (by omega))) rfl rfl ?_) | ((with_reducible refine ik_build ?_); refine wo_op rfl (op_buildT rfl zz35 zp35 rfl rfl) rfl rfl ?_)) | with_reducible refine wc_region ?_)
    exact ⟨rfl, (), within_lk ⟨rfl, rfl, rfl, rfl, rfl, rfl, rfl, trivial⟩, ⟨wf_A, gr_A⟩, at_A⟩
  clear w1 g1 aB
  rintro _ h2 ⟨⟨w1, g1⟩, aB⟩
  have lB := aB.lt
  refine wc_mid (ι := Unit) (fun _ => [(3, .pointer (some ⟨h.nx, 0, some 0⟩)), (4, .pointer (some ⟨h.nx + 1, 0, some 0⟩)), (5, .pointer (some ⟨h.nx + 2, 0, some 0⟩)), (7, .func (.func 73) #[] #[]), (8, .slice (some ad) T c8), (9, .pointer (some ⟨wb, 0, some 0⟩)), (16, .pointer (some ⟨vb, 0, some 0⟩)), (17, .slice none 0 0)]) (fun _ h' => h2 = h') ?_ ?_
  · repeat' (first | with_reducible refine wo_nil ?_ | ((with_reducible refine wo_any ?_); ((with_reducible refine ik_assign ?_); refine wo_op rfl (op_assign rfl) rfl rfl ?_)) | with_reducible refine wc_region ?_)
    exact ⟨rfl, (), within_lk ⟨rfl, rfl, rfl, rfl, rfl, rfl, rfl, rfl, trivial⟩, rfl⟩
  rintro _ h1' e
  subst e
  refine wc_mid (ι := Option Addr × Nat) (fun z => [(3, .pointer (some ⟨h.nx, 0, some 0⟩)), (4, .pointer (some ⟨h.nx + 1, 0, some 0⟩)), (5, .pointer (some ⟨h.nx + 2, 0, some 0⟩)), (7, .func (.func 73) #[] #[]), (8, .slice (some ad) T c8), (9, .pointer (some ⟨wb, 0, some 0⟩)), (16, .pointer (some ⟨vb, 0, some 0⟩)), (17, .slice z.1 n z.2)]) (fun z h' => (Wf h' ∧ Grow h2 h') ∧ Sl G h' 3 (.slice z.1 n z.2) n ((l.map movS).flatMap Sg.cells)) ?_ ?_
  · refine wc_mid (ι := Unit) (fun _ => [(3, .pointer (some ⟨h.nx, 0, some 0⟩)), (4, .pointer (some ⟨h.nx + 1, 0, some 0⟩)), (5, .pointer (some ⟨h.nx + 2, 0, some 0⟩)), (7, .func (.func 73) #[] #[]), (8, .slice (some ad) T c8), (9, .pointer (some ⟨wb, 0, some 0⟩)), (16, .pointer (some ⟨vb, 0, some 0⟩)), (17, .slice none 0 0), (168, .slice a n c), (169, .int .i64 (n : Nat)), (170, .int .i64 (0 : Nat))]) (fun _ h' => h2 = h') ?_ ?_
    · have aV1 := aV.grow g1
      have aX1 := aX.grow g1
      have aS1 := aS.grow g1
      have aW1 := aW.grow g1
      have nn1 := g1.nx
      have gg1 := g0.trans g1
      repeat' (first | with_reducible refine wo_nil ?_ | ((with_reducible refine wo_any ?_); first | ((with_reducible refine ik_move ?_); refine wo_op rfl (op_move rfl) rfl rfl ?_) | ((with_reducible refine ik_load ?_); refine wo_op rfl (op_ldAt rfl at_A Tryz.underlying40 rfl rfl) rfl rfl ?_) | ((with_reducible refine ik_fieldAddr ?_); refine wo_op rfl (op_fieldAddr (o := 5) rfl Tryz.underlying70 rfl zs40 rfl) rfl rfl ?_) | ((with_reducible refine ik_callb ?_); refine wo_op rfl (op_lenSl rfl Tryz.underlying40) rfl rfl ?_)) | with_reducible refine wc_region ?_)
      exact ⟨rfl, (), within_lk ⟨rfl, rfl, rfl, rfl, rfl, rfl, rfl, rfl, rfl, rfl, rfl, trivial⟩, rfl⟩
    rintro _ h1' e
    subst e
    have gs := g0.trans g1
    refine wc_block ?_
    refine wc_loop (fun p : Nat × Value => n - p.1) (fun p => [(3, .pointer (some ⟨h.nx, 0, some 0⟩)), (4, .pointer (some ⟨h.nx + 1, 0, some 0⟩)), (5, .pointer (some ⟨h.nx + 2, 0, some 0⟩)), (7, .func (.func 73) #[] #[]), (8, .slice (some ad) T c8), (9, .pointer (some ⟨wb, 0, some 0⟩)), (16, .pointer (some ⟨vb, 0, some 0⟩)), (17, p.2), (168, .slice a n c), (169, .int .i64 (n : Nat)), (170, .int .i64 (p.1 : Nat))]) (fun p h' => (Wf h' ∧ Grow h2 h') ∧ p.1 ≤ n ∧ ((p.2 = .slice none 0 0 ∧ p.1 = 0) ∨ ∃ e, h2.nx ≤ e ∧ p.2 = .slice (some ⟨e, 0, some 0⟩) p.1 p.1 ∧ At h' e (.cells (((l.map movS).take p.1).flatMap Sg.cells) 145 3 true))) (0, .slice none 0 0) (within_lk ⟨rfl, rfl, rfl, rfl, rfl, rfl, rfl, rfl, rfl, rfl, rfl, trivial⟩) ⟨⟨w1, Grow.refl _⟩, Nat.zero_le _, .inl ⟨rfl, rfl⟩⟩ ?_
    clear w1
    rintro ⟨k, v⟩ h1 ⟨⟨w1, g2⟩, hk, hv⟩
    simp only at hk hv ⊢
    have n1 := g2.nx
    by_cases hlt : k < n
    · obtain ⟨id, i1, i3⟩ := rl_at Sg.len ⟨0, 0, 0⟩ (s.grow (gs.trans g2)) hl Tryz.underlying40 zs145 (i := (k : Int)) hlt rfl
      have hmm : l.getD k ⟨0, 0, 0⟩ ∈ l := by simp [List.getD, List.getElem?_eq_getElem (show k < l.length by omega)]
      have hmv : (l.map movS).getD k ⟨0, 0, 0⟩ = movS (l.getD k ⟨0, 0, 0⟩) := by simp [List.getD, List.getElem?_eq_getElem (show k < l.length by omega)]
      have e1 : ((l.map movS).take (k + 1)).flatMap Sg.cells = ((l.map movS).take k).flatMap Sg.cells ++ (movS (l.getD k ⟨0, 0, 0⟩)).cells := by
        rw [take_next ⟨0, 0, 0⟩ (by rw [List.length_map]; omega), hmv, List.flatMap_append]; simp
      have hg := hall _ hmm
      obtain ⟨q, hq⟩ : ∃ q, l.getD k ⟨0, 0, 0⟩ = q := ⟨_, rfl⟩
      rw [hq] at i3 e1 hg
      clear hmm hmv hq hall
      obtain ⟨st, sx, sy⟩ := q
      obtain ⟨gt, gx, gy⟩ : (0 ≤ st ∧ st ≤ 100000) ∧ (-100000 ≤ sx ∧ sx ≤ 100000) ∧ -100000 ≤ sy ∧ sy ≤ 100000 := by
        unfold sgE at hg
        have a := firstNZ_zero hg
        exact ⟨rng_ok (a _ (by simp)), pt_ok (a _ (by simp))⟩
      clear hg
      dsimp only [Sg.cells, movS] at i3 e1
      rcases hv with ⟨rfl, rfl⟩ | ⟨e, hge, rfl, hat⟩
      · repeat' (first | with_reducible refine wo_nil ?_ | ((with_reducible refine wo_any ?_); first | ((with_reducible refine ik_move ?_); refine wo_op rfl (op_move rfl) rfl rfl ?_) | ((with_reducible refine ik_assign ?_); refine wo_op rfl (op_assign rfl) rfl rfl ?_) | ((with_reducible refine ik_indexAddr ?_); refine wo_op rfl (op_indexAddr rfl rfl i1) rfl rfl ?_) | ((with_reducible refine ik_load ?_); first | refine wo_op rfl (op_ldLn rfl Tryz.underlying145 rfl zs145 (i3 _ gr_A).all) rfl rfl ?_ | refine wo_op rfl (op_ldAt (b := h1.nx) (off := 0) rfl at_A Tryz.underlying3 rfl rfl) rfl rfl ?_ | refine wo_op rfl (op_ldAt (b := h1.nx) (off := 1) rfl at_A Tryz.underlying3 rfl rfl) rfl rfl ?_ | refine wo_op rfl (op_ldAt (b := h1.nx) (off := 2) rfl at_A Tryz.underlying3 rfl rfl) rfl rfl ?_) | ((with_reducible refine ik_callb ?_); refine wo_op rfl (op_append rfl rfl (append_nil_eq (M := mz G) (st := 40) (xt := 40) (m := 1) Tryz.underlying40 Tryz.underlying40 rfl zs145 zb145 zz145 rfl (Sl.ofAt at_A rfl (Nat.le_refl _)) rfl (by omega) (by omega))) rfl rfl ?_) | ((with_reducible refine ik_fieldAddr ?_); first | refine wo_op rfl (op_fieldAddr (o := 0) rfl Tryz.underlying35 rfl zs3 rfl) rfl rfl ?_ | refine wo_op rfl (op_fieldAddr (o := 1) rfl Tryz.underlying35 rfl zs3 rfl) rfl rfl ?_ | refine wo_op rfl (op_fieldAddr (o := 0) rfl Tryz.underlying145 rfl zs3 rfl) rfl rfl ?_ | refine wo_op rfl (op_fieldAddr (o := 1) rfl Tryz.underlying145 rfl zs35 rfl) rfl rfl ?_) | ((with_reducible refine ik_bin ?_); first | refine wo_op rfl (op_sub' rfl rfl (w64 (by omega) (by omega))) rfl rfl ?_ | refine wo_op rfl (op_lss rfl rfl) rfl rfl ?_ | refine wo_op rfl (op_add' rfl rfl (w64 (by omega) (by omega))) rfl rfl ?_) | ((with_reducible refine ik_alloc ?_); refine wo_op rfl (op_alloc zz145 zs145 rfl rfl rfl) rfl rfl ?_) | ((with_reducible refine ik_store ?_); refine wo_op0 rfl (op_stAgg rfl rfl at_A zs145 rfl rfl rfl rfl) rfl ?_) | ((with_reducible refine ik_build ?_); first | refine wo_op rfl (op_buildT rfl zz35 zp35 rfl rfl) rfl rfl ?_ | refine wo_op rfl (op_buildT rfl zz145 zp145 rfl rfl) rfl rfl ?_) | ((with_reducible refine ik_buildSlice ?_); refine wo_op rfl (op_buildSl rfl Tryz.underlying40 zs145 zz145 rfl rfl) rfl rfl ?_)) | with_reducible refine sq_norm ?_ | with_reducible refine wc_seq ?_ | with_reducible refine wc_region ?_ | with_reducible refine wc_skip ?_ | with_reducible refine wc_block ?_ | with_reducible refine bq_norm ?_ | (refine wc_if rfl (fun hb => ?_) (fun hb => dead_A hb); (try simp only [decide_eq_true_eq, decide_eq_false_iff_not, Bool.not_eq_true', Bool.not_eq_false', Int.not_lt, Int.not_le, Decidable.not_not, not_true_eq_false, not_false_eq_true, beq_self_eq_true, reduceCtorEq] at hb)))
        exact lq_norm (0 + 1, .slice (some ⟨_, 0, some 0⟩) (0 + 1) (0 + 1)) (by simp only; omega) (within_lk ⟨rfl, rfl, rfl, rfl, rfl, rfl, rfl, rfl, rfl, rfl, rfl, trivial⟩) ⟨⟨wf_A, gr_A⟩, by simp only; omega, .inr ⟨_, by simp only [H.nx_push, H.nx_set, H.nx_bump, H.nx_kill]; omega, rfl, by simp only; rw [e1]; exact at_A⟩⟩
      · have l1 := hat.lt
        repeat' (first | with_reducible refine wo_nil ?_ | ((with_reducible refine wo_any ?_); first | ((with_reducible refine ik_move ?_); refine wo_op rfl (op_move rfl) rfl rfl ?_) | ((with_reducible refine ik_assign ?_); refine wo_op rfl (op_assign rfl) rfl rfl ?_) | ((with_reducible refine ik_indexAddr ?_); refine wo_op rfl (op_indexAddr rfl rfl i1) rfl rfl ?_) | ((with_reducible refine ik_load ?_); first | refine wo_op rfl (op_ldLn rfl Tryz.underlying145 rfl zs145 (i3 _ gr_A).all) rfl rfl ?_ | refine wo_op rfl (op_ldAt (b := h1.nx) (off := 0) rfl at_A Tryz.underlying3 rfl rfl) rfl rfl ?_ | refine wo_op rfl (op_ldAt (b := h1.nx) (off := 1) rfl at_A Tryz.underlying3 rfl rfl) rfl rfl ?_ | refine wo_op rfl (op_ldAt (b := h1.nx) (off := 2) rfl at_A Tryz.underlying3 rfl rfl) rfl rfl ?_) | ((with_reducible refine ik_callb ?_); refine wo_op rfl (op_append rfl rfl (append_own_eq (M := mz G) (st := 40) (xt := 40) (m := 1) Tryz.underlying40 Tryz.underlying40 rfl zs145 zb145 zz145 rfl (Sl.ofAt at_A rfl (Nat.le_refl _)) rfl (b := e) (c := ((l.map movS).take k).flatMap Sg.cells) at_A (by rw [Sg.flat, List.length_take, List.length_map]; omega) (by omega) (by omega))) rfl rfl ?_) | ((with_reducible refine ik_fieldAddr ?_); first | refine wo_op rfl (op_fieldAddr (o := 0) rfl Tryz.underlying35 rfl zs3 rfl) rfl rfl ?_ | refine wo_op rfl (op_fieldAddr (o := 1) rfl Tryz.underlying35 rfl zs3 rfl) rfl rfl ?_ | refine wo_op rfl (op_fieldAddr (o := 0) rfl Tryz.underlying145 rfl zs3 rfl) rfl rfl ?_ | refine wo_op rfl (op_fieldAddr (o := 1) rfl Tryz.underlying145 rfl zs35 rfl) rfl rfl ?_) | ((with_reducible refine ik_bin ?_); first | refine wo_op rfl (op_sub' rfl rfl (w64 (by omega) (by omega))) rfl rfl ?_ | refine wo_op rfl (op_lss rfl rfl) rfl rfl ?_ | refine wo_op rfl (op_add' rfl rfl (w64 (by omega) (by omega))) rfl rfl ?_) | ((with_reducible refine ik_alloc ?_); refine wo_op rfl (op_alloc zz145 zs145 rfl rfl rfl) rfl rfl ?_) | ((with_reducible refine ik_store ?_); refine wo_op0 rfl (op_stAgg rfl rfl at_A zs145 rfl rfl rfl rfl) rfl ?_) | ((with_reducible refine ik_build ?_); first | refine wo_op rfl (op_buildT rfl zz35 zp35 rfl rfl) rfl rfl ?_ | refine wo_op rfl (op_buildT rfl zz145 zp145 rfl rfl) rfl rfl ?_) | ((with_reducible refine ik_buildSlice ?_); refine wo_op rfl (op_buildSl rfl Tryz.underlying40 zs145 zz145 rfl rfl) rfl rfl ?_)) | with_reducible refine sq_norm ?_ | with_reducible refine wc_seq ?_ | with_reducible refine wc_region ?_ | with_reducible refine wc_skip ?_ | with_reducible refine wc_block ?_ | with_reducible refine bq_norm ?_ | (refine wc_if rfl (fun hb => ?_) (fun hb => dead_A hb); (try simp only [decide_eq_true_eq, decide_eq_false_iff_not, Bool.not_eq_true', Bool.not_eq_false', Int.not_lt, Int.not_le, Decidable.not_not, not_true_eq_false, not_false_eq_true, beq_self_eq_true, reduceCtorEq] at hb)))
        exact lq_norm (k + 1, .slice (some ⟨_, 0, some 0⟩) (k + 1) (k + 1)) (by simp only; omega) (within_lk ⟨rfl, rfl, rfl, rfl, rfl, rfl, rfl, rfl, rfl, rfl, rfl, trivial⟩) ⟨⟨wf_A, gr_A⟩, by simp only; omega, .inr ⟨_, by simp only [H.nx_push, H.nx_set, H.nx_bump, H.nx_kill]; omega, rfl, by simp only; rw [e1]; exact at_A⟩⟩
    · have hkn : k = n := by omega
      subst hkn
      rw [show (l.map movS).take k = (l.map movS) by rw [List.take_of_length_le (by rw [List.length_map]; omega)]] at hv
      have hfin : ∃ fa fc, v = .slice fa k fc ∧ Sl G h1 3 (.slice fa k fc) k ((l.map movS).flatMap Sg.cells) := by
        rcases hv with ⟨rfl, rfl⟩ | ⟨e, hge, rfl, hat⟩
        · have htn : l = [] := by simpa using hl
          subst htn
          exact ⟨none, 0, rfl, .nil⟩
        · exact ⟨_, _, rfl, Sl.ofAt hat (by rw [Sg.flat, List.length_map, hl]) (Nat.le_refl _)⟩
      obtain ⟨fa, fc, rfl, s17⟩ := hfin
      repeat' (first | with_reducible refine wo_nil ?_ | ((with_reducible refine wo_any ?_); ((with_reducible refine ik_bin ?_); refine wo_op rfl (op_lss rfl rfl) rfl rfl ?_)) | with_reducible refine sq_norm ?_ | with_reducible refine wc_seq ?_ | with_reducible refine wc_region ?_ | with_reducible refine wc_exit ?_ | with_reducible refine sq_exit ?_ | with_reducible refine lq_exit ?_ | refine bq_eq rfl ?_ | (refine wc_if rfl (fun hb => dead_A hb) (fun hb => ?_); (try simp only [decide_eq_true_eq, decide_eq_false_iff_not, Bool.not_eq_true', Bool.not_eq_false', Int.not_lt, Int.not_le, Decidable.not_not, not_true_eq_false, not_false_eq_true, beq_self_eq_true, reduceCtorEq] at hb)))
      exact ⟨rfl, (fa, fc), within_lk ⟨rfl, rfl, rfl, rfl, rfl, rfl, rfl, rfl, trivial⟩, ⟨w1, g2⟩, s17⟩
  clear w1
  rintro ⟨fa, fc⟩ h1 ⟨⟨w1, g2⟩, s17⟩
  dsimp only at s17 ⊢
  have aB := aB.grow g2
  have g3 := g1.trans g2
  have n2 := g2.nx
  have aV1 := aV.grow g3
  have aX1 := aX.grow g3
  have aS1 := aS.grow g3
  have aW1 := aW.grow g3
  have nn1 := g3.nx
  have gg1 := g0.trans g3
  have s8 := s3.grow g3
  refine wc_mid (ι := Unit) (fun _ => [(3, .pointer (some ⟨h.nx, 0, some 0⟩)), (4, .pointer (some ⟨h.nx + 1, 0, some 0⟩)), (5, .pointer (some ⟨h.nx + 2, 0, some 0⟩)), (7, .func (.func 73) #[] #[]), (8, .slice (some ad) T c8), (9, .pointer (some ⟨wb, 0, some 0⟩))]) (fun _ h' => Wf h' ∧ Grow h0 h') ?_ ?_
  · have hlm : (l.map movS).length = n := by rw [List.length_map]; exact hl
    have q21 := fun (h' : H) (g : Grow h1 h') (w' : Wf h') => c21 (x := x + 7) (y := y - 9) (u := u) (v := v) (t := (T : Nat)) (r := r) (sp := sp) (lo := lo) (cl := cl) (so := so) (s17.grow g) hlm hn w'
    clear rest hall hlen
    by_cases he2 : allE (x + 7) (y - 9) u v (T : Nat) r sp lo cl so (l.map movS) = 0
    · rw [he2] at q21
      have q73 := fun (h' : H) (g : Grow h1 h') (w' : Wf h') => c73 (s17.grow g) hlm hn he2 w'
      rw [ins_mov] at q73
      obtain ⟨L1, hL1⟩ : ∃ L, leL cl so (insB x y u v r sp lo l) T = L := ⟨_, rfl⟩
      rw [hL1] at q73 s8
      have q32 := fun (h' : H) (w1 w2 : Value) (s1 : Sl G h' 1 w1 T (L1.map (Value.int .i64))) (s2 : Sl G h' 1 w2 T (L1.map (Value.int .i64))) (w' : Wf h') => (decide_eq_true (rfl : L1 = L1)) ▸ c32 s1 s2 (by omega) (by omega) w'
      clear he2 hL1
      repeat' (first | with_reducible refine wo_nil ?_ | ((with_reducible refine wo_any ?_); first | ((with_reducible refine ik_move ?_); refine wo_op rfl (op_move rfl) rfl rfl ?_) | ((with_reducible refine ik_load ?_); first | refine wo_op rfl (op_ldAgg rfl at_A Tryz.underlying37 rfl zs37 rfl rfl) rfl rfl ?_ | refine wo_op rfl (op_ldAgg rfl at_A Tryz.underlying39 rfl zs39 rfl rfl) rfl rfl ?_) | ((with_reducible refine ik_pick ?_); refine wo_op rfl (op_pickt rfl rfl) rfl rfl ?_) | ((with_reducible refine ik_bin ?_); refine wo_op rfl (op_eql rfl rfl) rfl rfl ?_) | ((with_reducible refine ik_callv ?_); (refine wo_call rfl rfl rfl rfl (q21 _ gr_A wf_A) rfl rfl ?_; rintro _ _ ⟨rfl, hq⟩; all_goals ((try (have hqn := hq.nx)); (try simp only [H.nx_push, H.nx_set, H.nx_bump] at hqn)))) | ((with_reducible refine ik_g ?_); first | ((with_reducible refine ig_move ?_); refine wo_grun rfl rfl rfl (op_move rfl) rfl rfl ?_) | ((with_reducible refine ig_load ?_); first | refine wo_grun rfl rfl rfl (op_ldAgg rfl at_A Tryz.underlying37 rfl zs37 rfl rfl) rfl rfl ?_ | refine wo_grun rfl rfl rfl (op_ldAgg rfl at_A Tryz.underlying39 rfl zs39 rfl rfl) rfl rfl ?_) | ((with_reducible refine ig_un ?_); refine wo_grun rfl rfl rfl (op_not rfl) rfl rfl ?_) | ((with_reducible refine ig_callv ?_); first | (refine wo_gcall rfl rfl rfl rfl rfl rfl (q73 _ gr_A wf_A) rfl rfl ?_; rintro _ _ ⟨⟨ad3, c3, rfl, s5⟩, hq⟩; all_goals ((try (have hqn := hq.nx)); (try simp only [H.nx_push, H.nx_set, H.nx_bump] at hqn))) | (refine wo_gcall rfl rfl rfl rfl rfl rfl (q32 _ _ _ (s5.grow gr_A) (s8.grow gr_A) wf_A) rfl rfl ?_; rintro _ _ ⟨rfl, hq⟩; all_goals ((try (have hqn := hq.nx)); (try simp only [H.nx_push, H.nx_set, H.nx_bump] at hqn)))))) | with_reducible refine sq_norm ?_ | with_reducible refine wc_seq ?_ | with_reducible refine wc_region ?_ | with_reducible refine wc_skip ?_ | refine wc_iff rfl ?_)
      exact ⟨rfl, (), within_lk ⟨rfl, rfl, rfl, rfl, rfl, rfl, trivial⟩, wf_A, gr_A⟩
    · generalize allE (x + 7) (y - 9) u v (T : Nat) r sp lo cl so (l.map movS) = E2 at q21 he2
      repeat' (first | with_reducible refine wo_nil ?_ | ((with_reducible refine wo_any ?_); first | ((with_reducible refine ik_move ?_); refine wo_op rfl (op_move rfl) rfl rfl ?_) | ((with_reducible refine ik_load ?_); first | refine wo_op rfl (op_ldAgg rfl at_A Tryz.underlying37 rfl zs37 rfl rfl) rfl rfl ?_ | refine wo_op rfl (op_ldAgg rfl at_A Tryz.underlying39 rfl zs39 rfl rfl) rfl rfl ?_) | ((with_reducible refine ik_pick ?_); refine wo_op rfl (op_pickf rfl rfl) rfl rfl ?_) | ((with_reducible refine ik_bin ?_); refine wo_op rfl (op_eql rfl rfl) rfl rfl ?_) | ((with_reducible refine ik_callv ?_); (refine wo_call rfl rfl rfl rfl (q21 _ gr_A wf_A) rfl rfl ?_; rintro _ _ ⟨rfl, hq⟩; all_goals ((try (have hqn := hq.nx)); (try simp only [H.nx_push, H.nx_set, H.nx_bump] at hqn)))) | ((with_reducible refine ik_g ?_); first | refine wo_gskip rfl rfl rfl rfl rfl rfl ?_ | (refine wo_gsplit rfl rfl rfl (fun hb => dead_A hb) (fun hb => ?_); (try simp only [decide_eq_true_eq, decide_eq_false_iff_not, Bool.not_eq_true', Bool.not_eq_false', Int.not_lt, Int.not_le, Decidable.not_not, not_true_eq_false, not_false_eq_true, beq_self_eq_true, reduceCtorEq] at hb)))) | with_reducible refine sq_norm ?_ | with_reducible refine wc_seq ?_ | with_reducible refine wc_region ?_ | with_reducible refine wc_skip ?_ | refine wc_iff rfl ?_)
      exact ⟨rfl, (), within_lk ⟨rfl, rfl, rfl, rfl, rfl, rfl, trivial⟩, wf_A, gr_A⟩
  clear w1
  rintro _ h3 ⟨w1, g4⟩
  exact rest h3 w1 g4
end Go.Proofs.YtlioomhcdlicmaaGreatDoor
