/- Shares removed; the reference. -/
import Derived.Test.YtdfpadokepmknaaGreatDoorH1
set_option linter.all false
/- Shares removed; lists less multiples by the reference; numbers and ratios held against one another. -/
namespace Go.Proofs.YtdfpadokepmknaaGreatDoor
open Go Go.Ab Go.Fl
attribute [local irreducible] SeqQ BlkQ LpQ RetQ Wc Wo WD WX Op1 Op1q Op1a Cf Cl From
attribute [local irreducible] Ieee.Format.order Ieee.Format.read Ieee.Format.nearest Ieee.Format.write Ieee.Format.mul Ieee.Format.div Ieee.Datum.order Ieee.Datum.integral smpE smp smpW K J U sumN lchk tchk trE hdrE appL undL undA undI wr ghoL rnd mulL dghL dghA rngE notN innL lowN lowD madeE pairE subL subF
set_option maxRecDepth 10000
variable {G : Base} {h : H}

def difL (x y : List Int) : List Int := (List.range x.length).map fun i => x.getD i 0 - y.getD i 0
theorem dif_inn (x y : List Int) : innL (difL x y) (difL x y) = sumN x.length (fun i => (x.getD i 0 - y.getD i 0) * (x.getD i 0 - y.getD i 0)) := by
  unfold innL
  have : (difL x y).length = x.length := by simp [difL]
  rw [this]
  refine sumN_congr fun i hi => ?_
  unfold difL
  rw [getD_row hi]
def remE (P : Int) (x : List Int) : Int := if P ≠ 0 then P else if innL x x = 0 then 6 else 0
/-- What Removed answers. -/
def RemM (r : Value) (E : Int) (x y : List Int) : Prop :=
  (E ≠ 0 ∧ r = .tuple #[ratV 0 0, .int .i64 E]) ∨ (E = 0 ∧ r = .tuple #[ratV (lowN (innL (difL x y) (difL x y)) (innL x x)) (lowD (innL (difL x y) (difL x y)) (innL x x)), .int .i64 0])
set_option maxHeartbeats 4000000 in
theorem c43 {v w : Value} {n m : Nat} {l k : List Nat} (s : Sl G h 1 v n (l.map (.float .f32))) (u : Sl G h 1 w m (k.map (.float .f32))) (hn : n < 1000000) (hm : m < 1000000) (hw : Wf h) (hG : ∀ a v, laidBase a = some v → G a = some v) :
    Cf (mz G) (.func (.func 43) #[] #[]) [v, w] h fun r h' => RemM r (remE (pairE l k) (l.map smp)) (l.map smp) (k.map smp) ∧ Grow h h' := by
  obtain ⟨a, c, rfl⟩ := s.form
  obtain ⟨b, d, rfl⟩ := u.form
  have hl := s.length
  have hk := u.length
  simp at hl hk
  have q78 := fun (h' : H) (g : Grow h h') (w' : Wf h') => c78 (s.grow g) (u.grow g) hn hm w' hG
  obtain ⟨E, hE⟩ : ∃ E, pairE l k = E := ⟨_, rfl⟩
  rw [hE] at q78 ⊢
  by_cases hz : E = 0
  · subst hz
    obtain ⟨⟨z1, z2⟩, z3⟩ := pairE_zero hE
    obtain ⟨k1, k2⟩ := lchk_ok z1
    obtain ⟨k3, k4⟩ := lchk_ok z2
    have hnm : m = n := by omega
    subst hnm
    have sb1 := smp_bound k2
    have sb2 := smp_bound k4
    have b1 : ∀ x ∈ l.map smp, x.natAbs ≤ 32768 := fun x hx => Nat.le_trans (sb1 x hx) (by decide)
    have hX : (l.map smp).length = m := by simpa using hl
    have hY : (k.map smp).length = m := by simpa using hk
    have q79 := fun (h' : H) (v w : Value) (u1 : Sl G h' 1 v m ((l.map smp).map (.int .i64))) (u2 : Sl G h' 1 w m ((l.map smp).map (.int .i64))) => c79 (G := G) (h := h') u1 u2 (by omega) b1 b1
    have q76 := fun (h' : H) (g : Grow h h') (w' : Wf h') => c76f (s.grow g) hn k2 w'
    have o76 := fun (h' : H) (g : Grow h h') (w' : Wf h') => c76o (s.grow g) hn k2 w'
    have r76 := fun (h' : H) (g : Grow h h') (w' : Wf h') => c76o (u.grow g) hn k4 w'
    obtain ⟨X, hXX⟩ : ∃ X, l.map smp = X := ⟨_, rfl⟩
    obtain ⟨Y, hYY⟩ : ∃ Y, k.map smp = Y := ⟨_, rfl⟩
    rw [hXX] at sb1 hX q79 q76 o76 b1 ⊢
    rw [hYY] at sb2 hY r76 ⊢
    have e0 := inn_nonneg X
    have eb := inn_self_bound sb1 sb1 (by omega)
    by_cases he : innL X X = 0
    · have : remE 0 X = 6 := by unfold remE; rw [if_neg (by decide), if_pos he]
      rw [this]
      rw [he] at q79
      refine cf_enter0 51 [.cell 4 65, .tmp 5] Tryz.func43 rfl rfl rfl rfl ?_
      repeat' (first | with_reducible refine wo_nil ?_ | ((with_reducible refine wo_any ?_); first | ((with_reducible refine ik_move ?_); refine wo_op rfl (op_move rfl) rfl rfl ?_) | ((with_reducible refine ik_assign ?_); refine wo_op rfl (op_assign rfl) rfl rfl ?_) | ((with_reducible refine ik_alloc ?_); refine wo_op rfl (op_alloc zz65 zs65 rfl rfl rfl) rfl rfl ?_) | ((with_reducible refine ik_bin ?_); first | refine wo_op rfl (op_neq rfl rfl) rfl rfl ?_ | refine wo_op rfl (op_eql rfl rfl) rfl rfl ?_) | ((with_reducible refine ik_build ?_); refine wo_op rfl (op_buildT rfl zz65 zp65 rfl rfl) rfl rfl ?_) | ((with_reducible refine ik_store ?_); refine wo_op0 rfl (op_stAgg rfl rfl at_A zs65 rfl rfl rfl rfl) rfl ?_) | ((with_reducible refine ik_callv ?_); first | (refine wo_call rfl rfl rfl rfl (q78 _ gr_A wf_A) rfl rfl ?_; rintro _ _ ⟨rfl, hq⟩; all_goals ((try (have hqn := hq.nx)); (try simp only [H.nx_push, H.nx_set, H.nx_bump] at hqn))) | (refine wo_call rfl rfl rfl rfl (o76 _ gr_A wf_A) rfl rfl ?_; rintro _ _ ⟨⟨rfl, at7⟩, hq⟩; all_goals ((try (have hqn := hq.nx)); (try simp only [H.nx_push, H.nx_set, H.nx_bump] at hqn))) | (refine wo_call rfl rfl rfl rfl (q79 _ _ _ (Sl.ofAt (at_A) (by simp [hX]) (Nat.le_refl _)) (Sl.ofAt (at_A) (by simp [hX]) (Nat.le_refl _))) rfl rfl ?_; rintro _ _ ⟨rfl, hq⟩; all_goals ((try (have hqn := hq.nx)); (try simp only [H.nx_push, H.nx_set, H.nx_bump] at hqn))))) | with_reducible refine sq_norm ?_ | with_reducible refine wc_seq ?_ | with_reducible refine wc_region ?_ | with_reducible refine wc_skip ?_ | with_reducible refine wc_ret ?_ | with_reducible refine sq_ret ?_ | refine wc_ift rfl ?_ | refine wc_iff rfl ?_)
      exact rqc2 rfl (ldAgg at_A Tryz.underlying65 rfl zs65 rfl rfl) rfl ⟨.inl ⟨by decide, rfl⟩, gr_A⟩
    have he0 : 0 < innL X X := by omega
    have hsE : remE 0 X = 0 := by unfold remE; rw [if_neg (by decide), if_neg he]
    rw [hsE]
    have hdb : ∀ z ∈ difL X Y, z.natAbs ≤ 32768 := fun z hz => by
      unfold difL at hz
      obtain ⟨i, _, rfl⟩ := List.mem_map.1 hz
      have h1 := getD_bound sb1 i
      have h2 := getD_bound sb2 i
      omega
    have hdn : (difL X Y).length = m := by simp [difL, hX]
    have r79 := fun (h' : H) (v w : Value) (u1 : Sl G h' 1 v m ((difL X Y).map (.int .i64))) (u2 : Sl G h' 1 w m ((difL X Y).map (.int .i64))) => c79 (G := G) (h := h') u1 u2 (by omega) hdb hdb
    have db := inn_self_bound hdb hdb (by omega)
    have q94 := fun (h' : H) (w' : Wf h') => c94 (G := G) (h := h') (a := innL (difL X Y) (difL X Y)) (b := innL X X) he0 (by omega) (by omega) w'
    obtain ⟨EE, hEE⟩ : ∃ e, innL X X = e := ⟨_, rfl⟩
    obtain ⟨PP, hPP⟩ : ∃ e, innL (difL X Y) (difL X Y) = e := ⟨_, rfl⟩
    have he1 : EE ≠ 0 := by rw [← hEE]; exact he
    rw [hPP] at r79 q94
    rw [hEE] at q79 q94
    unfold RemM
    rw [hPP, hEE]
    refine cf_enter0 51 [.cell 4 65, .tmp 5] Tryz.func43 rfl rfl rfl rfl ?_
    refine wc_mid (ι := Unit) (fun _ => [(0, .slice a m c), (1, .slice b m d), (4, .pointer (some ⟨h.nx, 0, some 0⟩))]) (fun _ h' => Wf h' ∧ Grow h h' ∧ At h' h.nx (.cells [.int .i64 0, .int .i64 0] 65 2 false)) ?_ ?_
    · repeat' (first | with_reducible refine wo_nil ?_ | ((with_reducible refine wo_any ?_); first | ((with_reducible refine ik_assign ?_); refine wo_op rfl (op_assign rfl) rfl rfl ?_) | ((with_reducible refine ik_alloc ?_); refine wo_op rfl (op_alloc zz65 zs65 rfl rfl rfl) rfl rfl ?_)) | with_reducible refine wc_region ?_)
      exact ⟨rfl, (), within_lk ⟨rfl, rfl, rfl, trivial⟩, wf_A, gr_A, at_A⟩
    rintro _ ha ⟨wa, ga, aa⟩
    have la := aa.lt
    refine wc_mid (ι := Unit) (fun _ => [(0, .slice a m c), (1, .slice b m d), (4, .pointer (some ⟨h.nx, 0, some 0⟩))]) (fun _ h' => Wf h' ∧ Grow h h' ∧ At h' h.nx (.cells [.int .i64 0, .int .i64 0] 65 2 false)) ?_ ?_
    · repeat' (first | with_reducible refine wo_nil ?_ | ((with_reducible refine wo_any ?_); first | ((with_reducible refine ik_move ?_); refine wo_op rfl (op_move rfl) rfl rfl ?_) | ((with_reducible refine ik_assign ?_); refine wo_op rfl (op_assign rfl) rfl rfl ?_) | ((with_reducible refine ik_bin ?_); refine wo_op rfl (op_neq rfl rfl) rfl rfl ?_) | ((with_reducible refine ik_callv ?_); (refine wo_call rfl rfl rfl rfl (q78 _ gr_A wf_A) rfl rfl ?_; rintro _ _ ⟨rfl, hq⟩; all_goals ((try (have hqn := hq.nx)); (try simp only [H.nx_push, H.nx_set, H.nx_bump] at hqn))))) | with_reducible refine sq_norm ?_ | with_reducible refine wc_seq ?_ | with_reducible refine wc_region ?_ | with_reducible refine wc_skip ?_ | refine wc_iff rfl ?_)
      exact ⟨rfl, (), within_lk ⟨rfl, rfl, rfl, trivial⟩, wf_A, gr_A, at_A⟩
    clear wa ga aa la ha q78
    rintro _ ha ⟨wa, ga, aa⟩
    have la := aa.lt
    refine wc_mid (ι := (Option Addr × Nat) × Nat) (fun i => [(1, .slice b m d), (4, .pointer (some ⟨h.nx, 0, some 0⟩)), (7, .slice i.1.1 m i.1.2), (8, .slice (some ⟨i.2, 0, some 0⟩) m m)]) (fun i h' => (Wf h' ∧ Grow h h' ∧ At h' h.nx (.cells [.int .i64 0, .int .i64 0] 65 2 false)) ∧ Sl G h' 1 (.slice i.1.1 m i.1.2) m (X.map (.int .i64)) ∧ h.nx < i.2 ∧ At h' i.2 (.cells (X.map (.int .i64)) 3 1 false)) ?_ ?_
    · repeat' (first | with_reducible refine wo_nil ?_ | ((with_reducible refine wo_any ?_); first | ((with_reducible refine ik_move ?_); refine wo_op rfl (op_move rfl) rfl rfl ?_) | ((with_reducible refine ik_assign ?_); refine wo_op rfl (op_assign rfl) rfl rfl ?_) | ((with_reducible refine ik_callv ?_); (refine wo_call rfl rfl rfl rfl (o76 _ gr_A wf_A) rfl rfl ?_; rintro _ _ ⟨⟨rfl, at8⟩, hq⟩; all_goals ((try (have hqn := hq.nx)); (try simp only [H.nx_push, H.nx_set, H.nx_bump] at hqn))))) | with_reducible refine wc_region ?_)
      exact ⟨rfl, ((_, _), _), within_lk ⟨rfl, rfl, rfl, rfl, trivial⟩, ⟨wf_A, gr_A, at_A⟩, Sl.ofAt (at_A) (by simp [hX]) (Nat.le_refl _), Nat.lt_of_lt_of_le la (by assumption), at_A⟩
    clear wa ga aa la ha q76 o76
    rintro ⟨⟨ax, cx⟩, B8⟩ ha ⟨⟨wa, ga, aa⟩, sx, hB8, a8⟩
    simp only at sx hB8 a8 ⊢
    refine wc_mid (ι := Unit) (fun i => [(1, .slice b m d), (4, .pointer (some ⟨h.nx, 0, some 0⟩)), (8, .slice (some ⟨B8, 0, some 0⟩) m m), (9, .int .i64 EE)]) (fun i h' => (Wf h' ∧ Grow h h' ∧ At h' h.nx (.cells [.int .i64 0, .int .i64 0] 65 2 false)) ∧ At h' B8 (.cells (X.map (.int .i64)) 3 1 false)) ?_ ?_
    · repeat' (first | with_reducible refine wo_nil ?_ | ((with_reducible refine wo_any ?_); first | ((with_reducible refine ik_move ?_); refine wo_op rfl (op_move rfl) rfl rfl ?_) | ((with_reducible refine ik_assign ?_); refine wo_op rfl (op_assign rfl) rfl rfl ?_) | ((with_reducible refine ik_callv ?_); (refine wo_call rfl rfl rfl rfl (q79 _ _ _ (sx.grow gr_A) (sx.grow gr_A)) rfl rfl ?_; rintro _ _ ⟨rfl, hq⟩; all_goals ((try (have hqn := hq.nx)); (try simp only [H.nx_push, H.nx_set, H.nx_bump] at hqn))))) | with_reducible refine wc_region ?_)
      exact ⟨rfl, (), within_lk ⟨rfl, rfl, rfl, rfl, trivial⟩, ⟨wf_A, gr_A, at_A⟩, at_A⟩
    clear wa ga aa ha sx a8 q79
    rintro _ ha ⟨⟨wa, ga, aa⟩, a8⟩
    refine wc_mid (ι := Unit) (fun i => [(1, .slice b m d), (4, .pointer (some ⟨h.nx, 0, some 0⟩)), (8, .slice (some ⟨B8, 0, some 0⟩) m m), (9, .int .i64 EE)]) (fun i h' => (Wf h' ∧ Grow h h' ∧ At h' h.nx (.cells [.int .i64 0, .int .i64 0] 65 2 false)) ∧ At h' B8 (.cells (X.map (.int .i64)) 3 1 false)) ?_ ?_
    · repeat' (first | with_reducible refine wo_nil ?_ | ((with_reducible refine wo_any ?_); first | ((with_reducible refine ik_move ?_); refine wo_op rfl (op_move rfl) rfl rfl ?_) | ((with_reducible refine ik_bin ?_); refine wo_op rfl (op_eql rfl rfl) rfl rfl ?_)) | with_reducible refine sq_norm ?_ | with_reducible refine wc_seq ?_ | with_reducible refine wc_region ?_ | with_reducible refine wc_skip ?_ | (refine wc_if rfl (fun hb => dead_A hb) (fun hb => ?_); (try simp only [decide_eq_true_eq, decide_eq_false_iff_not, Bool.not_eq_true', Bool.not_eq_false', Int.not_lt, Int.not_le, Decidable.not_not, not_true_eq_false, not_false_eq_true, beq_self_eq_true, reduceCtorEq] at hb)))
      exact ⟨rfl, (), within_lk ⟨rfl, rfl, rfl, rfl, trivial⟩, ⟨wf_A, gr_A, at_A⟩, at_A⟩
    clear wa ga aa ha a8
    rintro _ ha ⟨⟨wa, ga, aa⟩, a8⟩
    have la := aa.lt
    have l8 := a8.lt
    refine wc_mid (ι := Unit) (fun i => [(4, .pointer (some ⟨h.nx, 0, some 0⟩)), (8, .slice (some ⟨B8, 0, some 0⟩) m m), (9, .int .i64 EE)]) (fun i h' => (Wf h' ∧ Grow h h' ∧ At h' h.nx (.cells [.int .i64 0, .int .i64 0] 65 2 false)) ∧ At h' B8 (.cells ((difL X Y).map (.int .i64)) 3 1 false)) ?_ ?_
    · repeat' (first | with_reducible refine wo_nil ?_ | ((with_reducible refine wo_any ?_); first | ((with_reducible refine ik_move ?_); refine wo_op rfl (op_move rfl) rfl rfl ?_) | ((with_reducible refine ik_callb ?_); refine wo_op rfl (op_lenSl rfl Tryz.underlying22) rfl rfl ?_) | ((with_reducible refine ik_callv ?_); (refine wo_call rfl rfl rfl rfl (r76 _ gr_A wf_A) rfl rfl ?_; rintro _ _ ⟨⟨rfl, at9⟩, hq⟩; all_goals ((try (have hqn := hq.nx)); (try simp only [H.nx_push, H.nx_set, H.nx_bump] at hqn))))) | with_reducible refine sq_norm ?_ | with_reducible refine wc_seq ?_ | with_reducible refine wc_region ?_ | with_reducible refine wc_block ?_)
      refine wc_cut (ι := Nat) (fun i => [(4, .pointer (some ⟨h.nx, 0, some 0⟩)), (8, .slice (some ⟨B8, 0, some 0⟩) m m), (9, .int .i64 EE), (30, .slice (some ⟨i, 0, some 0⟩) m m), (31, .int .i64 m), (32, .int .i64 0)]) (fun i h' => (Wf h' ∧ Grow h h' ∧ At h' h.nx (.cells [.int .i64 0, .int .i64 0] 65 2 false)) ∧ At h' B8 (.cells (X.map (.int .i64)) 3 1 false) ∧ B8 < i ∧ At h' i (.cells (Y.map (.int .i64)) 3 1 false)) _ (within_lk ⟨rfl, rfl, rfl, rfl, rfl, rfl, trivial⟩) ⟨⟨wf_A, gr_A, at_A⟩, at_A, ne_A, at_A⟩ ?_
      rintro B9 g0 ⟨⟨wg, gg, ag⟩, a8, hB9, a9⟩
      have eX : (List.range m).map (fun k => if k < 0 then X.getD k 0 - Y.getD k 0 else X.getD k 0) = X := by
        have := take_row X
        rw [hX] at this
        simpa using this
      refine wc_loop (fun i => m - i) (fun i : Nat => [(4, .pointer (some ⟨h.nx, 0, some 0⟩)), (8, .slice (some ⟨B8, 0, some 0⟩) m m), (9, .int .i64 EE), (30, .slice (some ⟨B9, 0, some 0⟩) m m), (31, .int .i64 m), (32, .int .i64 i)])
        (fun i h' => (Wf h' ∧ Grow h h' ∧ At h' h.nx (.cells [.int .i64 0, .int .i64 0] 65 2 false) ∧ At h' B8 (.cells (((List.range m).map (fun k => if k < i then X.getD k 0 - Y.getD k 0 else X.getD k 0)).map (.int .i64)) 3 1 false) ∧ At h' B9 (.cells (Y.map (.int .i64)) 3 1 false)) ∧ i ≤ m) 0 (within_lk ⟨rfl, rfl, rfl, rfl, rfl, rfl, trivial⟩) ⟨⟨wg, gg, ag, by rw [eX]; exact a8, a9⟩, Nat.zero_le _⟩ ?_
      clear wg gg ag a8 a9
      rintro i h3 ⟨⟨w3, g3, a4, a8, a9⟩, hi⟩
      have l4 := a4.lt
      have l8 := a8.lt
      have l9 := a9.lt
      by_cases hlt : i < m
      · have v8 := row_get (f := fun k => if k < i then X.getD k 0 - Y.getD k 0 else X.getD k 0) (n := m) (o := i) hlt
        rw [if_neg (by omega)] at v8
        have v9 := get_map_int (k := .i64) (l := Y) (o := i) (by omega)
        have bx := getD_bound sb1 i
        have bY := getD_bound sb2 i
        have hset := row_set (n := m) (o := i) (u := X.getD i 0 - Y.getD i 0) (f := fun k => if k < i then X.getD k 0 - Y.getD k 0 else X.getD k 0) (g := fun k => if k < i + 1 then X.getD k 0 - Y.getD k 0 else X.getD k 0) (by rw [if_pos (by omega)]) (fun k hk => by
          by_cases q : k < i
          · rw [if_pos q, if_pos (by omega)]
          · rw [if_neg q, if_neg (by omega)])
        obtain ⟨x, hx⟩ : ∃ x, X.getD i 0 = x := ⟨_, rfl⟩
        obtain ⟨y, hy⟩ : ∃ y, Y.getD i 0 = y := ⟨_, rfl⟩
        rw [hx] at v8 hset bx
        rw [hy] at v9 hset bY
        repeat' (first | with_reducible refine wo_nil ?_ | ((with_reducible refine wo_any ?_); first | ((with_reducible refine ik_move ?_); refine wo_op rfl (op_move rfl) rfl rfl ?_) | ((with_reducible refine ik_assign ?_); refine wo_op rfl (op_assign rfl) rfl rfl ?_) | ((with_reducible refine ik_indexAddr ?_); refine wo_op rfl (op_idxSl (o := i) rfl rfl Tryz.underlying22 zs3 (by omega) (by omega) (by omega)) rfl rfl ?_) | ((with_reducible refine ik_load ?_); first | refine wo_op rfl (op_ldIdx rfl at_A Tryz.underlying3 rfl v8) rfl rfl ?_ | refine wo_op rfl (op_ldIdx rfl at_A Tryz.underlying3 rfl v9) rfl rfl ?_) | ((with_reducible refine ik_store ?_); refine wo_op0 rfl (op_stIdx rfl rfl at_A rfl zs3 (by simp; omega) rfl hset) rfl ?_) | ((with_reducible refine ik_bin ?_); first | refine wo_op rfl (op_lss rfl rfl) rfl rfl ?_ | refine wo_op rfl (op_sub' rfl rfl (w64 (by omega) (by omega))) rfl rfl ?_ | refine wo_op rfl (op_add' rfl rfl (w64 (by omega) (by omega))) rfl rfl ?_)) | with_reducible refine sq_norm ?_ | with_reducible refine wc_seq ?_ | with_reducible refine wc_region ?_ | with_reducible refine wc_skip ?_ | with_reducible refine wc_block ?_ | with_reducible refine bq_norm ?_ | (refine wc_if rfl (fun hb => ?_) (fun hb => ?_) <;> (try simp only [decide_eq_true_eq, decide_eq_false_iff_not, Bool.not_eq_true', Bool.not_eq_false', Int.not_lt, Int.not_le, Decidable.not_not, not_true_eq_false, not_false_eq_true, beq_self_eq_true, reduceCtorEq] at hb) <;> (try (exfalso; omega))))
        exact lq_norm (i + 1) (by omega) (within_lk ⟨rfl, rfl, rfl, rfl, rfl, rfl, trivial⟩) ⟨⟨wf_A, gr_A, at_A, at_A, at_A⟩, by omega⟩
      · have hin : i = m := by omega
        subst hin
        have e : (List.range i).map (fun k => if k < i then X.getD k 0 - Y.getD k 0 else X.getD k 0) = difL X Y := by
          unfold difL
          rw [hX]
          exact List.map_congr_left fun k hk => by rw [if_pos (List.mem_range.1 hk)]
        rw [e] at a8
        repeat' (first | with_reducible refine wo_nil ?_ | ((with_reducible refine wo_any ?_); ((with_reducible refine ik_bin ?_); refine wo_op rfl (op_lss rfl rfl) rfl rfl ?_)) | with_reducible refine sq_norm ?_ | with_reducible refine wc_seq ?_ | with_reducible refine wc_region ?_ | with_reducible refine wc_exit ?_ | with_reducible refine sq_exit ?_ | with_reducible refine lq_exit ?_ | refine bq_eq rfl ?_ | (refine wc_if rfl (fun hb => ?_) (fun hb => ?_) <;> (try simp only [decide_eq_true_eq, decide_eq_false_iff_not, Bool.not_eq_true', Bool.not_eq_false', Int.not_lt, Int.not_le, Decidable.not_not, not_true_eq_false, not_false_eq_true, beq_self_eq_true, reduceCtorEq] at hb) <;> (try (exfalso; omega))))
        exact ⟨rfl, (), within_lk ⟨rfl, rfl, rfl, trivial⟩, ⟨wf_A, gr_A, at_A⟩, at_A⟩
    clear wa ga aa la ha a8 l8 r76
    rintro _ ha ⟨⟨wa, ga, aa⟩, a8⟩
    have la := aa.lt
    have l8 := a8.lt
    repeat' (first | with_reducible refine wo_nil ?_ | ((with_reducible refine wo_any ?_); first | ((with_reducible refine ik_move ?_); refine wo_op rfl (op_move rfl) rfl rfl ?_) | ((with_reducible refine ik_assign ?_); refine wo_op rfl (op_assign rfl) rfl rfl ?_) | ((with_reducible refine ik_build ?_); refine wo_op rfl (op_buildT rfl zz65 zp65 rfl rfl) rfl rfl ?_) | ((with_reducible refine ik_store ?_); refine wo_op0 rfl (op_stAgg rfl rfl at_A zs65 rfl rfl rfl rfl) rfl ?_) | ((with_reducible refine ik_callv ?_); first | (refine wo_call rfl rfl rfl rfl (r79 _ _ _ (Sl.ofAt (at_A) (by simp [hdn]) (Nat.le_refl _)) (Sl.ofAt (at_A) (by simp [hdn]) (Nat.le_refl _))) rfl rfl ?_; rintro _ _ ⟨rfl, hq⟩; all_goals ((try (have hqn := hq.nx)); (try simp only [H.nx_push, H.nx_set, H.nx_bump] at hqn))) | (refine wo_call rfl rfl rfl rfl (q94 _ wf_A) rfl rfl ?_; rintro _ _ ⟨rfl, hq⟩; all_goals ((try (have hqn := hq.nx)); (try simp only [H.nx_push, H.nx_set, H.nx_bump] at hqn))))) | with_reducible refine sq_norm ?_ | with_reducible refine wc_seq ?_ | with_reducible refine wc_region ?_ | with_reducible refine wc_ret ?_)
    exact rqc2 rfl (ldAgg at_A Tryz.underlying65 rfl zs65 rfl rfl) rfl ⟨.inr ⟨by first | trivial | rfl, rfl⟩, gr_A⟩
  · have : remE E (l.map smp) = E := by unfold remE; rw [if_pos hz]
    rw [this]
    refine cf_enter0 51 [.cell 4 65, .tmp 5] Tryz.func43 rfl rfl rfl rfl ?_
    repeat' (first | with_reducible refine wo_nil ?_ | ((with_reducible refine wo_any ?_); first | ((with_reducible refine ik_move ?_); refine wo_op rfl (op_move rfl) rfl rfl ?_) | ((with_reducible refine ik_assign ?_); refine wo_op rfl (op_assign rfl) rfl rfl ?_) | ((with_reducible refine ik_alloc ?_); refine wo_op rfl (op_alloc zz65 zs65 rfl rfl rfl) rfl rfl ?_) | ((with_reducible refine ik_bin ?_); refine wo_op rfl (op_neq rfl rfl) rfl rfl ?_) | ((with_reducible refine ik_build ?_); refine wo_op rfl (op_buildT rfl zz65 zp65 rfl rfl) rfl rfl ?_) | ((with_reducible refine ik_store ?_); refine wo_op0 rfl (op_stAgg rfl rfl at_A zs65 rfl rfl rfl rfl) rfl ?_) | ((with_reducible refine ik_callv ?_); (refine wo_call rfl rfl rfl rfl (q78 _ gr_A wf_A) rfl rfl ?_; rintro _ _ ⟨rfl, hq⟩; all_goals ((try (have hqn := hq.nx)); (try simp only [H.nx_push, H.nx_set, H.nx_bump] at hqn))))) | with_reducible refine sq_norm ?_ | with_reducible refine wc_seq ?_ | with_reducible refine wc_region ?_ | with_reducible refine wc_ret ?_ | with_reducible refine sq_ret ?_ | (refine wc_if rfl (fun hb => ?_) (fun hb => dead_A hb); (try simp only [decide_eq_true_eq, decide_eq_false_iff_not, Bool.not_eq_true', Bool.not_eq_false', Int.not_lt, Int.not_le, Decidable.not_not, not_true_eq_false, not_false_eq_true, beq_self_eq_true, reduceCtorEq] at hb)))
    exact rqc2 rfl (ldAgg at_A Tryz.underlying65 rfl zs65 rfl rfl) rfl ⟨.inl ⟨hz, rfl⟩, gr_A⟩
/-- The reference's answers. -/
def RSub (G : Base) (h : H) (r : Value) (n : Nat) (x y : List Int) : Prop :=
  (innL y y = 0 ∧ r = .tuple #[.slice none 0 0, ratV 0 0, .int .i64 17]) ∨ (innL y y ≠ 0 ∧ ∃ a c, r = .tuple #[.slice a n c, ratV (lowN (innL x y) (innL y y)) (lowD (innL x y) (innL y y)), .int .i64 0] ∧ Sl G h 1 (.slice a n c) n ((subL x y).map (.int .i64)))
set_option maxHeartbeats 4000000 in
theorem c46 {v w : Value} {n : Nat} {x y : List Int} (s : Sl G h 1 v n (x.map (.int .i64))) (u : Sl G h 1 w n (y.map (.int .i64))) (hn : n ≤ 1024) (sb1 : ∀ z ∈ x, z.natAbs ≤ 16384) (sb2 : ∀ z ∈ y, z.natAbs ≤ 16384) (hw : Wf h) :
    Cf (mz G) (.func (.func 46) #[] #[]) [v, w] h fun r h' => RSub G h' r n x y ∧ Grow h h' := by
  obtain ⟨a, c, rfl⟩ := s.form
  obtain ⟨b, d, rfl⟩ := u.form
  have hx := s.length
  have hy := u.length
  simp at hx hy
  have b1 : ∀ z ∈ x, z.natAbs ≤ 32768 := fun z hz => Nat.le_trans (sb1 z hz) (by decide)
  have b2 : ∀ z ∈ y, z.natAbs ≤ 32768 := fun z hz => Nat.le_trans (sb2 z hz) (by decide)
  have q45 := fun (h' : H) (g : Grow h h') (w' : Wf h') => c45 (u.grow g) (u.grow g) hn b2 b2 w'
  have r45 := fun (h' : H) (g : Grow h h') (w' : Wf h') => c45 (s.grow g) (u.grow g) hn b1 b2 w'
  have e0 := inn_nonneg y
  have eb := inn_self_bound sb2 sb2 (by omega)
  have pb := inn_self_bound sb1 sb2 (by omega)
  unfold RSub
  by_cases he : innL y y = 0
  · rw [he] at q45
    refine cf_enter0 48 [.tmp 4, .cell 5 65, .tmp 6] Tryz.func46 rfl rfl rfl rfl ?_
    repeat' (first | with_reducible refine wo_nil ?_ | ((with_reducible refine wo_any ?_); first | ((with_reducible refine ik_move ?_); refine wo_op rfl (op_move rfl) rfl rfl ?_) | ((with_reducible refine ik_assign ?_); refine wo_op rfl (op_assign rfl) rfl rfl ?_) | ((with_reducible refine ik_alloc ?_); refine wo_op rfl (op_alloc zz65 zs65 rfl rfl rfl) rfl rfl ?_) | ((with_reducible refine ik_bin ?_); refine wo_op rfl (op_eql rfl rfl) rfl rfl ?_) | ((with_reducible refine ik_build ?_); refine wo_op rfl (op_buildT rfl zz65 zp65 rfl rfl) rfl rfl ?_) | ((with_reducible refine ik_store ?_); refine wo_op0 rfl (op_stAgg rfl rfl at_A zs65 rfl rfl rfl rfl) rfl ?_) | ((with_reducible refine ik_callv ?_); (refine wo_call rfl rfl rfl rfl (q45 _ gr_A wf_A) rfl rfl ?_; rintro _ _ ⟨rfl, hq⟩; all_goals ((try (have hqn := hq.nx)); (try simp only [H.nx_push, H.nx_set, H.nx_bump] at hqn))))) | with_reducible refine sq_norm ?_ | with_reducible refine wc_seq ?_ | with_reducible refine wc_region ?_ | with_reducible refine wc_ret ?_ | with_reducible refine sq_ret ?_ | refine wc_ift rfl ?_)
    exact rqt rfl rfl (ldAgg at_A Tryz.underlying65 rfl zs65 rfl rfl) rfl ⟨.inl ⟨he, rfl⟩, gr_A⟩
  have he0 : 0 < innL y y := by omega
  have q96 := fun (h' : H) (w' : Wf h') => c96 (G := G) (h := h') (a := innL x y) (b := innL y y) he0 (by omega) (by omega) w'
  have hF : ∀ i, rnd (x.getD i 0 * innL y y - innL x y * y.getD i 0) (innL y y) = subF x y i := fun i => by unfold subF; rfl
  have hnsub : subL x y = (List.range n).map (subF x y) := by unfold subL; rw [hx]
  rw [hnsub]
  obtain ⟨EE, hEE⟩ : ∃ e, innL y y = e := ⟨_, rfl⟩
  obtain ⟨PP, hPP⟩ : ∃ e, innL x y = e := ⟨_, rfl⟩
  rw [hEE] at q45 q96 he he0 eb hF ⊢
  rw [hPP] at r45 q96 pb hF ⊢
  refine cf_enter0 48 [.tmp 4, .cell 5 65, .tmp 6] Tryz.func46 rfl rfl rfl rfl ?_
  refine wc_mid (ι := Unit) (fun _ => [(0, .slice a n c), (1, .slice b n d), (5, .pointer (some ⟨h.nx, 0, some 0⟩))]) (fun _ h' => Wf h' ∧ Grow h h' ∧ At h' h.nx (.cells [.int .i64 0, .int .i64 0] 65 2 false)) ?_ ?_
  · repeat' (first | with_reducible refine wo_nil ?_ | ((with_reducible refine wo_any ?_); first | ((with_reducible refine ik_assign ?_); refine wo_op rfl (op_assign rfl) rfl rfl ?_) | ((with_reducible refine ik_alloc ?_); refine wo_op rfl (op_alloc zz65 zs65 rfl rfl rfl) rfl rfl ?_)) | with_reducible refine wc_region ?_)
    exact ⟨rfl, (), within_lk ⟨rfl, rfl, rfl, trivial⟩, wf_A, gr_A, at_A⟩
  rintro _ ha ⟨wa, ga, aa⟩
  have la := aa.lt
  repeat' (first | with_reducible refine wo_nil ?_ | ((with_reducible refine wo_any ?_); first | ((with_reducible refine ik_move ?_); refine wo_op rfl (op_move rfl) rfl rfl ?_) | ((with_reducible refine ik_assign ?_); refine wo_op rfl (op_assign rfl) rfl rfl ?_) | ((with_reducible refine ik_bin ?_); refine wo_op rfl (op_eql rfl rfl) rfl rfl ?_) | ((with_reducible refine ik_callv ?_); first | (refine wo_call rfl rfl rfl rfl (q45 _ gr_A wf_A) rfl rfl ?_; rintro _ _ ⟨rfl, hq⟩; all_goals ((try (have hqn := hq.nx)); (try simp only [H.nx_push, H.nx_set, H.nx_bump] at hqn))) | (refine wo_call rfl rfl rfl rfl (r45 _ gr_A wf_A) rfl rfl ?_; rintro _ _ ⟨rfl, hq⟩; all_goals ((try (have hqn := hq.nx)); (try simp only [H.nx_push, H.nx_set, H.nx_bump] at hqn))))) | with_reducible refine sq_norm ?_ | with_reducible refine wc_seq ?_ | with_reducible refine wc_region ?_ | with_reducible refine wc_skip ?_ | with_reducible refine wc_block ?_ | (refine wc_if rfl (fun hb => dead_A hb) (fun hb => ?_); (try simp only [decide_eq_true_eq, decide_eq_false_iff_not, Bool.not_eq_true', Bool.not_eq_false', Int.not_lt, Int.not_le, Decidable.not_not, not_true_eq_false, not_false_eq_true, beq_self_eq_true, reduceCtorEq] at hb)))
  refine wc_cut (ι := Unit) (fun _ => [(0, .slice a n c), (1, .slice b n d), (5, .pointer (some ⟨h.nx, 0, some 0⟩)), (7, .int .i64 EE), (8, .int .i64 PP), (9, .slice none 0 0), (10, .int .i64 0)]) (fun _ h' => Wf h' ∧ Grow h h' ∧ At h' h.nx (.cells [.int .i64 0, .int .i64 0] 65 2 false)) () (within_lk ⟨rfl, rfl, rfl, rfl, rfl, rfl, rfl, trivial⟩) ⟨wf_A, gr_A, at_A⟩ ?_
  rintro _ g0 ⟨wg, gg, ag⟩
  have lg := ag.lt
  refine wc_loop (fun p : Nat × Value => n - p.1) (fun p => [(0, .slice a n c), (1, .slice b n d), (5, .pointer (some ⟨h.nx, 0, some 0⟩)), (7, .int .i64 EE), (8, .int .i64 PP), (9, p.2), (10, .int .i64 (p.1 : Nat))]) (fun p h' => (Wf h' ∧ Ow g0 h' 3 1 p.2 p.1 (((List.range p.1).map (subF x y)).map (.int .i64))) ∧ p.1 ≤ n) (0, .slice none 0 0) (within_lk ⟨rfl, rfl, rfl, rfl, rfl, rfl, rfl, trivial⟩) ⟨⟨wg, .nil (.refl _)⟩, Nat.zero_le _⟩ ?_
  rintro ⟨i, r⟩ h1 ⟨⟨w1, ow⟩, hi⟩
  simp only at ow hi ⊢
  have g1 := ow.grow
  have a1 := ag.grow g1
  have l1 := a1.lt
  have n1 := g1.nx
  have g2 := gg.trans g1
  by_cases hlt : i < n
  · obtain ⟨d1, i1, i3⟩ := slI_at (s.grow g2) (i := (i : Int)) (q := i) hlt rfl
    obtain ⟨d2, j1, j3⟩ := slI_at (u.grow g2) (i := (i : Int)) (q := i) hlt rfl
    have hFi := hF i
    have bx := getD_bound sb1 i
    have bY := getD_bound sb2 i
    have b3 := prod_bound bx eb
    have b4 := prod_bound pb bY
    obtain ⟨X, hX⟩ : ∃ z, x.getD i 0 = z := ⟨_, rfl⟩
    obtain ⟨Y, hY⟩ : ∃ z, y.getD i 0 = z := ⟨_, rfl⟩
    rw [hX] at i3 hFi bx b3
    rw [hY] at j3 hFi bY b4
    have q93 := fun h' : H => c93 (G := G) (h := h') (a := X * EE - PP * Y) (b := EE) he0 (by omega) (by omega)
    have o1 : IntKind.wrap .i64 (X * EE) = X * EE := w64 (by omega) (by omega)
    have o2 : IntKind.wrap .i64 (PP * Y) = PP * Y := w64 (by omega) (by omega)
    obtain ⟨R, hR⟩ : ∃ R, rnd (X * EE - PP * Y) EE = R := ⟨_, rfl⟩
    rw [hR] at hFi q93
    have e3 := rowI_step (subF x y) i
    rw [← hFi] at e3
    have hlS : (((List.range i).map (subF x y)).map (Value.int .i64)).length = i * 1 := by simp
    rcases ow.form with ⟨rfl, hi0⟩ | ⟨b', hb', rfl, hatb⟩
    · subst hi0
      repeat' (first | with_reducible refine wo_nil ?_ | ((with_reducible refine wo_any ?_); first | ((with_reducible refine ik_move ?_); refine wo_op rfl (op_move rfl) rfl rfl ?_) | ((with_reducible refine ik_assign ?_); refine wo_op rfl (op_assign rfl) rfl rfl ?_) | ((with_reducible refine ik_bin ?_); first | refine wo_op rfl (op_lss rfl rfl) rfl rfl ?_ | refine wo_op rfl (op_add' rfl rfl (w64 (by omega) (by omega))) rfl rfl ?_) | ((with_reducible refine ik_callb ?_); refine wo_op rfl (op_lenSl rfl Tryz.underlying22) rfl rfl ?_)) | ((with_reducible refine xk_any ?_); first | ((with_reducible refine xk_as0 ?_); first | ((with_reducible refine xk_move ?_); refine wx_q (wt_none rfl) rfl rfl (op_q rfl (op_move rfl)) rfl rfl rfl ?_) | ((with_reducible refine xk_indexAddr ?_); first | refine wx_q (wt_none rfl) rfl rfl (op_q rfl (op_indexAddr rfl rfl i1)) rfl rfl rfl ?_ | refine wx_q (wt_none rfl) rfl rfl (op_q rfl (op_indexAddr rfl rfl j1)) rfl rfl rfl ?_) | ((with_reducible refine xk_load ?_); first | refine wx_h0 (wt_none rfl) rfl (op_q rfl (op_ldCell rfl Tryz.underlying3 rfl i3)) rfl rfl rfl ?_ | refine wx_h0 (wt_none rfl) rfl (op_q rfl (op_ldCell rfl Tryz.underlying3 rfl j3)) rfl rfl rfl ?_) | ((with_reducible refine xk_bin ?_); first | refine wx_q (wt_none rfl) rfl rfl (op_q rfl (op_mul' rfl rfl o1)) rfl rfl rfl ?_ | refine wx_q (wt_none rfl) rfl rfl (op_q rfl (op_mul' rfl rfl o2)) rfl rfl rfl ?_ | refine wx_q (wt_none rfl) rfl rfl (op_q rfl (op_sub' rfl rfl (w64 (by omega) (by omega)))) rfl rfl rfl ?_) | ((with_reducible refine xk_buildSlice ?_); refine wx_a0 (wt_none rfl) rfl (oa_buildSlice rfl Tryz.underlying22 zs3 zz3 rfl rfl) rfl rfl ?_) | ((with_reducible refine xk_callv ?_); refine wx_ee (wt_none rfl) rfl rfl (op_call rfl rfl (q93 _)) rfl rfl ?_)) | ((with_reducible refine xk_assign ?_); refine wx_q (wt_none rfl) rfl rfl (op_q rfl (op_assign rfl)) rfl rfl rfl ?_) | ((with_reducible refine xk_callb ?_); ((with_reducible refine xk_as1 ?_); refine wx_e1 (wt_none rfl) rfl rfl rfl (op_append rfl rfl (append_nil_eq (M := mz G) (st := 22) (xt := 22) (m := 1) Tryz.underlying22 Tryz.underlying22 rfl zs3 zb3 zz3 rfl (Sl.ofAt at_A rfl (Nat.le_refl _)) rfl (by omega) (by omega))) rfl rfl ?_)) | refine wx_niln ?_ ?_ rfl rfl ?_) | with_reducible exact obl_nil | with_reducible refine obl_cons ?_ ?_ | ((with_reducible refine ik_obs ?_); first | exact obs_nil | refine obs_skip rfl ?_ | refine obs_chkn rfl rfl (op_q rfl (op_ldCell rfl Tryz.underlying3 rfl i3)) ?_ | refine obs_chkn rfl rfl (op_q rfl (op_ldCell rfl Tryz.underlying3 rfl j3)) ?_) | with_reducible exact stk_nil | with_reducible refine stk_cons ?_ ?_ | ((with_reducible refine ik_stk ?_); first | exact stk_abs rfl rfl | exact stk_freeB rfl rfl wf_A gr_B) | with_reducible refine sq_norm ?_ | with_reducible refine wc_seq ?_ | with_reducible refine wc_region ?_ | with_reducible refine wc_skip ?_ | with_reducible refine wc_block ?_ | with_reducible refine bq_norm ?_ | (refine wc_if rfl (fun hb => ?_) (fun hb => dead_A hb); (try simp only [decide_eq_true_eq, decide_eq_false_iff_not, Bool.not_eq_true', Bool.not_eq_false', Int.not_lt, Int.not_le, Decidable.not_not, not_true_eq_false, not_false_eq_true, beq_self_eq_true, reduceCtorEq] at hb)) | refine wc_drawB (id := 9) 19 [0, 0, 0, 6, 14, 0, 62, 0, 0, 0, 768, 1792, 3968, 8190, 0, 32766, 65534, 131071, 262143] [0, 1, 2, 3, 4, 5, 6, 7, 8, 9, 10, 11, 12, 13, 14, 15, 16, 17, 18] (by kernel_rfl) (by kernel_rfl) rfl rfl ?_)
      exact lq_norm (0 + 1, .slice (some ⟨_, 0, some 0⟩) (0 + 1) (0 + 1)) (by simp only; omega) (within_lk ⟨rfl, rfl, rfl, rfl, rfl, rfl, rfl, trivial⟩) ⟨⟨wf_A, ⟨gr_A, by simp, .inr ⟨_, by simp only [H.nx_set, H.nx_push, H.nx_bump]; omega, rfl, by rw [← e3]; exact at_A⟩⟩⟩, by simp only; omega⟩
    · have lb := hatb.lt
      repeat' (first | with_reducible refine wo_nil ?_ | ((with_reducible refine wo_any ?_); first | ((with_reducible refine ik_move ?_); refine wo_op rfl (op_move rfl) rfl rfl ?_) | ((with_reducible refine ik_assign ?_); refine wo_op rfl (op_assign rfl) rfl rfl ?_) | ((with_reducible refine ik_bin ?_); first | refine wo_op rfl (op_lss rfl rfl) rfl rfl ?_ | refine wo_op rfl (op_add' rfl rfl (w64 (by omega) (by omega))) rfl rfl ?_) | ((with_reducible refine ik_callb ?_); refine wo_op rfl (op_lenSl rfl Tryz.underlying22) rfl rfl ?_)) | ((with_reducible refine xk_any ?_); first | ((with_reducible refine xk_as0 ?_); first | ((with_reducible refine xk_move ?_); refine wx_q (wt_none rfl) rfl rfl (op_q rfl (op_move rfl)) rfl rfl rfl ?_) | ((with_reducible refine xk_indexAddr ?_); first | refine wx_q (wt_none rfl) rfl rfl (op_q rfl (op_indexAddr rfl rfl i1)) rfl rfl rfl ?_ | refine wx_q (wt_none rfl) rfl rfl (op_q rfl (op_indexAddr rfl rfl j1)) rfl rfl rfl ?_) | ((with_reducible refine xk_load ?_); first | refine wx_h0 (wt_none rfl) rfl (op_q rfl (op_ldCell rfl Tryz.underlying3 rfl i3)) rfl rfl rfl ?_ | refine wx_h0 (wt_none rfl) rfl (op_q rfl (op_ldCell rfl Tryz.underlying3 rfl j3)) rfl rfl rfl ?_) | ((with_reducible refine xk_bin ?_); first | refine wx_q (wt_none rfl) rfl rfl (op_q rfl (op_mul' rfl rfl o1)) rfl rfl rfl ?_ | refine wx_q (wt_none rfl) rfl rfl (op_q rfl (op_mul' rfl rfl o2)) rfl rfl rfl ?_ | refine wx_q (wt_none rfl) rfl rfl (op_q rfl (op_sub' rfl rfl (w64 (by omega) (by omega)))) rfl rfl rfl ?_) | ((with_reducible refine xk_buildSlice ?_); refine wx_a0 (wt_none rfl) rfl (oa_buildSlice rfl Tryz.underlying22 zs3 zz3 rfl rfl) rfl rfl ?_) | ((with_reducible refine xk_callv ?_); refine wx_ee (wt_none rfl) rfl rfl (op_call rfl rfl (q93 _)) rfl rfl ?_)) | ((with_reducible refine xk_assign ?_); refine wx_q (wt_none rfl) rfl rfl (op_q rfl (op_assign rfl)) rfl rfl rfl ?_) | ((with_reducible refine xk_callb ?_); ((with_reducible refine xk_as1 ?_); refine wx_e1 (wt_none rfl) rfl rfl rfl (op_append rfl rfl (append_own_eq (M := mz G) (st := 22) (xt := 22) (m := 1) Tryz.underlying22 Tryz.underlying22 rfl zs3 zb3 zz3 rfl (Sl.ofAt at_A rfl (Nat.le_refl _)) rfl (b := b') (c := ((List.range i).map (subF x y)).map (.int .i64)) at_A hlS (by omega) (by omega))) rfl rfl ?_)) | refine wx_niln ?_ ?_ rfl rfl ?_) | with_reducible exact obl_nil | with_reducible refine obl_cons ?_ ?_ | ((with_reducible refine ik_obs ?_); first | exact obs_nil | refine obs_skip rfl ?_ | refine obs_chkn rfl rfl (op_q rfl (op_ldCell rfl Tryz.underlying3 rfl i3)) ?_ | refine obs_chkn rfl rfl (op_q rfl (op_ldCell rfl Tryz.underlying3 rfl j3)) ?_) | with_reducible exact stk_nil | with_reducible refine stk_cons ?_ ?_ | ((with_reducible refine ik_stk ?_); first | exact stk_abs rfl rfl | exact stk_freeB rfl rfl wf_A gr_B) | with_reducible refine sq_norm ?_ | with_reducible refine wc_seq ?_ | with_reducible refine wc_region ?_ | with_reducible refine wc_skip ?_ | with_reducible refine wc_block ?_ | with_reducible refine bq_norm ?_ | (refine wc_if rfl (fun hb => ?_) (fun hb => dead_A hb); (try simp only [decide_eq_true_eq, decide_eq_false_iff_not, Bool.not_eq_true', Bool.not_eq_false', Int.not_lt, Int.not_le, Decidable.not_not, not_true_eq_false, not_false_eq_true, beq_self_eq_true, reduceCtorEq] at hb)) | refine wc_drawB (id := 9) 19 [0, 0, 0, 6, 14, 0, 62, 0, 0, 0, 768, 1792, 3968, 8190, 0, 32766, 65534, 131071, 262143] [0, 1, 2, 3, 4, 5, 6, 7, 8, 9, 10, 11, 12, 13, 14, 15, 16, 17, 18] (by kernel_rfl) (by kernel_rfl) rfl rfl ?_)
      exact lq_norm (i + 1, .slice (some ⟨_, 0, some 0⟩) (i + 1) (i + 1)) (by simp only; omega) (within_lk ⟨rfl, rfl, rfl, rfl, rfl, rfl, rfl, trivial⟩) ⟨⟨wf_A, ⟨gr_A, by simp, .inr ⟨_, by simp only [H.nx_set, H.nx_push, H.nx_kill, H.nx_bump]; omega, rfl, by rw [← e3]; exact at_A⟩⟩⟩, by simp only; omega⟩
  · have hin : i = n := by omega
    subst hin
    have hs := ow.sl (G := G)
    obtain ⟨a2, c2, rfl⟩ := hs.form
    repeat' (first | with_reducible refine wo_nil ?_ | ((with_reducible refine wo_any ?_); first | ((with_reducible refine ik_move ?_); refine wo_op rfl (op_move rfl) rfl rfl ?_) | ((with_reducible refine ik_assign ?_); refine wo_op rfl (op_assign rfl) rfl rfl ?_) | ((with_reducible refine ik_bin ?_); refine wo_op rfl (op_lss rfl rfl) rfl rfl ?_) | ((with_reducible refine ik_store ?_); refine wo_op0 rfl (op_stAgg rfl rfl at_A zs65 rfl rfl rfl rfl) rfl ?_) | ((with_reducible refine ik_callb ?_); refine wo_op rfl (op_lenSl rfl Tryz.underlying22) rfl rfl ?_) | ((with_reducible refine ik_callv ?_); (refine wo_call rfl rfl rfl rfl (q96 _ wf_A) rfl rfl ?_; rintro _ _ ⟨rfl, hq⟩; all_goals ((try (have hqn := hq.nx)); (try simp only [H.nx_push, H.nx_set, H.nx_bump] at hqn))))) | with_reducible refine sq_norm ?_ | with_reducible refine wc_seq ?_ | with_reducible refine wc_region ?_ | with_reducible refine wc_ret ?_ | with_reducible refine wc_exit ?_ | with_reducible refine sq_exit ?_ | with_reducible refine lq_exit ?_ | refine bq_eq rfl ?_ | (refine wc_if rfl (fun hb => dead_A hb) (fun hb => ?_); (try simp only [decide_eq_true_eq, decide_eq_false_iff_not, Bool.not_eq_true', Bool.not_eq_false', Int.not_lt, Int.not_le, Decidable.not_not, not_true_eq_false, not_false_eq_true, beq_self_eq_true, reduceCtorEq] at hb)))
    exact rqt rfl rfl (ldAgg at_A Tryz.underlying65 rfl zs65 rfl rfl) rfl ⟨.inr ⟨he, a2, c2, rfl, Sl.set_ne (hs.grow gr_A) (show At _ h.nx (.cells [.int .i64 0, .int .i64 0] 65 2 false) from at_A) (by decide) _⟩, gr_A⟩
def RRem (r : Value) (x y : List Int) : Prop :=
  (innL x x = 0 ∧ r = .tuple #[ratV 0 0, .int .i64 6]) ∨ (innL x x ≠ 0 ∧ r = .tuple #[ratV (lowN (innL (difL x y) (difL x y)) (innL x x)) (lowD (innL (difL x y) (difL x y)) (innL x x)), .int .i64 0])
set_option maxHeartbeats 4000000 in
theorem c47 {v w : Value} {n : Nat} {x y : List Int} (s : Sl G h 1 v n (x.map (.int .i64))) (u : Sl G h 1 w n (y.map (.int .i64))) (hn : n ≤ 1024) (sb1 : ∀ z ∈ x, z.natAbs ≤ 16384) (sb2 : ∀ z ∈ y, z.natAbs ≤ 16384) (hw : Wf h) :
    Cf (mz G) (.func (.func 47) #[] #[]) [v, w] h fun r h' => RRem r x y ∧ Grow h h' := by
  obtain ⟨a, c, rfl⟩ := s.form
  obtain ⟨b, d, rfl⟩ := u.form
  have hx := s.length
  have hy := u.length
  simp at hx hy
  have b1 : ∀ z ∈ x, z.natAbs ≤ 32768 := fun z hz => Nat.le_trans (sb1 z hz) (by decide)
  have q45 := fun (h' : H) (g : Grow h h') (w' : Wf h') => c45 (s.grow g) (s.grow g) hn b1 b1 w'
  have e0 := inn_nonneg x
  have eb := inn_self_bound sb1 sb1 (by omega)
  have hdb : ∀ z ∈ difL x y, z.natAbs ≤ 32768 := fun z hz => by
    unfold difL at hz
    obtain ⟨i, _, rfl⟩ := List.mem_map.1 hz
    have h1 := getD_bound sb1 i
    have h2 := getD_bound sb2 i
    omega
  have db := inn_self_bound hdb hdb (by simp [difL]; omega)
  unfold RRem
  by_cases he : innL x x = 0
  · rw [he] at q45
    refine cf_enter0 45 [.cell 4 65, .tmp 5] Tryz.func47 rfl rfl rfl rfl ?_
    repeat' (first | with_reducible refine wo_nil ?_ | ((with_reducible refine wo_any ?_); first | ((with_reducible refine ik_move ?_); refine wo_op rfl (op_move rfl) rfl rfl ?_) | ((with_reducible refine ik_assign ?_); refine wo_op rfl (op_assign rfl) rfl rfl ?_) | ((with_reducible refine ik_alloc ?_); refine wo_op rfl (op_alloc zz65 zs65 rfl rfl rfl) rfl rfl ?_) | ((with_reducible refine ik_bin ?_); refine wo_op rfl (op_eql rfl rfl) rfl rfl ?_) | ((with_reducible refine ik_build ?_); refine wo_op rfl (op_buildT rfl zz65 zp65 rfl rfl) rfl rfl ?_) | ((with_reducible refine ik_store ?_); refine wo_op0 rfl (op_stAgg rfl rfl at_A zs65 rfl rfl rfl rfl) rfl ?_) | ((with_reducible refine ik_callv ?_); (refine wo_call rfl rfl rfl rfl (q45 _ gr_A wf_A) rfl rfl ?_; rintro _ _ ⟨rfl, hq⟩; all_goals ((try (have hqn := hq.nx)); (try simp only [H.nx_push, H.nx_set, H.nx_bump] at hqn))))) | with_reducible refine sq_norm ?_ | with_reducible refine wc_seq ?_ | with_reducible refine wc_region ?_ | with_reducible refine wc_ret ?_ | with_reducible refine sq_ret ?_ | refine wc_ift rfl ?_)
    exact rqc2 rfl (ldAgg at_A Tryz.underlying65 rfl zs65 rfl rfl) rfl ⟨.inl ⟨he, rfl⟩, gr_A⟩
  have he0 : 0 < innL x x := by omega
  have q96 := fun (h' : H) (w' : Wf h') => c96 (G := G) (h := h') (a := innL (difL x y) (difL x y)) (b := innL x x) he0 (by omega) (by omega) w'
  have hdi := dif_inn x y
  rw [hx] at hdi
  obtain ⟨EE, hEE⟩ : ∃ e, innL x x = e := ⟨_, rfl⟩
  obtain ⟨PP, hPP⟩ : ∃ e, innL (difL x y) (difL x y) = e := ⟨_, rfl⟩
  rw [hEE] at q45 q96 he he0 eb ⊢
  rw [hPP] at q96 hdi db ⊢
  refine cf_enter0 45 [.cell 4 65, .tmp 5] Tryz.func47 rfl rfl rfl rfl ?_
  repeat' (first | with_reducible refine wo_nil ?_ | ((with_reducible refine wo_any ?_); first | ((with_reducible refine ik_move ?_); refine wo_op rfl (op_move rfl) rfl rfl ?_) | ((with_reducible refine ik_assign ?_); refine wo_op rfl (op_assign rfl) rfl rfl ?_) | ((with_reducible refine ik_alloc ?_); refine wo_op rfl (op_alloc zz65 zs65 rfl rfl rfl) rfl rfl ?_) | ((with_reducible refine ik_bin ?_); refine wo_op rfl (op_eql rfl rfl) rfl rfl ?_) | ((with_reducible refine ik_callv ?_); (refine wo_call rfl rfl rfl rfl (q45 _ gr_A wf_A) rfl rfl ?_; rintro _ _ ⟨rfl, hq⟩; all_goals ((try (have hqn := hq.nx)); (try simp only [H.nx_push, H.nx_set, H.nx_bump] at hqn))))) | with_reducible refine sq_norm ?_ | with_reducible refine wc_seq ?_ | with_reducible refine wc_region ?_ | with_reducible refine wc_skip ?_ | with_reducible refine wc_block ?_ | (refine wc_if rfl (fun hb => dead_A hb) (fun hb => ?_); (try simp only [decide_eq_true_eq, decide_eq_false_iff_not, Bool.not_eq_true', Bool.not_eq_false', Int.not_lt, Int.not_le, Decidable.not_not, not_true_eq_false, not_false_eq_true, beq_self_eq_true, reduceCtorEq] at hb)))
  refine wc_cut (ι := Unit) (fun _ => [(0, .slice a n c), (1, .slice b n d), (4, .pointer (some ⟨h.nx, 0, some 0⟩)), (6, .int .i64 EE), (7, .int .i64 0), (8, .int .i64 0)]) (fun _ h' => Wf h' ∧ Grow h h' ∧ At h' h.nx (.cells [.int .i64 0, .int .i64 0] 65 2 false)) () (within_lk ⟨rfl, rfl, rfl, rfl, rfl, rfl, trivial⟩) ⟨wf_A, gr_A, at_A⟩ ?_
  rintro _ g0 ⟨wg, gg, ag⟩
  refine wc_loop (fun p : Nat × Int => n - p.1) (fun p => [(0, .slice a n c), (1, .slice b n d), (4, .pointer (some ⟨h.nx, 0, some 0⟩)), (6, .int .i64 EE), (7, .int .i64 p.2), (8, .int .i64 (p.1 : Nat))]) (fun p h' => (Wf h' ∧ Grow h h' ∧ At h' h.nx (.cells [.int .i64 0, .int .i64 0] 65 2 false)) ∧ p.1 ≤ n ∧ sumN p.1 (fun i => (x.getD i 0 - y.getD i 0) * (x.getD i 0 - y.getD i 0)) = p.2) (0, 0) (within_lk ⟨rfl, rfl, rfl, rfl, rfl, rfl, trivial⟩) ⟨⟨wg, gg, ag⟩, Nat.zero_le _, by unfold sumN; rfl⟩ ?_
  clear wg gg ag
  rintro ⟨i, S⟩ h1 ⟨⟨w1, g1, a1⟩, hi, hS⟩
  simp only at hi hS ⊢
  have l1 := a1.lt
  have hq : ∀ k, ((x.getD k 0 - y.getD k 0) * (x.getD k 0 - y.getD k 0)).natAbs ≤ 32768 * 32768 := fun k => by
    have t1 := getD_bound sb1 k
    have t2 := getD_bound sb2 k
    exact prod_bound (by omega) (by omega)
  have hsb : (sumN i (fun k => (x.getD k 0 - y.getD k 0) * (x.getD k 0 - y.getD k 0))).natAbs ≤ i * (32768 * 32768) := sumN_bound fun k _ => hq k
  rw [hS] at hsb
  by_cases hlt : i < n
  · obtain ⟨d1, i1, i3⟩ := slI_at (s.grow g1) (i := (i : Int)) (q := i) hlt rfl
    obtain ⟨d2, j1, j3⟩ := slI_at (u.grow g1) (i := (i : Int)) (q := i) hlt rfl
    have hst : sumN (i + 1) (fun k => (x.getD k 0 - y.getD k 0) * (x.getD k 0 - y.getD k 0)) = S + (x.getD i 0 - y.getD i 0) * (x.getD i 0 - y.getD i 0) := by rw [sumN, hS]
    have bx := getD_bound sb1 i
    have bY := getD_bound sb2 i
    have hp := hq i
    obtain ⟨X, hX⟩ : ∃ z, x.getD i 0 = z := ⟨_, rfl⟩
    obtain ⟨Y, hY⟩ : ∃ z, y.getD i 0 = z := ⟨_, rfl⟩
    rw [hX] at i3 hst bx hp
    rw [hY] at j3 hst bY hp
    have o1 : IntKind.wrap .i64 ((X - Y) * (X - Y)) = (X - Y) * (X - Y) := w64 (by omega) (by omega)
    have o2 : IntKind.wrap .i64 (S + (X - Y) * (X - Y)) = S + (X - Y) * (X - Y) := w64 (by omega) (by omega)
    repeat' (first | with_reducible refine wo_nil ?_ | ((with_reducible refine wo_any ?_); first | ((with_reducible refine ik_move ?_); refine wo_op rfl (op_move rfl) rfl rfl ?_) | ((with_reducible refine ik_assign ?_); refine wo_op rfl (op_assign rfl) rfl rfl ?_) | ((with_reducible refine ik_bin ?_); first | refine wo_op rfl (op_lss rfl rfl) rfl rfl ?_ | refine wo_op rfl (op_add' rfl rfl (w64 (by omega) (by omega))) rfl rfl ?_) | ((with_reducible refine ik_callb ?_); refine wo_op rfl (op_lenSl rfl Tryz.underlying22) rfl rfl ?_)) | ((with_reducible refine xk_any ?_); ((with_reducible refine xk_as0 ?_); first | ((with_reducible refine xk_move ?_); refine wx_q (wt_none rfl) rfl rfl (op_q rfl (op_move rfl)) rfl rfl rfl ?_) | ((with_reducible refine xk_assign ?_); refine wx_q (wt_none rfl) rfl rfl (op_q rfl (op_assign rfl)) rfl rfl rfl ?_) | ((with_reducible refine xk_indexAddr ?_); first | refine wx_q (wt_none rfl) rfl rfl (op_q rfl (op_indexAddr rfl rfl i1)) rfl rfl rfl ?_ | refine wx_q (wt_none rfl) rfl rfl (op_q rfl (op_indexAddr rfl rfl j1)) rfl rfl rfl ?_) | ((with_reducible refine xk_load ?_); first | refine wx_h0 (wt_none rfl) rfl (op_q rfl (op_ldCell rfl Tryz.underlying3 rfl i3)) rfl rfl rfl ?_ | refine wx_h0 (wt_none rfl) rfl (op_q rfl (op_ldCell rfl Tryz.underlying3 rfl j3)) rfl rfl rfl ?_) | ((with_reducible refine xk_bin ?_); first | refine wx_q (wt_none rfl) rfl rfl (op_q rfl (op_mul' rfl rfl o1)) rfl rfl rfl ?_ | refine wx_q (wt_none rfl) rfl rfl (op_q rfl (op_add' rfl rfl o2)) rfl rfl rfl ?_ | refine wx_q (wt_none rfl) rfl rfl (op_q rfl (op_sub' rfl rfl (w64 (by omega) (by omega)))) rfl rfl rfl ?_) | with_reducible refine wx_nil0 ?_ ?_)) | with_reducible exact obl_nil | with_reducible refine obl_cons ?_ ?_ | ((with_reducible refine ik_obs ?_); first | exact obs_nil | refine obs_chkn rfl rfl (op_q rfl (op_ldCell rfl Tryz.underlying3 rfl i3)) ?_ | refine obs_chkn rfl rfl (op_q rfl (op_ldCell rfl Tryz.underlying3 rfl j3)) ?_) | with_reducible refine sq_norm ?_ | with_reducible refine wc_seq ?_ | with_reducible refine wc_region ?_ | with_reducible refine wc_skip ?_ | with_reducible refine wc_block ?_ | with_reducible refine bq_norm ?_ | (refine wc_if rfl (fun hb => ?_) (fun hb => dead_A hb); (try simp only [decide_eq_true_eq, decide_eq_false_iff_not, Bool.not_eq_true', Bool.not_eq_false', Int.not_lt, Int.not_le, Decidable.not_not, not_true_eq_false, not_false_eq_true, beq_self_eq_true, reduceCtorEq] at hb)) | refine wc_drawB (id := 8) 22 [0, 0, 0, 6, 14, 0, 0, 96, 224, 510, 0, 0, 3072, 7168, 0, 0, 49152, 114688, 261120, 524286, 1048575, 2097151] [0, 1, 2, 3, 4, 5, 6, 7, 8, 9, 10, 11, 12, 13, 14, 15, 16, 17, 18, 19, 20, 21] (by kernel_rfl) (by kernel_rfl) rfl rfl ?_)
    exact lq_norm (i + 1, S + (X - Y) * (X - Y)) (by simp only; omega) (within_lk ⟨rfl, rfl, rfl, rfl, rfl, rfl, trivial⟩) ⟨⟨wf_A, gr_A, at_A⟩, by simp only; omega, hst⟩
  · have hin : i = n := by omega
    subst hin
    have hSP : S = PP := by rw [← hS, ← hdi]
    subst hSP
    repeat' (first | with_reducible refine wo_nil ?_ | ((with_reducible refine wo_any ?_); first | ((with_reducible refine ik_move ?_); refine wo_op rfl (op_move rfl) rfl rfl ?_) | ((with_reducible refine ik_assign ?_); refine wo_op rfl (op_assign rfl) rfl rfl ?_) | ((with_reducible refine ik_bin ?_); refine wo_op rfl (op_lss rfl rfl) rfl rfl ?_) | ((with_reducible refine ik_store ?_); refine wo_op0 rfl (op_stAgg rfl rfl at_A zs65 rfl rfl rfl rfl) rfl ?_) | ((with_reducible refine ik_callb ?_); refine wo_op rfl (op_lenSl rfl Tryz.underlying22) rfl rfl ?_) | ((with_reducible refine ik_callv ?_); (refine wo_call rfl rfl rfl rfl (q96 _ wf_A) rfl rfl ?_; rintro _ _ ⟨rfl, hq⟩; all_goals ((try (have hqn := hq.nx)); (try simp only [H.nx_push, H.nx_set, H.nx_bump] at hqn))))) | with_reducible refine sq_norm ?_ | with_reducible refine wc_seq ?_ | with_reducible refine wc_region ?_ | with_reducible refine wc_ret ?_ | with_reducible refine wc_exit ?_ | with_reducible refine sq_exit ?_ | with_reducible refine lq_exit ?_ | refine bq_eq rfl ?_ | (refine wc_if rfl (fun hb => dead_A hb) (fun hb => ?_); (try simp only [decide_eq_true_eq, decide_eq_false_iff_not, Bool.not_eq_true', Bool.not_eq_false', Int.not_lt, Int.not_le, Decidable.not_not, not_true_eq_false, not_false_eq_true, beq_self_eq_true, reduceCtorEq] at hb)))
    exact rqc2 rfl (ldAgg at_A Tryz.underlying65 rfl zs65 rfl rfl) rfl ⟨.inr ⟨he, rfl⟩, gr_A⟩
end Go.Proofs.YtdfpadokepmknaaGreatDoor
