/- Survey: runs of equal elements; spans deleted. -/
import Derived.Test.YtlioomhcdlicmaaGreatDoorC4
set_option linter.all false
/- Survey: runs of equal elements. -/
namespace Go.Proofs.YtlioomhcdlicmaaGreatDoor
open Go Go.Ab Go.Fl
attribute [local irreducible] SeqQ BlkQ LpQ RetQ Wc Wo WD WX Op1 Op1q Op1a Cf Cl From
attribute [local irreducible] Ieee.Format.order Ieee.Format.read Ieee.Format.nearest Ieee.Format.write Ieee.Format.mul Ieee.Format.div Ieee.Format.sqrt Ieee.Datum.order Ieee.Datum.integral K U rngE errN ptE firstNZ vesE watE sgE sgsE allE hitB sqD insB qsL lvl
set_option maxRecDepth 10000
variable {G : Base} {h : H}

structure Spn where
  f : Int
  t : Int
@[reducible] def Spn.cells (p : Spn) : List Value := [.int .i64 p.f, .int .i64 p.t]
theorem Spn.len (p : Spn) : p.cells.length = 2 := rfl
theorem Spn.flat {l : List Spn} : (l.flatMap Spn.cells).length = l.length * 2 := flat_len Spn.len l

/-- The runs of equal elements before k: those that have ended, and where the last one began. -/
def rn (b : Nat → Bool) : Nat → List Spn × Nat
  | 0 => ([], 0)
  | k + 1 => if k = 0 then ([], 0) else if b k = b (k - 1) then rn b k else ((rn b k).1 ++ [⟨((rn b k).2 : Nat), (k : Nat)⟩], k)
def rl (b : Nat → Bool) (k : Nat) : List Spn := if k = 0 then [] else (rn b k).1 ++ [⟨((rn b k).2 : Nat), (k : Nat)⟩]
theorem rl_new {b : Nat → Bool} {k : Nat} (h : k = 0 ∨ b k ≠ b (k - 1)) : rl b (k + 1) = rl b k ++ [⟨(k : Nat), ((k + 1 : Nat) : Int)⟩] := by
  unfold rl
  rw [if_neg (by omega)]
  rcases Nat.eq_zero_or_pos k with rfl | hk
  · simp [rn]
  · have hb : ¬b k = b (k - 1) := by
      rcases h with h | h
      · omega
      · exact h
    rw [if_neg (by omega), rn, if_neg (by omega), if_neg hb]
theorem rn_inv {b : Nat → Bool} : ∀ k, 0 < k → b (rn b k).2 = b (k - 1) ∧ (rn b k).2 < k ∧ ∀ s ∈ (rn b k).1, 0 ≤ s.f ∧ s.f < s.t ∧ s.t < (k : Nat)
  | 0, h => by omega
  | 1, _ => by simp [rn]
  | k + 2, _ => by
    obtain ⟨h1, h2, h3⟩ := rn_inv (b := b) (k + 1) (by omega)
    rw [rn, if_neg (by omega)]
    by_cases hb : b (k + 1) = b (k + 1 - 1)
    · rw [if_pos hb]
      refine ⟨by rw [h1]; exact hb.symm, by omega, fun s hs => ?_⟩
      have := h3 s hs
      omega
    · rw [if_neg hb]
      refine ⟨rfl, by simp, fun s hs => ?_⟩
      rcases List.mem_append.1 hs with hs | hs
      · have := h3 s hs
        omega
      · simp only [List.mem_singleton] at hs
        subst hs
        simp only
        omega
theorem rl_old {b : Nat → Bool} {k : Nat} (hk : 0 < k) : ∃ (D : List Spn) (f : Nat), rl b k = D ++ [⟨(f : Nat), (k : Nat)⟩] ∧ (b k = b (k - 1) → rl b (k + 1) = D ++ [⟨(f : Nat), ((k + 1 : Nat) : Int)⟩]) ∧ b f = b (k - 1) ∧ f < k ∧ ∀ s ∈ D, s.t < (k : Nat) := by
  obtain ⟨h1, h2, h3⟩ := rn_inv (b := b) k hk
  refine ⟨(rn b k).1, (rn b k).2, ?_, fun h => ?_, h1, h2, fun s hs => (h3 s hs).2.2⟩
  · unfold rl; rw [if_neg (by omega)]
  · unfold rl
    rw [if_neg (by omega), rn, if_neg (by omega), if_pos h]
theorem rl_mem {b : Nat → Bool} {k : Nat} {s : Spn} (h : s ∈ rl b k) : 0 ≤ s.f ∧ s.f < s.t ∧ s.t ≤ (k : Nat) := by
  unfold rl at h
  split at h
  · cases h
  · obtain ⟨h1, h2, h3⟩ := rn_inv (b := b) k (by omega)
    rcases List.mem_append.1 h with h | h
    · have := h3 s h
      omega
    · simp only [List.mem_singleton] at h
      subst h
      simp only
      omega
/-- The runs of what is true. -/
def fl (b : Nat → Bool) (k : Nat) : List Spn := (rl b k).filter fun s => b s.f.toNat
theorem fl_skip {b : Nat → Bool} {k : Nat} (h : b k = false) : fl b (k + 1) = fl b k := by
  unfold fl
  by_cases hn : k = 0 ∨ b k ≠ b (k - 1)
  · rw [rl_new hn, List.filter_append]
    simp [h]
  · obtain ⟨D, f, e1, e2, e3, e4, _⟩ := rl_old (b := b) (k := k) (by omega)
    have hb : b k = b (k - 1) := by
      by_cases q : b k = b (k - 1)
      · exact q
      · exact absurd (.inr q) hn
    rw [e2 hb, e1, List.filter_append, List.filter_append]
    have : b f = false := by rw [e3, ← hb, h]
    simp [this]
theorem fl_new {b : Nat → Bool} {k : Nat} (h : b k = true) (hk : k = 0 ∨ b (k - 1) = false) : fl b (k + 1) = fl b k ++ [⟨(k : Nat), ((k + 1 : Nat) : Int)⟩] ∧ ∀ s ∈ fl b k, s.t < (k : Nat) := by
  have hn : k = 0 ∨ b k ≠ b (k - 1) := by
    rcases hk with q | q
    · exact .inl q
    · exact .inr (by rw [h, q]; decide)
  unfold fl
  refine ⟨?_, fun s hs => ?_⟩
  · rw [rl_new hn, List.filter_append]
    simp [h]
  · obtain ⟨hs1, hs2⟩ := List.mem_filter.1 hs
    rcases Nat.eq_zero_or_pos k with rfl | hp
    · simp [rl] at hs1
    · obtain ⟨D, f, e1, e2, e3, e4, e5⟩ := rl_old (b := b) (k := k) hp
      rw [e1] at hs1
      rcases List.mem_append.1 hs1 with q | q
      · exact e5 s q
      · simp only [List.mem_singleton] at q
        subst q
        have hf : b (k - 1) = false := by
          rcases hk with z | z
          · omega
          · exact z
        simp [e3, hf] at hs2
theorem fl_old {b : Nat → Bool} {k : Nat} (h : b k = true) (hk : 0 < k) (hp : b (k - 1) = true) : ∃ (F : List Spn) (f : Nat), fl b k = F ++ [⟨(f : Nat), (k : Nat)⟩] ∧ fl b (k + 1) = F ++ [⟨(f : Nat), ((k + 1 : Nat) : Int)⟩] := by
  obtain ⟨D, f, e1, e2, e3, e4, _⟩ := rl_old (b := b) (k := k) hk
  refine ⟨D.filter fun s => b s.f.toNat, f, ?_, ?_⟩
  · unfold fl; rw [e1, List.filter_append]; simp [e3, hp]
  · unfold fl; rw [e2 (by rw [h, hp]), List.filter_append]; simp [e3, hp]
theorem set_last {D : List Spn} {a z x : Int} : (D.flatMap Spn.cells ++ [Value.int .i64 a, Value.int .i64 z]).set (D.length * 2 + 1) (Value.int .i64 x) = D.flatMap Spn.cells ++ [Value.int .i64 a, Value.int .i64 x] := by
  rw [List.set_append_right _ _ (by rw [Spn.flat]; omega), Spn.flat, Nat.add_sub_cancel_left]; rfl
theorem flat_last {D : List Spn} {a z : Int} : (D ++ [⟨a, z⟩] : List Spn).flatMap Spn.cells = D.flatMap Spn.cells ++ [Value.int .i64 a, Value.int .i64 z] := by
  rw [List.flatMap_append]; rfl
theorem rl_len {b : Nat → Bool} : ∀ k, (rl b k).length ≤ k
  | 0 => Nat.zero_le _
  | k + 1 => by
    have ih := rl_len (b := b) k
    by_cases hn : k = 0 ∨ b k ≠ b (k - 1)
    · rw [rl_new hn]; simp; omega
    · obtain ⟨D, f, e1, e2, _⟩ := rl_old (b := b) (k := k) (by omega)
      have hb : b k = b (k - 1) := by
        by_cases q : b k = b (k - 1)
        · exact q
        · exact absurd (.inr q) hn
      rw [e1] at ih
      rw [e2 hb]
      simp at ih ⊢
      omega
theorem inL_get {I : Nat → Bool} {T k : Nat} (h : k < T) : (inL I T).getD k false = I k := by
  simp [inL, List.getD, List.getElem?_map, List.getElem?_range h]
set_option maxHeartbeats 8000000 in
theorem c89 {v : Value} {T : Nat} {B : Nat → Bool} (s : Sl G h 1 v T ((inL B T).map Value.bool)) (hT : T < 1000000) (hw : Wf h) : Cf (mz G) (.func (.func 89) #[] #[]) [v] h fun r h' => OutG h.nx h' r (rl B T).length ((rl B T).flatMap Spn.cells) 79 2 ∧ Grow h h' := by
  obtain ⟨a, c, rfl⟩ := s.form
  refine cf_enter0 39 [.tmp 2] Tryz.func89 rfl rfl rfl rfl ?_
  repeat' (first | with_reducible refine wo_nil ?_ | ((with_reducible refine wo_any ?_); first | ((with_reducible refine ik_move ?_); refine wo_op rfl (op_move rfl) rfl rfl ?_) | ((with_reducible refine ik_assign ?_); refine wo_op rfl (op_assign rfl) rfl rfl ?_) | ((with_reducible refine ik_callb ?_); refine wo_op rfl (op_lenSl rfl Tryz.underlying42) rfl rfl ?_)) | with_reducible refine sq_norm ?_ | with_reducible refine wc_seq ?_ | with_reducible refine wc_region ?_ | with_reducible refine wc_block ?_)
  refine wc_loop (fun p : Nat × Value => T - p.1) (fun p => [(0, .slice a T c), (3, p.2), (6, .slice a T c), (7, .int .i64 (T : Nat)), (8, .int .i64 (p.1 : Nat))]) (fun p h' => (Wf h' ∧ Grow h h') ∧ p.1 ≤ T ∧ ((p.1 = 0 ∧ p.2 = .slice none 0 0) ∨ 0 < p.1 ∧ ∃ e, h.nx ≤ e ∧ p.2 = .slice (some ⟨e, 0, some 0⟩) (rl B p.1).length (rl B p.1).length ∧ At h' e (.cells ((rl B p.1).flatMap Spn.cells) 79 2 true))) (0, .slice none 0 0) (within_lk ⟨rfl, rfl, rfl, rfl, rfl, trivial⟩) ⟨⟨wf_A, gr_A⟩, Nat.zero_le _, .inl ⟨rfl, rfl⟩⟩ ?_
  rintro ⟨k, v⟩ h1 ⟨⟨w1, g1⟩, hk, hv⟩
  simp only at hk hv ⊢
  have n1 := g1.nx
  by_cases hlt : k < T
  · obtain ⟨id, i1, i3⟩ := in_atV Value.bool false (s.grow g1) Tryz.underlying42 zs4 (i := (k : Int)) hlt rfl
    rw [inL_get hlt] at i3
    by_cases hk0 : k = 0
    · subst hk0
      obtain ⟨_, rfl⟩ | ⟨q, _⟩ := hv
      · have e1 := rl_new (b := B) (k := 0) (.inl rfl)
        have e2 : rl B 0 = [] := rfl
        rw [e2, List.nil_append] at e1
        have hs0 : ([Value.int .i64 ((0 : Nat) : Int), Value.int .i64 0] : List Value).set 1 (.int .i64 (((0 : Nat) : Int) + 1)) = [Value.int .i64 ((0 : Nat) : Int), Value.int .i64 (((0 : Nat) : Int) + 1)] := rfl
        obtain ⟨x0, hx⟩ : ∃ x, B 0 = x := ⟨_, rfl⟩
        rw [hx] at i3
        clear hx
        repeat' (first | with_reducible refine wo_nil ?_ | ((with_reducible refine wo_any ?_); first | ((with_reducible refine ik_move ?_); refine wo_op rfl (op_move rfl) rfl rfl ?_) | ((with_reducible refine ik_assign ?_); refine wo_op rfl (op_assign rfl) rfl rfl ?_) | ((with_reducible refine ik_indexAddr ?_); first | refine wo_op rfl (op_indexAddr rfl rfl i1) rfl rfl ?_ | refine wo_op rfl (op_idxSl (o := 0) rfl rfl Tryz.underlying52 zs79 (by omega) (by omega) (by omega)) rfl rfl ?_) | ((with_reducible refine ik_load ?_); refine wo_op rfl (op_ldCell rfl Tryz.underlying4 rfl (i3 _ gr_A)) rfl rfl ?_) | ((with_reducible refine ik_callb ?_); first | refine wo_op rfl (op_append rfl rfl (append_nil_eq (M := mz G) (st := 52) (xt := 52) (m := 1) Tryz.underlying52 Tryz.underlying52 rfl zs79 zb79 zz79 rfl (Sl.ofAt at_A rfl (Nat.le_refl _)) rfl (by omega) (by omega))) rfl rfl ?_ | refine wo_op rfl (op_lenSl rfl Tryz.underlying52) rfl rfl ?_) | ((with_reducible refine ik_store ?_); refine wo_op0 rfl (op_st1 rfl rfl at_A rfl zs3 rfl rfl rfl) rfl ?_) | ((with_reducible refine ik_bin ?_); first | refine wo_op rfl (op_lss rfl rfl) rfl rfl ?_ | refine wo_op rfl (op_eql rfl rfl) rfl rfl ?_ | refine wo_op rfl (op_sub' rfl rfl (w64 (by omega) (by omega))) rfl rfl ?_ | refine wo_op rfl (op_add' rfl rfl (w64 (by omega) (by omega))) rfl rfl ?_) | ((with_reducible refine ik_pick ?_); refine wo_op rfl (op_pickt rfl rfl) rfl rfl ?_) | ((with_reducible refine ik_build ?_); refine wo_op rfl (op_buildT rfl zz79 zp79 rfl rfl) rfl rfl ?_) | ((with_reducible refine ik_buildSlice ?_); refine wo_op rfl (op_buildSl rfl Tryz.underlying52 zs79 zz79 rfl rfl) rfl rfl ?_) | ((with_reducible refine ik_fieldAddr ?_); refine wo_op rfl (op_fieldAddr (o := 1) rfl Tryz.underlying79 rfl zs3 rfl) rfl rfl ?_) | ((with_reducible refine ik_g ?_); refine wo_gskip rfl rfl rfl rfl rfl rfl ?_)) | with_reducible refine sq_norm ?_ | with_reducible refine wc_seq ?_ | with_reducible refine wc_region ?_ | with_reducible refine wc_skip ?_ | with_reducible refine wc_block ?_ | with_reducible refine bq_norm ?_ | refine wc_ift rfl ?_ | (refine wc_if rfl (fun hb => ?_) (fun hb => dead_A hb); (try simp only [decide_eq_true_eq, decide_eq_false_iff_not, Bool.not_eq_true', Bool.not_eq_false', Int.not_lt, Int.not_le, Decidable.not_not, not_true_eq_false, not_false_eq_true, beq_self_eq_true, reduceCtorEq] at hb)))
        refine lq_norm (0 + 1, .slice (some ⟨_, 0, some 0⟩) (0 + 1) (0 + 1)) (by simp only; omega) (within_lk ⟨rfl, rfl, rfl, rfl, rfl, trivial⟩) ⟨⟨wf_A, gr_A⟩, by simp only; omega, .inr ⟨by simp only; omega, _, ?_, by simp only; rw [e1]; rfl, by simp only; rw [e1]; exact (show At _ _ (.cells [Value.int .i64 ((0 : Nat) : Int), Value.int .i64 (((0 : Nat) : Int) + 1)] 79 2 true) from at_A)⟩⟩
        simp only [H.nx_push, H.nx_set, H.nx_bump, H.nx_kill]; omega
      · omega
    · obtain ⟨jd, j1, j3⟩ := in_atV Value.bool false (s.grow g1) Tryz.underlying42 zs4 (i := (k : Int) - 1) (q := k - 1) (by omega) (by omega)
      rw [inL_get (by omega)] at j3
      obtain ⟨D, f, e1, e2, e3, e4, _⟩ := rl_old (b := B) (k := k) (by omega)
      have hne : (rl B k).length ≠ 0 := by rw [e1]; simp
      obtain ⟨e, he, hve, hat⟩ : ∃ e, h.nx ≤ e ∧ v = .slice (some ⟨e, 0, some 0⟩) (rl B k).length (rl B k).length ∧ At h1 e (.cells ((rl B k).flatMap Spn.cells) 79 2 true) := by
        rcases hv with ⟨q, _⟩ | ⟨_, q⟩
        · exact absurd q hk0
        · exact q
      subst hve
      have l1 := hat.lt
      have hl1 : ∀ (D : List Spn) (a z : Int), D.length * 2 + 1 < (D.flatMap Spn.cells ++ [Value.int .i64 a, Value.int .i64 z]).length := fun D a z => by
        rw [List.length_append, Spn.flat]; simp only [List.length_cons, List.length_nil]; omega
      clear hv
      obtain ⟨x0, hx⟩ : ∃ x, B k = x := ⟨_, rfl⟩
      obtain ⟨y0, hy⟩ : ∃ x, B (k - 1) = x := ⟨_, rfl⟩
      rw [hx] at i3
      rw [hy] at j3
      by_cases hb : x0 = y0
      · subst hb
        have e5 := e2 (by rw [hx, hy])
        have e6 : (D ++ [⟨(f : Nat), (k : Nat)⟩] : List Spn).length = D.length + 1 := by simp
        have hDl : D.length + 1 ≤ k := by have := rl_len (b := B) k; rw [e1] at this; simpa using this
        rw [e1, flat_last] at hat
        rw [e1, e6]
        clear e1 e2 e3 hx hy hne
        have e7 : (rl B (k + 1)).length = D.length + 1 := by rw [e5]; simp
        have e8 : (rl B (k + 1)).flatMap Spn.cells = D.flatMap Spn.cells ++ [Value.int .i64 (f : Nat), Value.int .i64 ((k : Int) + 1)] := by rw [e5, flat_last]; rfl
        clear e5
        cases x0 <;> (
         repeat' (first | with_reducible refine wo_nil ?_ | ((with_reducible refine wo_any ?_); first | ((with_reducible refine ik_move ?_); refine wo_op rfl (op_move rfl) rfl rfl ?_) | ((with_reducible refine ik_assign ?_); refine wo_op rfl (op_assign rfl) rfl rfl ?_) | ((with_reducible refine ik_indexAddr ?_); first | refine wo_op rfl (op_indexAddr rfl rfl i1) rfl rfl ?_ | refine wo_op rfl (op_idxSl (o := D.length * 2) rfl rfl Tryz.underlying52 zs79 (by omega) (by omega) (by omega)) rfl rfl ?_) | ((with_reducible refine ik_load ?_); refine wo_op rfl (op_ldCell rfl Tryz.underlying4 rfl (i3 _ gr_A)) rfl rfl ?_) | ((with_reducible refine ik_bin ?_); first | refine wo_op rfl (op_lss rfl rfl) rfl rfl ?_ | refine wo_op rfl (op_eql rfl rfl) rfl rfl ?_ | refine wo_op rfl (op_sub' rfl rfl (w64 (by omega) (by omega))) rfl rfl ?_ | refine wo_op rfl (op_add' rfl rfl (w64 (by omega) (by omega))) rfl rfl ?_) | ((with_reducible refine ik_store ?_); refine wo_op0 rfl (op_stIdx (o := D.length * 2 + 1) rfl rfl at_A rfl zs3 (hl1 _ _ _) rfl set_last) rfl ?_) | ((with_reducible refine ik_callb ?_); refine wo_op rfl (op_lenSl rfl Tryz.underlying52) rfl rfl ?_) | ((with_reducible refine ik_pick ?_); refine wo_op rfl (op_pickf rfl rfl) rfl rfl ?_) | ((with_reducible refine ik_fieldAddr ?_); refine wo_op rfl (op_fieldAddr (o := 1) rfl Tryz.underlying79 rfl zs3 rfl) rfl rfl ?_) | ((with_reducible refine ik_g ?_); first | ((with_reducible refine ig_move ?_); refine wo_grun rfl rfl rfl (op_move rfl) rfl rfl ?_) | ((with_reducible refine ig_indexAddr ?_); refine wo_grun rfl rfl rfl (op_indexAddr rfl rfl j1) rfl rfl ?_) | ((with_reducible refine ig_load ?_); refine wo_grun rfl rfl rfl (op_ldCell rfl Tryz.underlying4 rfl (j3 _ gr_A)) rfl rfl ?_) | ((with_reducible refine ig_bin ?_); first | refine wo_grun rfl rfl rfl (op_bneq rfl rfl Tryz.underlying4) rfl rfl ?_ | refine wo_grun rfl rfl rfl (op_sub' rfl rfl (w64 (by omega) (by omega))) rfl rfl ?_) | (refine wo_gsplit rfl rfl rfl (fun hb => dead_A hb) (fun hb => ?_); (try simp only [decide_eq_true_eq, decide_eq_false_iff_not, Bool.not_eq_true', Bool.not_eq_false', Int.not_lt, Int.not_le, Decidable.not_not, not_true_eq_false, not_false_eq_true, beq_self_eq_true, reduceCtorEq] at hb)))) | with_reducible refine sq_norm ?_ | with_reducible refine wc_seq ?_ | with_reducible refine wc_region ?_ | with_reducible refine wc_skip ?_ | with_reducible refine wc_block ?_ | with_reducible refine bq_norm ?_ | refine wc_iff rfl ?_ | (refine wc_if rfl (fun hb => ?_) (fun hb => dead_A hb); (try simp only [decide_eq_true_eq, decide_eq_false_iff_not, Bool.not_eq_true', Bool.not_eq_false', Int.not_lt, Int.not_le, Decidable.not_not, not_true_eq_false, not_false_eq_true, beq_self_eq_true, reduceCtorEq] at hb)))
         exact lq_norm (k + 1, .slice (some ⟨_, 0, some 0⟩) (D.length + 1) (D.length + 1)) (by simp only; omega) (within_lk ⟨rfl, rfl, rfl, rfl, rfl, trivial⟩) ⟨⟨wf_A, gr_A⟩, by simp only; omega, .inr ⟨by simp only; omega, e, he, by simp only; rw [e7], by simp only; rw [e8]; exact at_A⟩⟩)
      · have e5 := rl_new (b := B) (k := k) (.inr (by rw [hx, hy]; exact hb))
        have hlen : ((rl B k).flatMap Spn.cells).length = (rl B k).length * 2 := Spn.flat
        have hm1 : 1 ≤ (rl B k).length := by omega
        have hm2 : (rl B k).length ≤ k := rl_len k
        have hs1 : (rl B (k + 1)).length = (rl B k).length + 1 := by rw [e5]; simp
        have hs2 : (rl B (k + 1)).flatMap Spn.cells = (rl B k).flatMap Spn.cells ++ [Value.int .i64 (k : Nat), Value.int .i64 ((k + 1 : Nat) : Int)] := by rw [e5, flat_last]
        clear e1 e2 e3 e5 hx hy hne
        obtain ⟨L, hL⟩ : ∃ L, rl B k = L := ⟨_, rfl⟩
        rw [hL] at hat hlen hm1 hm2 hs1 hs2 ⊢
        clear hL
        cases x0 <;> cases y0 <;> first
          | exact absurd rfl hb
          | (repeat' (first | with_reducible refine wo_nil ?_ | ((with_reducible refine wo_any ?_); first | ((with_reducible refine ik_move ?_); refine wo_op rfl (op_move rfl) rfl rfl ?_) | ((with_reducible refine ik_assign ?_); refine wo_op rfl (op_assign rfl) rfl rfl ?_) | ((with_reducible refine ik_indexAddr ?_); first | refine wo_op rfl (op_indexAddr rfl rfl i1) rfl rfl ?_ | refine wo_op rfl (op_idxSl (o := L.length * 2) rfl rfl Tryz.underlying52 zs79 (by omega) (by omega) (by omega)) rfl rfl ?_) | ((with_reducible refine ik_load ?_); refine wo_op rfl (op_ldCell rfl Tryz.underlying4 rfl (i3 _ gr_A)) rfl rfl ?_) | ((with_reducible refine ik_bin ?_); first | refine wo_op rfl (op_lss rfl rfl) rfl rfl ?_ | refine wo_op rfl (op_eql rfl rfl) rfl rfl ?_ | refine wo_op rfl (op_sub' rfl rfl (w64 (by omega) (by omega))) rfl rfl ?_ | refine wo_op rfl (op_add' rfl rfl (w64 (by omega) (by omega))) rfl rfl ?_) | ((with_reducible refine ik_callb ?_); first | refine wo_op rfl (op_append rfl rfl (append_own_eq (M := mz G) (st := 52) (xt := 52) (m := 1) Tryz.underlying52 Tryz.underlying52 rfl zs79 zb79 zz79 rfl (Sl.ofAt at_A rfl (Nat.le_refl _)) rfl (b := e) (c := L.flatMap Spn.cells) at_A hlen (by omega) (by omega))) rfl rfl ?_ | refine wo_op rfl (op_lenSl rfl Tryz.underlying52) rfl rfl ?_) | ((with_reducible refine ik_store ?_); refine wo_op0 rfl (op_stIdx (o := L.length * 2 + 1) rfl rfl at_A rfl zs3 (hl1 _ _ _) rfl set_last) rfl ?_) | ((with_reducible refine ik_pick ?_); refine wo_op rfl (op_pickf rfl rfl) rfl rfl ?_) | ((with_reducible refine ik_build ?_); refine wo_op rfl (op_buildT rfl zz79 zp79 rfl rfl) rfl rfl ?_) | ((with_reducible refine ik_buildSlice ?_); refine wo_op rfl (op_buildSl rfl Tryz.underlying52 zs79 zz79 rfl rfl) rfl rfl ?_) | ((with_reducible refine ik_fieldAddr ?_); refine wo_op rfl (op_fieldAddr (o := 1) rfl Tryz.underlying79 rfl zs3 rfl) rfl rfl ?_) | ((with_reducible refine ik_g ?_); first | ((with_reducible refine ig_move ?_); refine wo_grun rfl rfl rfl (op_move rfl) rfl rfl ?_) | ((with_reducible refine ig_indexAddr ?_); refine wo_grun rfl rfl rfl (op_indexAddr rfl rfl j1) rfl rfl ?_) | ((with_reducible refine ig_load ?_); refine wo_grun rfl rfl rfl (op_ldCell rfl Tryz.underlying4 rfl (j3 _ gr_A)) rfl rfl ?_) | ((with_reducible refine ig_bin ?_); first | refine wo_grun rfl rfl rfl (op_bneq rfl rfl Tryz.underlying4) rfl rfl ?_ | refine wo_grun rfl rfl rfl (op_sub' rfl rfl (w64 (by omega) (by omega))) rfl rfl ?_) | (refine wo_gsplit rfl rfl rfl (fun hb => dead_A hb) (fun hb => ?_); (try simp only [decide_eq_true_eq, decide_eq_false_iff_not, Bool.not_eq_true', Bool.not_eq_false', Int.not_lt, Int.not_le, Decidable.not_not, not_true_eq_false, not_false_eq_true, beq_self_eq_true, reduceCtorEq] at hb)))) | with_reducible refine sq_norm ?_ | with_reducible refine wc_seq ?_ | with_reducible refine wc_region ?_ | with_reducible refine wc_skip ?_ | with_reducible refine wc_block ?_ | with_reducible refine bq_norm ?_ | refine wc_ift rfl ?_ | (refine wc_if rfl (fun hb => ?_) (fun hb => dead_A hb); (try simp only [decide_eq_true_eq, decide_eq_false_iff_not, Bool.not_eq_true', Bool.not_eq_false', Int.not_lt, Int.not_le, Decidable.not_not, not_true_eq_false, not_false_eq_true, beq_self_eq_true, reduceCtorEq] at hb)))
             refine lq_norm (k + 1, .slice (some ⟨_, 0, some 0⟩) (L.length + 1) (L.length + 1)) (by simp only; omega) (within_lk ⟨rfl, rfl, rfl, rfl, rfl, trivial⟩) ⟨⟨wf_A, gr_A⟩, by simp only; omega, .inr ⟨by simp only; omega, _, ?_, by simp only; rw [hs1], by simp only; rw [hs2]; exact (show At _ _ (.cells (L.flatMap Spn.cells ++ [Value.int .i64 (k : Nat), Value.int .i64 ((k : Int) + 1)]) 79 2 true) from at_A)⟩⟩
             simp only [H.nx_push, H.nx_set, H.nx_bump, H.nx_kill]; omega)
  · have hkn : k = T := by omega
    subst hkn
    repeat' (first | with_reducible refine wo_nil ?_ | ((with_reducible refine wo_any ?_); first | ((with_reducible refine ik_move ?_); refine wo_op rfl (op_move rfl) rfl rfl ?_) | ((with_reducible refine ik_assign ?_); refine wo_op rfl (op_assign rfl) rfl rfl ?_) | ((with_reducible refine ik_bin ?_); refine wo_op rfl (op_lss rfl rfl) rfl rfl ?_)) | with_reducible refine sq_norm ?_ | with_reducible refine wc_seq ?_ | with_reducible refine wc_region ?_ | with_reducible refine wc_ret ?_ | with_reducible refine wc_exit ?_ | with_reducible refine sq_exit ?_ | with_reducible refine lq_exit ?_ | refine bq_eq rfl ?_ | (refine wc_if rfl (fun hb => ?_) (fun hb => ?_) <;> (try simp only [decide_eq_true_eq, decide_eq_false_iff_not, Bool.not_eq_true', Bool.not_eq_false', Int.not_lt, Int.not_le, Decidable.not_not, not_true_eq_false, not_false_eq_true, beq_self_eq_true, reduceCtorEq] at hb) <;> (try (exfalso; omega))))
    refine rq1 rfl ⟨?_, gr_A⟩
    rcases hv with ⟨rfl, rfl⟩ | ⟨_, q⟩
    · exact .inl ⟨rfl, rfl, rfl⟩
    · exact .inr q
end Go.Proofs.YtlioomhcdlicmaaGreatDoor

/- Survey: spans deleted; the silent spans by the program. -/
namespace Go.Proofs.YtlioomhcdlicmaaGreatDoor
open Go Go.Ab Go.Fl
attribute [local irreducible] SeqQ BlkQ LpQ RetQ Wc Wo WD WX Op1 Op1q Op1a Cf Cl From
attribute [local irreducible] Ieee.Format.order Ieee.Format.read Ieee.Format.nearest Ieee.Format.write Ieee.Format.mul Ieee.Format.div Ieee.Format.sqrt Ieee.Datum.order Ieee.Datum.integral K U rngE errN ptE firstNZ vesE watE sgE sgsE allE hitB sqD insB qsL lvl rn rl
set_option maxRecDepth 10000
variable {G : Base} {h : H}
/-- All but one block is kept. -/
structure Keep1 (b : Nat) (h h' : H) : Prop where
  nx : h.nx ≤ h'.nx
  get : ∀ n, n < h.nx → n ≠ b → h'.get n = h.get n
  wf : Wf h → Wf h'
theorem Keep1.refl {b : Nat} {h : H} : Keep1 b h h := ⟨Nat.le_refl _, fun _ _ _ => rfl, id⟩
theorem Keep1.grow {b : Nat} {h h' h2 : H} (k : Keep1 b h h') (g : Grow h' h2) : Keep1 b h h2 := ⟨Nat.le_trans k.nx g.nx, fun n h1 q => (g.get n (Nat.lt_of_lt_of_le h1 k.nx)).trans (k.get n h1 q), fun w => g.wf (k.wf w)⟩
theorem Keep1.set {b : Nat} {h h' : H} (k : Keep1 b h h') (hb : b < h'.nx) (o : AObj) : Keep1 b h (h'.set b o) := ⟨by simp only [H.nx_set]; exact k.nx, fun n h1 q => by rw [H.get_set, if_neg q]; exact k.get n h1 q, fun w => Wf.set (k.wf w) hb _⟩
theorem Keep1.at {b b' : Nat} {h h' : H} {o : AObj} (k : Keep1 b h h') (q : b' ≠ b) (a : At h b' o) : At h' b' o := ⟨Nat.lt_of_lt_of_le a.lt k.nx, (k.get b' a.lt q).trans a.get⟩
theorem Keep1.base {b : Nat} {g h h' : H} (k : Keep1 b h h') (x : Grow g h) (q : g.nx ≤ b) : Grow g h' := ⟨Nat.le_trans x.nx k.nx, fun n hn => (k.get n (Nat.lt_of_lt_of_le hn x.nx) (by omega)).trans (x.get n hn), fun w => k.wf (x.wf w)⟩

theorem op_clear {M : Mc} {l : KL} {h h' : H} {t : TypeId} {x : Operand} {v : Value} (hx : val l x = some v) (hv : aclear M.P h t v = some h') : Op1 M (.call ⟨.builtin .clear, #[x], #[t]⟩) l h undef h' :=
  op_blt fun e he => by simp [aop, he.val (x := x) (by simp [Op.operands, Call.operands]) hx, hv]
theorem op_slcLo {l : KL} {h : H} {x y : Operand} {b n i : Nat} {A : Int} {c : List Value} {sf : Bool} (hx : val l x = some (.slice (some ⟨b, 0, some 0⟩) n n)) (hy : val l y = some (.int .i64 A)) (hA : A = (i : Int)) (hi : i < n) (hat : At h b (.cells c 79 2 sf)) :
    Op1 (mz G) (.slice 52 x (some y) none none) l h (.slice (some ⟨b, i * 2, some 0⟩) (n - i) (n - i)) h := by
  subst hA
  refine op_slice (a := some (.int .i64 i)) (b := none) (c := none) hx (by simp only [optV, hy]) rfl rfl ?_
  have hb0 : Nat.beq n i = false := by rw [beq_dec]; simp; omega
  have hd : (decide ((0 : Int) ≤ (n : Int) ∧ (n : Int) ≤ n) && decide ((0 : Int) ≤ (n : Int) ∧ (n : Int) ≤ (n : Int)) && decide ((0 : Int) ≤ (i : Int) ∧ (i : Int) ≤ (n : Int))) = true := by
    simp only [Bool.and_eq_true, decide_eq_true_eq]; omega
  have zz : tsz Tryz.prog 79 = some 2 := zs79
  show aslice Tryz.prog h 52 _ _ _ _ = _
  simp only [aslice, Tryz.underlying52, zz, optInt, asInt?, Option.isNone_none, Bool.true_or, hd, Int.toNat_natCast, hb0, hat.get, nbeq_self]
  simp [aadd]
theorem op_slcHi {l : KL} {h : H} {x y : Operand} {b n i : Nat} {A : Int} {c : List Value} {sf : Bool} (hx : val l x = some (.slice (some ⟨b, 0, some 0⟩) n n)) (hy : val l y = some (.int .i64 A)) (hA : A = (i : Int)) (hi : i ≤ n) (hn : 0 < n) (hat : At h b (.cells c 79 2 sf)) :
    Op1 (mz G) (.slice 52 x none (some y) none) l h (.slice (some ⟨b, 0, some 0⟩) i n) h := by
  subst hA
  refine op_slice (a := none) (b := some (.int .i64 i)) (c := none) hx rfl (by simp only [optV, hy]) rfl ?_
  have hb0 : Nat.beq n 0 = false := by rw [beq_dec]; simp; omega
  have hd : (decide ((0 : Int) ≤ (n : Int) ∧ (n : Int) ≤ n) && decide ((0 : Int) ≤ (i : Int) ∧ (i : Int) ≤ (n : Int)) && decide ((0 : Int) ≤ (0 : Int) ∧ (0 : Int) ≤ (i : Int))) = true := by
    simp only [Bool.and_eq_true, decide_eq_true_eq]; omega
  have zz : tsz Tryz.prog 79 = some 2 := zs79
  show aslice Tryz.prog h 52 _ _ _ _ = _
  simp only [aslice, Tryz.underlying52, zz, optInt, asInt?, Option.isNone_none, Bool.true_or, hd, Int.toNat_natCast, Int.toNat_zero, hb0, hat.get, nbeq_self]
  simp [aadd]
theorem clear_own {h : H} {b n i : Nat} {c : List Value} {sf : Bool} (hat : At h b (.cells c 79 2 sf)) (hc : c.length = n * 2) (hi : i < n) : aclear (mz G).P h 52 (.slice (some ⟨b, i * 2, some 0⟩) (n - i) (n - i)) = some (h.set b (.cells (c.take (i * 2) ++ repeatCells (n - i) [.int .i64 0, .int .i64 0]) 79 2 sf)) := by
  obtain ⟨m, hm⟩ : ∃ m, n - i = m + 1 := ⟨n - i - 1, by omega⟩
  have zz : tzero Tryz.prog 79 = some (.agg #[.int .i64 0, .int .i64 0]) := zz79
  have hl : (repeatCells (m + 1) [Value.int .i64 0, Value.int .i64 0]).length = (m + 1) * 2 := by rw [rep_len]; rfl
  rw [hm]
  show aclear Tryz.prog h 52 _ = _
  unfold aclear
  simp only [Tryz.underlying52, zz]
  show (match gd (Value.agg #[.int .i64 0, .int .i64 0]) with | true => asto h ⟨b, i * 2, some 0⟩ (repeatCells (m + 1) [Value.int .i64 0, Value.int .i64 0]) | false => none) = _
  simp only [show gd (Value.agg #[.int .i64 0, .int .i64 0]) = true from rfl]
  unfold asto
  simp only [hat.get]
  have h1 : Nat.ble (i * 2 + (repeatCells (m + 1) [Value.int .i64 0, Value.int .i64 0]).length) c.length = true := by rw [ble_dec, hl]; simp; omega
  have h2 : ∀ k, (repeatCells k [Value.int .i64 0, Value.int .i64 0]).all one = true := by
    intro k
    induction k with
    | zero => rfl
    | succ k ih => rw [repeatCells, List.all_append, ih]; rfl
  simp only [h1, h2]
  rw [List.drop_eq_nil_of_le (by rw [hl]; omega), List.append_nil]
  simp
theorem set_rec {α : Type} {f : α → List Value} {w : Nat} (hf : ∀ a, (f a).length = w) (x : α) : ∀ (L : List α) (i : Nat), i < L.length → (L.flatMap f).take (i * w) ++ (f x ++ (L.flatMap f).drop (i * w + w)) = (L.set i x).flatMap f
  | p :: ps, 0, _ => by
    rw [Nat.zero_mul, List.take_zero, List.nil_append, Nat.zero_add, List.flatMap_cons, List.drop_append, List.drop_eq_nil_of_le (by rw [hf]; omega), hf, Nat.sub_self]
    rfl
  | p :: ps, i + 1, h => by
    have ih := set_rec hf x ps i (by simpa using h)
    rw [List.flatMap_cons, show (i + 1) * w = (f p).length + i * w by rw [hf, Nat.succ_mul]; omega, Nat.add_assoc, List.drop_append, List.take_append]
    rw [List.take_of_length_le (by omega), List.drop_eq_nil_of_le (by omega), Nat.add_sub_cancel_left, Nat.add_sub_cancel_left, List.nil_append, List.append_assoc, ih]
    rfl
/-- The function that deletes spans which aren't silent. -/
theorem c90 {A e T : Nat} {B : Nat → Bool} {x : Spn} (hA : At h A (.cells [.slice (some ⟨e, 0, some 0⟩) T T] 42 1 false)) (he : At h e (.cells ((inL B T).map Value.bool) 4 1 false)) (hT : T < 1000000) (hx : 0 ≤ x.f ∧ x.f < T) (hw : Wf h) :
    Cf (mz G) (.func (.func 90) #[] #[.pointer (some ⟨A, 0, some 0⟩)]) [.agg ⟨x.cells⟩] h fun r h' => r = .bool (!B x.f.toNat) ∧ Grow h h' := by
  obtain ⟨f, t⟩ := x
  obtain ⟨n, rfl⟩ : ∃ n : Nat, f = n := ⟨f.toNat, by simp only at hx; omega⟩
  simp only at hx
  have s : Sl G h 1 (.slice (some ⟨e, 0, some 0⟩) T T) T ((inL B T).map Value.bool) := Sl.ofAt he (by simp [inL_len]) (Nat.le_refl T)
  obtain ⟨id, i1, i3⟩ := in_atV Value.bool false s Tryz.underlying42 zs4 (i := (n : Int)) (q := n) (by omega) rfl
  rw [inL_get (by omega)] at i3
  have lA := hA.lt
  dsimp only [Spn.cells]
  rw [Int.toNat_natCast]
  generalize B n = z at i3 ⊢
  clear s he
  refine cf_enter (sz := 10) (rs := [.tmp 3]) (all := [.agg ⟨[.int .i64 (n : Nat), .int .i64 t]⟩, .pointer (some ⟨A, 0, some 0⟩)]) Tryz.func90 rfl rfl rfl rfl rfl ?_
  repeat' (first | with_reducible refine wo_nil ?_ | ((with_reducible refine wo_any ?_); first | ((with_reducible refine ik_assign ?_); refine wo_op rfl (op_assign rfl) rfl rfl ?_) | ((with_reducible refine ik_indexAddr ?_); refine wo_op rfl (op_indexAddr rfl rfl i1) rfl rfl ?_) | ((with_reducible refine ik_load ?_); first | refine wo_op rfl (op_ldCell rfl Tryz.underlying4 rfl (i3 _ gr_A)) rfl rfl ?_ | refine wo_op rfl (op_ldAt rfl at_A Tryz.underlying42 rfl rfl) rfl rfl ?_ | refine wo_op rfl (op_ldAt rfl at_A Tryz.underlying3 rfl rfl) rfl rfl ?_) | ((with_reducible refine ik_box ?_); refine wo_op rfl (op_boxAgg rfl zs79 rfl) rfl rfl ?_) | ((with_reducible refine ik_fieldAddr ?_); refine wo_op rfl (op_fieldAddr (o := 0) rfl Tryz.underlying79 rfl zs3 rfl) rfl rfl ?_) | ((with_reducible refine ik_un ?_); refine wo_op rfl (op_not rfl) rfl rfl ?_)) | with_reducible refine sq_norm ?_ | with_reducible refine wc_seq ?_ | with_reducible refine wc_region ?_ | with_reducible refine wc_ret ?_)
  exact rq1 rfl ⟨rfl, gr_A⟩
set_option maxHeartbeats 4000000 in
theorem c153 {v : Value} {A : Nat} {n : Nat} {l : List Spn} (p : Spn → Bool) (s : Sl G h 2 v n (l.flatMap Spn.cells)) (hl : l.length = n) (hn : n < 1000000) (hw : Wf h) (hq : ∀ h' x, Grow h h' → Wf h' → x ∈ l → Cf (mz G) (.func (.func 90) #[] #[.pointer (some ⟨A, 0, some 0⟩)]) [.agg ⟨Spn.cells x⟩] h' fun r h2 => r = .bool (p x) ∧ Grow h' h2) :
    Cf (mz G) (.func (.func 153) #[] #[]) [v, .func (.func 90) #[] #[.pointer (some ⟨A, 0, some 0⟩)]] h fun r h' => r = .int .i64 (idxR p l 0) ∧ Grow h h' := by
  obtain ⟨a, c, rfl⟩ := s.form
  refine cf_enter0 19 [.tmp 4] Tryz.func153 rfl rfl rfl rfl ?_
  repeat' (first | with_reducible refine wo_nil ?_ | ((with_reducible refine wo_any ?_); first | ((with_reducible refine ik_move ?_); refine wo_op rfl (op_move rfl) rfl rfl ?_) | ((with_reducible refine ik_assign ?_); refine wo_op rfl (op_assign rfl) rfl rfl ?_) | ((with_reducible refine ik_callb ?_); refine wo_op rfl (op_lenSl rfl Tryz.underlying52) rfl rfl ?_)) | with_reducible refine sq_norm ?_ | with_reducible refine wc_seq ?_ | with_reducible refine wc_region ?_ | with_reducible refine wc_block ?_)
  refine wc_loop (fun k => n - k) (fun k : Nat => [(0, .slice a n c), (1, .func (.func 90) #[] #[.pointer (some ⟨A, 0, some 0⟩)]), (7, .int .i64 n), (8, .int .i64 k)]) (fun k h' => (Wf h' ∧ Grow h h') ∧ k ≤ n ∧ idxR p (l.drop k) k = idxR p l 0) 0 (within_lk ⟨rfl, rfl, rfl, rfl, trivial⟩) ⟨⟨wf_A, gr_A⟩, Nat.zero_le _, rfl⟩ ?_
  rintro k h1 ⟨⟨w1, g1⟩, hk, hi⟩
  have n1 := g1.nx
  by_cases hlt : k < n
  · obtain ⟨id, i1, i3⟩ := rl_at Spn.len ⟨0, 0⟩ (s.grow g1) hl Tryz.underlying52 zs79 (i := (k : Int)) hlt rfl
    rw [drop_next ⟨0, 0⟩ (by omega), idxR] at hi
    have hm : l.getD k ⟨0, 0⟩ ∈ l := by simp [List.getD, List.getElem?_eq_getElem (show k < l.length by omega)]
    obtain ⟨x0, hx⟩ : ∃ x, l.getD k ⟨0, 0⟩ = x := ⟨_, rfl⟩
    rw [hx] at i3 hi hm
    have q1 := fun (h' : H) (g' : Grow h1 h') (w' : Wf h') => hq h' x0 (g1.trans g') w' hm
    clear hx hm
    cases hp : p x0 with
    | true =>
      rw [hp] at q1
      rw [if_pos hp] at hi
      clear hp
      obtain ⟨f, t⟩ := x0
      dsimp only [Spn.cells] at i3 q1
      repeat' (first | with_reducible refine wo_nil ?_ | ((with_reducible refine wo_any ?_); first | ((with_reducible refine ik_move ?_); refine wo_op rfl (op_move rfl) rfl rfl ?_) | ((with_reducible refine ik_assign ?_); refine wo_op rfl (op_assign rfl) rfl rfl ?_) | ((with_reducible refine ik_indexAddr ?_); refine wo_op rfl (op_indexAddr rfl rfl i1) rfl rfl ?_) | ((with_reducible refine ik_load ?_); refine wo_op rfl (op_ldLn rfl Tryz.underlying79 rfl zs79 (i3 _ gr_A).all) rfl rfl ?_) | ((with_reducible refine ik_bin ?_); refine wo_op rfl (op_lss rfl rfl) rfl rfl ?_) | ((with_reducible refine ik_callv ?_); (refine wo_call rfl rfl rfl rfl (q1 _ gr_A wf_A) rfl rfl ?_; rintro _ _ ⟨rfl, hq⟩; all_goals ((try (have hqn := hq.nx)); (try simp only [H.nx_push, H.nx_set, H.nx_bump] at hqn))))) | with_reducible refine sq_norm ?_ | with_reducible refine wc_seq ?_ | with_reducible refine wc_region ?_ | with_reducible refine wc_skip ?_ | with_reducible refine wc_ret ?_ | with_reducible refine wc_block ?_ | with_reducible refine bq_ret ?_ | with_reducible refine sq_ret ?_ | with_reducible refine lq_ret ?_ | refine wc_ift rfl ?_ | (refine wc_if rfl (fun hb => ?_) (fun hb => dead_A hb); (try simp only [decide_eq_true_eq, decide_eq_false_iff_not, Bool.not_eq_true', Bool.not_eq_false', Int.not_lt, Int.not_le, Decidable.not_not, not_true_eq_false, not_false_eq_true, beq_self_eq_true, reduceCtorEq] at hb)))
      exact rq1 rfl ⟨by rw [hi], gr_A⟩
    | false =>
      rw [hp] at q1
      rw [if_neg (by rw [hp]; decide)] at hi
      clear hp
      obtain ⟨f, t⟩ := x0
      dsimp only [Spn.cells] at i3 q1
      repeat' (first | with_reducible refine wo_nil ?_ | ((with_reducible refine wo_any ?_); first | ((with_reducible refine ik_move ?_); refine wo_op rfl (op_move rfl) rfl rfl ?_) | ((with_reducible refine ik_assign ?_); refine wo_op rfl (op_assign rfl) rfl rfl ?_) | ((with_reducible refine ik_indexAddr ?_); refine wo_op rfl (op_indexAddr rfl rfl i1) rfl rfl ?_) | ((with_reducible refine ik_load ?_); refine wo_op rfl (op_ldLn rfl Tryz.underlying79 rfl zs79 (i3 _ gr_A).all) rfl rfl ?_) | ((with_reducible refine ik_bin ?_); first | refine wo_op rfl (op_lss rfl rfl) rfl rfl ?_ | refine wo_op rfl (op_add' rfl rfl (w64 (by omega) (by omega))) rfl rfl ?_) | ((with_reducible refine ik_callv ?_); (refine wo_call rfl rfl rfl rfl (q1 _ gr_A wf_A) rfl rfl ?_; rintro _ _ ⟨rfl, hq⟩; all_goals ((try (have hqn := hq.nx)); (try simp only [H.nx_push, H.nx_set, H.nx_bump] at hqn))))) | with_reducible refine sq_norm ?_ | with_reducible refine wc_seq ?_ | with_reducible refine wc_region ?_ | with_reducible refine wc_skip ?_ | with_reducible refine wc_block ?_ | with_reducible refine bq_norm ?_ | refine wc_iff rfl ?_ | (refine wc_if rfl (fun hb => ?_) (fun hb => dead_A hb); (try simp only [decide_eq_true_eq, decide_eq_false_iff_not, Bool.not_eq_true', Bool.not_eq_false', Int.not_lt, Int.not_le, Decidable.not_not, not_true_eq_false, not_false_eq_true, beq_self_eq_true, reduceCtorEq] at hb)))
      exact lq_norm (k + 1) (by omega) (within_lk ⟨rfl, rfl, rfl, rfl, trivial⟩) ⟨⟨wf_A, gr_A⟩, by omega, hi⟩
  · repeat' (first | with_reducible refine wo_nil ?_ | ((with_reducible refine wo_any ?_); first | ((with_reducible refine ik_assign ?_); refine wo_op rfl (op_assign rfl) rfl rfl ?_) | ((with_reducible refine ik_bin ?_); refine wo_op rfl (op_lss rfl rfl) rfl rfl ?_)) | with_reducible refine sq_norm ?_ | with_reducible refine wc_seq ?_ | with_reducible refine wc_region ?_ | with_reducible refine wc_ret ?_ | with_reducible refine wc_exit ?_ | with_reducible refine sq_exit ?_ | with_reducible refine lq_exit ?_ | refine bq_eq rfl ?_ | (refine wc_if rfl (fun hb => ?_) (fun hb => ?_) <;> (try simp only [decide_eq_true_eq, decide_eq_false_iff_not, Bool.not_eq_true', Bool.not_eq_false', Int.not_lt, Int.not_le, Decidable.not_not, not_true_eq_false, not_false_eq_true, beq_self_eq_true, reduceCtorEq] at hb) <;> (try (exfalso; omega))))
    refine rq1 rfl ⟨?_, gr_A⟩
    rw [List.drop_eq_nil_of_le (by omega)] at hi
    rw [← hi]; rfl

theorem idx_specR {α : Type} (p : α → Bool) (d : α) : ∀ (l : List α) (k : Nat), (idxR p l k = -1 ∧ ∀ x ∈ l, p x = false) ∨ ∃ i, i < l.length ∧ idxR p l k = ((k + i : Nat) : Int) ∧ (∀ x ∈ l.take i, p x = false) ∧ p (l.getD i d) = true
  | [], k => .inl ⟨rfl, by simp⟩
  | x :: l, k => by
    rw [idxR]
    by_cases h : p x = true
    · rw [if_pos h]; exact .inr ⟨0, by simp, rfl, by simp, by simpa using h⟩
    · rw [if_neg h]
      rcases idx_specR p d l (k + 1) with ⟨h1, h2⟩ | ⟨i, h1, h2, h3, h4⟩
      · refine .inl ⟨h1, ?_⟩
        intro y hy
        rcases List.mem_cons.1 hy with rfl | hy
        · simpa using h
        · exact h2 y hy
      · refine .inr ⟨i + 1, by simp; omega, by rw [h2]; congr 1; omega, ?_, by simpa using h4⟩
        intro y hy
        rw [List.take_succ_cons] at hy
        rcases List.mem_cons.1 hy with rfl | hy
        · simpa using h
        · exact h3 y hy
def keepR {α : Type} (p : α → Bool) (l : List α) : List α := l.filter fun x => !p x
theorem keep_all {α : Type} {p : α → Bool} {l : List α} (h : ∀ x ∈ l, p x = false) : keepR p l = l := by
  unfold keepR; rw [List.filter_eq_self]; intro x hx; rw [h x hx]; rfl
theorem keep_next {α : Type} {p : α → Bool} {l : List α} {j : Nat} (d : α) (hj : j < l.length) : keepR p (l.take (j + 1)) = keepR p (l.take j) ++ (if p (l.getD j d) then [] else [l.getD j d]) := by
  unfold keepR
  rw [take_next d hj, List.filter_append]
  congr 1
  generalize l.getD j d = x
  by_cases h : p x = true
  · rw [if_pos h]; simp [h]
  · rw [if_neg h]; simp [h]
set_option maxHeartbeats 8000000 in
theorem c88 {A e b n T : Nat} {B : Nat → Bool} {l : List Spn} (p : Spn → Bool) (hpB : ∀ x, p x = !B x.f.toNat) (hat : At h b (.cells (l.flatMap Spn.cells) 79 2 true)) (hl : l.length = n) (hn : n < 1000000) (hT : T < 1000000) (hw : Wf h) (hK : (At h A (.cells [.slice (some ⟨e, 0, some 0⟩) T T] 42 1 false) ∧ At h e (.cells ((inL B T).map Value.bool) 4 1 false))) (hAb : A ≠ b) (heb : e ≠ b) (hx : ∀ x ∈ l, 0 ≤ x.f ∧ x.f < T) :
    Cf (mz G) (.func (.func 88) #[] #[]) [.slice (some ⟨b, 0, some 0⟩) n n, .func (.func 90) #[] #[.pointer (some ⟨A, 0, some 0⟩)]] h fun r h' => (∃ a c, r = .slice a (keepR p l).length c ∧ Sl G h' 2 (.slice a (keepR p l).length c) (keepR p l).length ((keepR p l).flatMap Spn.cells)) ∧ Keep1 b h h' ∧ Wf h' := by
  have s0 : Sl G h 2 (.slice (some ⟨b, 0, some 0⟩) n n) n (l.flatMap Spn.cells) := Sl.ofAt hat (by rw [Spn.flat, hl]) (Nat.le_refl _)
  have hqc : ∀ h' (x : Spn), (At h' A (.cells [.slice (some ⟨e, 0, some 0⟩) T T] 42 1 false) ∧ At h' e (.cells ((inL B T).map Value.bool) 4 1 false)) → Wf h' → x ∈ l → Cf (mz G) (.func (.func 90) #[] #[.pointer (some ⟨A, 0, some 0⟩)]) [.agg ⟨x.cells⟩] h' fun r h2 => r = .bool (p x) ∧ Grow h' h2 := fun h' x k w' m => by
    rw [hpB x]; exact c90 k.1 k.2 hT (hx x m) w'
  have qi := fun (h' : H) (g : Grow h h') (w' : Wf h') => c153 (A := A) p (s0.grow g) hl hn w' (fun h2 x g2 w2 m => hqc h2 x ⟨hK.1.grow (g.trans g2), hK.2.grow (g.trans g2)⟩ w2 m)
  have lb := hat.lt
  rcases idx_specR p ⟨0, 0⟩ l 0 with ⟨h1, h2⟩ | ⟨i0, h1, h2, h3, h4⟩
  · rw [h1] at qi
    rw [keep_all h2, hl]
    refine cf_enter0 42 [.tmp 4] Tryz.func88 rfl rfl rfl rfl ?_
    repeat' (first | with_reducible refine wo_nil ?_ | ((with_reducible refine wo_any ?_); first | ((with_reducible refine ik_move ?_); refine wo_op rfl (op_move rfl) rfl rfl ?_) | ((with_reducible refine ik_assign ?_); refine wo_op rfl (op_assign rfl) rfl rfl ?_) | ((with_reducible refine ik_bin ?_); refine wo_op rfl (op_eql rfl rfl) rfl rfl ?_) | ((with_reducible refine ik_callv ?_); (refine wo_call rfl rfl rfl rfl (qi _ gr_A wf_A) rfl rfl ?_; rintro _ _ ⟨rfl, hq⟩; all_goals ((try (have hqn := hq.nx)); (try simp only [H.nx_push, H.nx_set, H.nx_bump] at hqn))))) | with_reducible refine sq_norm ?_ | with_reducible refine wc_seq ?_ | with_reducible refine wc_region ?_ | with_reducible refine wc_ret ?_ | with_reducible refine sq_ret ?_ | refine wc_ift rfl ?_)
    exact rq1 rfl ⟨⟨_, _, rfl, s0.grow gr_A⟩, Keep1.refl.grow gr_A, wf_A⟩
  · rw [h2, Nat.zero_add] at qi
    have b0 : keepR p (l.take i0) = l.take i0 := keep_all h3
    have b1 : keepR p (l.take (i0 + 1)) = l.take i0 := by rw [keep_next ⟨0, 0⟩ h1, if_pos h4, b0, List.append_nil]
    have b2 : (l.take i0).length = i0 := by simp; omega
    refine cf_enter0 42 [.tmp 4] Tryz.func88 rfl rfl rfl rfl ?_
    repeat' (first | with_reducible refine wo_nil ?_ | ((with_reducible refine wo_any ?_); first | ((with_reducible refine ik_move ?_); refine wo_op rfl (op_move rfl) rfl rfl ?_) | ((with_reducible refine ik_assign ?_); refine wo_op rfl (op_assign rfl) rfl rfl ?_) | ((with_reducible refine ik_bin ?_); first | refine wo_op rfl (op_eql rfl rfl) rfl rfl ?_ | refine wo_op rfl (op_add' rfl rfl (w64 (by omega) (by omega))) rfl rfl ?_) | ((with_reducible refine ik_callv ?_); (refine wo_call rfl rfl rfl rfl (qi _ gr_A wf_A) rfl rfl ?_; rintro _ _ ⟨rfl, hq⟩; all_goals ((try (have hqn := hq.nx)); (try simp only [H.nx_push, H.nx_set, H.nx_bump] at hqn))))) | with_reducible refine sq_norm ?_ | with_reducible refine wc_seq ?_ | with_reducible refine wc_region ?_ | with_reducible refine wc_skip ?_ | with_reducible refine wc_block ?_ | refine wc_iff rfl ?_)
    refine wc_loop (fun j => n - j) (fun j : Nat => [(0, .slice (some ⟨b, 0, some 0⟩) n n), (1, .func (.func 90) #[] #[.pointer (some ⟨A, 0, some 0⟩)]), (5, .int .i64 ((keepR p (l.take j)).length : Nat)), (6, .int .i64 j)]) (fun j h' => (Wf h' ∧ Keep1 b h h' ∧ (At h' A (.cells [.slice (some ⟨e, 0, some 0⟩) T T] 42 1 false) ∧ At h' e (.cells ((inL B T).map Value.bool) 4 1 false))) ∧ ((keepR p (l.take j)).length < j ∧ j ≤ n) ∧ ∃ cur : List Spn, cur.length = n ∧ At h' b (.cells (cur.flatMap Spn.cells) 79 2 true) ∧ cur.take (keepR p (l.take j)).length = keepR p (l.take j) ∧ cur.drop j = l.drop j) (i0 + 1) (within_lk ⟨rfl, rfl, by rw [b1, b2]; rfl, by simp [lk], trivial⟩) ⟨⟨wf_A, Keep1.refl.grow gr_A, hK.1.grow hq, hK.2.grow hq⟩, ⟨by rw [b1, b2]; omega, by omega⟩, l, hl, at_A, by rw [b1, b2], rfl⟩ ?_
    clear qi s0 hat hK b0 b1 b2 h2 h3 h4 hq
    rintro j h' ⟨⟨w1, k1, kA, ke⟩, ⟨hij, hj⟩, cur, hc, at1, ht, hd⟩
    have l1 := at1.lt
    have lA := kA.lt
    have le := ke.lt
    by_cases hlt : j < n
    · have nx := keep_next (p := p) (l := l) (j := j) ⟨0, 0⟩ (by omega)
      have hcj : cur.getD j ⟨0, 0⟩ = l.getD j ⟨0, 0⟩ := by
        have e1 : (cur.drop j).getD 0 ⟨0, 0⟩ = (l.drop j).getD 0 ⟨0, 0⟩ := by rw [hd]
        simpa [List.getD] using e1
      have hm : l.getD j ⟨0, 0⟩ ∈ l := by simp [List.getD, List.getElem?_eq_getElem (show j < l.length by omega)]
      have scur : Sl G h' 2 (.slice (some ⟨b, 0, some 0⟩) n n) n (cur.flatMap Spn.cells) := Sl.ofAt at1 (by rw [Spn.flat, hc]) (Nat.le_refl _)
      obtain ⟨id, i1, i3⟩ := rl_at Spn.len ⟨0, 0⟩ scur hc Tryz.underlying52 zs79 (i := (j : Int)) hlt rfl
      have hd1 : cur.drop (j + 1) = l.drop (j + 1) := by rw [← List.drop_drop, ← List.drop_drop, hd]
      obtain ⟨i, hi⟩ : ∃ i, (keepR p (l.take j)).length = i := ⟨_, rfl⟩
      rw [hi] at hij ht ⊢
      have sr := set_rec Spn.len (l.getD j ⟨0, 0⟩) cur i (by omega)
      have e4 : ((cur.set i (l.getD j ⟨0, 0⟩))).length = n := by simp [hc]
      have e2' : (cur.set i (l.getD j ⟨0, 0⟩)).take (i + 1) = keepR p (l.take j) ++ [l.getD j ⟨0, 0⟩] := by
        rw [← ht, List.take_succ_eq_append_getElem (by simp; omega), List.take_set_of_le (by omega)]
        simp
      have e3 : (cur.set i (l.getD j ⟨0, 0⟩)).drop (j + 1) = l.drop (j + 1) := by rw [List.drop_set_of_lt (by omega)]; exact hd1
      have hflat : (cur.flatMap Spn.cells).length = n * 2 := by rw [Spn.flat, hc]
      rw [hcj] at i3
      obtain ⟨x, hx2⟩ : ∃ x, l.getD j ⟨0, 0⟩ = x := ⟨_, rfl⟩
      rw [hx2] at nx i3 hm sr e4 e2' e3
      have qx := fun (h2 : H) (g2 : Grow h' h2) (w2 : Wf h2) => hqc h2 x ⟨kA.grow g2, ke.grow g2⟩ w2 hm
      clear hx2 hm hcj scur
      cases hp : p x with
      | true =>
        rw [hp, if_pos rfl, List.append_nil] at nx
        rw [hp] at qx
        clear sr e4 e2' e3 hp
        obtain ⟨f, t⟩ := x
        dsimp only [Spn.cells] at i3 qx
        repeat' (first | with_reducible refine wo_nil ?_ | ((with_reducible refine wo_any ?_); first | ((with_reducible refine ik_move ?_); refine wo_op rfl (op_move rfl) rfl rfl ?_) | ((with_reducible refine ik_assign ?_); refine wo_op rfl (op_assign rfl) rfl rfl ?_) | ((with_reducible refine ik_indexAddr ?_); refine wo_op rfl (op_indexAddr rfl rfl i1) rfl rfl ?_) | ((with_reducible refine ik_load ?_); first | refine wo_op rfl (op_ldLn rfl Tryz.underlying79 rfl zs79 (i3 _ gr_A).all) rfl rfl ?_ | refine wo_op rfl (op_ldAgg rfl at_A Tryz.underlying79 rfl zs79 rfl rfl) rfl rfl ?_) | ((with_reducible refine ik_bin ?_); first | refine wo_op rfl (op_add' rfl rfl (w64 (by omega) (by omega))) rfl rfl ?_ | refine wo_op rfl (op_lss rfl rfl) rfl rfl ?_) | ((with_reducible refine ik_callb ?_); refine wo_op rfl (op_lenSl rfl Tryz.underlying52) rfl rfl ?_) | ((with_reducible refine ik_alloc ?_); refine wo_op rfl (op_alloc zz79 zs79 rfl rfl rfl) rfl rfl ?_) | ((with_reducible refine ik_store ?_); refine wo_op0 rfl (op_stAgg rfl rfl at_A zs79 rfl rfl rfl rfl) rfl ?_) | ((with_reducible refine ik_un ?_); refine wo_op rfl (op_not rfl) rfl rfl ?_) | ((with_reducible refine ik_callv ?_); (refine wo_call rfl rfl rfl rfl (qx _ gr_A wf_A) rfl rfl ?_; rintro _ _ ⟨rfl, hq⟩; all_goals ((try (have hqn := hq.nx)); (try simp only [H.nx_push, H.nx_set, H.nx_bump] at hqn))))) | with_reducible refine sq_norm ?_ | with_reducible refine wc_seq ?_ | with_reducible refine wc_region ?_ | with_reducible refine wc_skip ?_ | with_reducible refine wc_block ?_ | with_reducible refine bq_norm ?_ | refine wc_iff rfl ?_ | (refine wc_if rfl (fun hb => ?_) (fun hb => dead_A hb); (try simp only [decide_eq_true_eq, decide_eq_false_iff_not, Bool.not_eq_true', Bool.not_eq_false', Int.not_lt, Int.not_le, Decidable.not_not, not_true_eq_false, not_false_eq_true, beq_self_eq_true, reduceCtorEq] at hb)))
        exact lq_norm (j + 1) (by omega) (within_lk ⟨rfl, rfl, by rw [nx, hi]; rfl, by simp [lk], trivial⟩) ⟨⟨wf_A, k1.grow gr_A, at_A, at_A⟩, ⟨by rw [nx, hi]; omega, by omega⟩, cur, hc, at_A, by rw [nx, hi]; exact ht, hd1⟩
      | false =>
        rw [hp, if_neg (by decide)] at nx
        rw [hp] at qx
        have e1 : (keepR p (l.take (j + 1))).length = i + 1 := by rw [nx, List.length_append, hi]; rfl
        have e2 : (cur.set i x).take (i + 1) = keepR p (l.take (j + 1)) := by rw [nx, e2']
        clear e2' hp hd1
        obtain ⟨cs, hcs⟩ : ∃ cs, cur.set i x = cs := ⟨_, rfl⟩
        rw [hcs] at sr e4 e2 e3
        clear hcs
        obtain ⟨f, t⟩ := x
        dsimp only [Spn.cells] at i3 qx
        repeat' (first | with_reducible refine wo_nil ?_ | ((with_reducible refine wo_any ?_); first | ((with_reducible refine ik_move ?_); refine wo_op rfl (op_move rfl) rfl rfl ?_) | ((with_reducible refine ik_assign ?_); refine wo_op rfl (op_assign rfl) rfl rfl ?_) | ((with_reducible refine ik_indexAddr ?_); first | refine wo_op rfl (op_indexAddr rfl rfl i1) rfl rfl ?_ | refine wo_op rfl (op_idxSl (o := i * 2) rfl rfl Tryz.underlying52 zs79 (by omega) (by omega) (by omega)) rfl rfl ?_) | ((with_reducible refine ik_load ?_); first | refine wo_op rfl (op_ldLn rfl Tryz.underlying79 rfl zs79 (i3 _ gr_A).all) rfl rfl ?_ | refine wo_op rfl (op_ldAgg rfl at_A Tryz.underlying79 rfl zs79 rfl rfl) rfl rfl ?_) | ((with_reducible refine ik_store ?_); first | refine wo_op0 rfl (op_stRec rfl rfl at_A zs79 rfl (by omega) rfl sr) rfl ?_ | refine wo_op0 rfl (op_stAgg rfl rfl at_A zs79 rfl rfl rfl rfl) rfl ?_) | ((with_reducible refine ik_bin ?_); first | refine wo_op rfl (op_add' rfl rfl (w64 (by omega) (by omega))) rfl rfl ?_ | refine wo_op rfl (op_lss rfl rfl) rfl rfl ?_) | ((with_reducible refine ik_callb ?_); refine wo_op rfl (op_lenSl rfl Tryz.underlying52) rfl rfl ?_) | ((with_reducible refine ik_alloc ?_); refine wo_op rfl (op_alloc zz79 zs79 rfl rfl rfl) rfl rfl ?_) | ((with_reducible refine ik_un ?_); refine wo_op rfl (op_not rfl) rfl rfl ?_) | ((with_reducible refine ik_callv ?_); (refine wo_call rfl rfl rfl rfl (qx _ gr_A wf_A) rfl rfl ?_; rintro _ _ ⟨rfl, hq⟩; all_goals ((try (have hqn := hq.nx)); (try simp only [H.nx_push, H.nx_set, H.nx_bump] at hqn))))) | with_reducible refine sq_norm ?_ | with_reducible refine wc_seq ?_ | with_reducible refine wc_region ?_ | with_reducible refine wc_skip ?_ | with_reducible refine wc_block ?_ | with_reducible refine bq_norm ?_ | refine wc_ift rfl ?_ | (refine wc_if rfl (fun hb => ?_) (fun hb => dead_A hb); (try simp only [decide_eq_true_eq, decide_eq_false_iff_not, Bool.not_eq_true', Bool.not_eq_false', Int.not_lt, Int.not_le, Decidable.not_not, not_true_eq_false, not_false_eq_true, beq_self_eq_true, reduceCtorEq] at hb)))
        exact lq_norm (j + 1) (by omega) (within_lk ⟨rfl, rfl, by rw [e1]; simp [lk], by simp [lk], trivial⟩) ⟨⟨wf_A, (k1.grow gr_A).set lt_A _, at_A, at_A⟩, ⟨by rw [e1]; omega, by omega⟩, cs, e4, at_A, by rw [e1]; exact e2, e3⟩
    · have hjn : l.take j = l := List.take_of_length_le (by omega)
      rw [hjn] at hij ht ⊢
      obtain ⟨L, hL⟩ : ∃ L, keepR p l = L := ⟨_, rfl⟩
      rw [hL] at hij ht ⊢
      obtain ⟨i, hi⟩ : ∃ i, L.length = i := ⟨_, rfl⟩
      rw [hi] at hij ht ⊢
      have hfl : (cur.flatMap Spn.cells).length = n * 2 := by rw [Spn.flat, hc]
      have hcl := clear_own (G := G) (n := n) (i := i) at1 hfl (by omega)
      have htk : (cur.flatMap Spn.cells).take (i * 2) = L.flatMap Spn.cells := by
        rw [← ht]
        have : cur = cur.take i ++ cur.drop i := (List.take_append_drop i cur).symm
        rw [this, List.flatMap_append, List.take_append_of_le_length (by rw [Spn.flat, List.length_take]; omega), List.take_of_length_le (by rw [Spn.flat, List.length_take]; omega)]
        simp
      rw [htk] at hcl
      have hfin : ∀ h2 : H, At h2 b (.cells (L.flatMap Spn.cells ++ repeatCells (n - i) [Value.int .i64 0, Value.int .i64 0]) 79 2 true) → ∃ a c, Value.slice (some ⟨b, 0, some 0⟩) i n = .slice a i c ∧ Sl G h2 2 (.slice a i c) i (L.flatMap Spn.cells) := by
        intro h2 a2
        have s1 : Sl G h2 2 (.slice (some ⟨b, 0, some 0⟩) n n) n (L.flatMap Spn.cells ++ repeatCells (n - i) [Value.int .i64 0, Value.int .i64 0]) := Sl.ofAt a2 (by rw [List.length_append, Spn.flat, rep_len, hi]; simp only [List.length_cons, List.length_nil]; omega) (Nat.le_refl _)
        have s2 := s1.part (lo := 0) (hi := i) (Nat.zero_le _) (by omega)
        have hb0 : Nat.beq n 0 = false := by rw [beq_dec]; simp; omega
        have ca : cutA 2 (some ⟨b, 0, some 0⟩) n 0 = some ⟨b, 0, some 0⟩ := by simp [cutA, hb0, aadd]
        rw [ca] at s2
        refine ⟨_, _, rfl, ?_⟩
        have e : ((L.flatMap Spn.cells ++ repeatCells (n - i) [Value.int .i64 0, Value.int .i64 0]).drop (0 * 2)).take ((i - 0) * 2) = L.flatMap Spn.cells := by
          rw [Nat.zero_mul, List.drop_zero, Nat.sub_zero, List.take_append_of_le_length (by rw [Spn.flat, hi]; omega), List.take_of_length_le (by rw [Spn.flat, hi]; omega)]
        rw [e] at s2
        exact s2
      repeat' (first | with_reducible refine wo_nil ?_ | ((with_reducible refine wo_any ?_); first | ((with_reducible refine ik_move ?_); refine wo_op rfl (op_move rfl) rfl rfl ?_) | ((with_reducible refine ik_assign ?_); refine wo_op rfl (op_assign rfl) rfl rfl ?_) | ((with_reducible refine ik_slice ?_); first | refine wo_op rfl (op_slcLo rfl rfl rfl (by omega) at_A) rfl rfl ?_ | refine wo_op rfl (op_slcHi rfl rfl rfl (by omega) (by omega) at_A) rfl rfl ?_) | ((with_reducible refine ik_bin ?_); refine wo_op rfl (op_lss rfl rfl) rfl rfl ?_) | ((with_reducible refine ik_callb ?_); refine wo_op rfl (op_lenSl rfl Tryz.underlying52) rfl rfl ?_)) | with_reducible refine sq_norm ?_ | with_reducible refine wc_seq ?_ | with_reducible refine wc_region ?_ | with_reducible refine wc_ret ?_ | with_reducible refine wc_exit ?_ | with_reducible refine sq_exit ?_ | with_reducible refine lq_exit ?_ | refine bq_eq rfl ?_ | (refine wc_if rfl (fun hb => dead_A hb) (fun hb => ?_); (try simp only [decide_eq_true_eq, decide_eq_false_iff_not, Bool.not_eq_true', Bool.not_eq_false', Int.not_lt, Int.not_le, Decidable.not_not, not_true_eq_false, not_false_eq_true, beq_self_eq_true, reduceCtorEq] at hb)) | ((with_reducible refine wo_any ?_); (with_reducible refine ik_callb ?_); refine wo_op0 rfl (op_clear rfl hcl) rfl ?_))
      exact rq1 rfl ⟨hfin _ at_A, k1.set l1 _, wf_A⟩
end Go.Proofs.YtlioomhcdlicmaaGreatDoor
