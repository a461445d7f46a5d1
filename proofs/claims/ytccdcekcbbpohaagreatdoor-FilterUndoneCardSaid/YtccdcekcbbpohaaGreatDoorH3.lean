/- Responses by the program; complex numbers that are the same. -/
import Derived.Test.YtccdcekcbbpohaaGreatDoorH2
import Derived.Test.YtccdcekcbbpohaaGreatDoorH1
set_option linter.all false
/- Responses, by the program. -/
namespace Go.Proofs.YtccdcekcbbpohaaGreatDoor
open Go Go.Ab Go.Fl
attribute [local irreducible] SeqQ BlkQ LpQ RetQ Wc Wo WD WX Op1 Op1q Op1a Cf Cl From
attribute [local irreducible] Ieee.Format.order Ieee.Format.read Ieee.Format.nearest Ieee.Format.write Ieee.Format.mul Ieee.Format.div Ieee.Datum.order Ieee.Datum.integral smpE smp smpW K J U sumN lchk tchk trE hdrE appL undL undA undI wr ghoL rnd mulL dghL dghA rngE notN
set_option maxRecDepth 10000
variable {G : Base} {h : H}

def foldF (t : List Int) : Nat → Nat → Int
  | 0, _ => 0
  | j + 1, m => foldF t j m + (if j % 4 = m then t.getD j 0 else 0)
theorem foldF_b {t : List Int} (ht : ∀ x ∈ t, x.natAbs ≤ 16) (m : Nat) : ∀ j, (foldF t j m).natAbs ≤ j * 16
  | 0 => by unfold foldF; decide
  | j + 1 => by
    have ih := foldF_b ht m j
    have hp := getD_bound ht j
    unfold foldF
    split <;> omega
def foldN (t : List Int) (j : Nat) : List Int := [foldF t j 0, foldF t j 1, foldF t j 2, foldF t j 3]
theorem fold_res (t : List Int) {k : Nat} (hk : k < 4) : ∀ j, resR t k j = tR (numF (foldN t j)) (numF [0, 0, 0, 0]) k 4 ∧ resI t k j = tI (numF (foldN t j)) (numF [0, 0, 0, 0]) k 4
  | 0 => by
    match k, hk with
    | 0, _ | 1, _ | 2, _ | 3, _ => simp [resR, resI, tR, tI, numF, foldN, foldF]
  | j + 1 => by
    have ih := fold_res t hk j
    have h4 : j % 4 = 0 ∨ j % 4 = 1 ∨ j % 4 = 2 ∨ j % 4 = 3 := by omega
    obtain ⟨A, hA⟩ : ∃ A, t.getD j 0 = A := ⟨_, rfl⟩
    match k, hk with
    | 0, _ =>
      have e : 3 * j * 0 % 4 = 0 := by omega
      rcases h4 with h4 | h4 | h4 | h4
      all_goals
        simp only [resR, resI, e, foldN, foldF, hA]
        simp [tR, tI, numF, foldN, foldF, pR, pI, h4, hA] at ih ⊢
        omega
    | 1, _ =>
      rcases h4 with h4 | h4 | h4 | h4
      · have e : 3 * j * 1 % 4 = 0 := by omega
        simp only [resR, resI, e, foldN, foldF, hA]
        simp [tR, tI, numF, foldN, foldF, pR, pI, h4, hA] at ih ⊢
        omega
      · have e : 3 * j * 1 % 4 = 3 := by omega
        simp only [resR, resI, e, foldN, foldF, hA]
        simp [tR, tI, numF, foldN, foldF, pR, pI, h4, hA] at ih ⊢
        omega
      · have e : 3 * j * 1 % 4 = 2 := by omega
        simp only [resR, resI, e, foldN, foldF, hA]
        simp [tR, tI, numF, foldN, foldF, pR, pI, h4, hA] at ih ⊢
        omega
      · have e : 3 * j * 1 % 4 = 1 := by omega
        simp only [resR, resI, e, foldN, foldF, hA]
        simp [tR, tI, numF, foldN, foldF, pR, pI, h4, hA] at ih ⊢
        omega
    | 2, _ =>
      rcases h4 with h4 | h4 | h4 | h4
      · have e : 3 * j * 2 % 4 = 0 := by omega
        simp only [resR, resI, e, foldN, foldF, hA]
        simp [tR, tI, numF, foldN, foldF, pR, pI, h4, hA] at ih ⊢
        omega
      · have e : 3 * j * 2 % 4 = 2 := by omega
        simp only [resR, resI, e, foldN, foldF, hA]
        simp [tR, tI, numF, foldN, foldF, pR, pI, h4, hA] at ih ⊢
        omega
      · have e : 3 * j * 2 % 4 = 0 := by omega
        simp only [resR, resI, e, foldN, foldF, hA]
        simp [tR, tI, numF, foldN, foldF, pR, pI, h4, hA] at ih ⊢
        omega
      · have e : 3 * j * 2 % 4 = 2 := by omega
        simp only [resR, resI, e, foldN, foldF, hA]
        simp [tR, tI, numF, foldN, foldF, pR, pI, h4, hA] at ih ⊢
        omega
    | 3, _ =>
      rcases h4 with h4 | h4 | h4 | h4
      · have e : 3 * j * 3 % 4 = 0 := by omega
        simp only [resR, resI, e, foldN, foldF, hA]
        simp [tR, tI, numF, foldN, foldF, pR, pI, h4, hA] at ih ⊢
        omega
      · have e : 3 * j * 3 % 4 = 1 := by omega
        simp only [resR, resI, e, foldN, foldF, hA]
        simp [tR, tI, numF, foldN, foldF, pR, pI, h4, hA] at ih ⊢
        omega
      · have e : 3 * j * 3 % 4 = 2 := by omega
        simp only [resR, resI, e, foldN, foldF, hA]
        simp [tR, tI, numF, foldN, foldF, pR, pI, h4, hA] at ih ⊢
        omega
      · have e : 3 * j * 3 % 4 = 3 := by omega
        simp only [resR, resI, e, foldN, foldF, hA]
        simp [tR, tI, numF, foldN, foldF, pR, pI, h4, hA] at ih ⊢
        omega
attribute [local irreducible] pR pI resR resI tR tI rowE allE
def FL (t : List Int) (j : Nat) : List Value := [.int .i64 (foldF t j 0), .int .i64 0, .int .i64 (foldF t j 1), .int .i64 0, .int .i64 (foldF t j 2), .int .i64 0, .int .i64 (foldF t j 3), .int .i64 0]
theorem FL_at (t : List Int) (j : Nat) {r : Nat} (h : r < 4) : (FL t j)[r * 2 + 0]? = some (.int .i64 (foldF t j r)) := by
  match r, h with
  | 0, _ | 1, _ | 2, _ | 3, _ => rfl
theorem FL_set (t : List Int) (j : Nat) : (FL t j).set (j % 4 * 2 + 0) (.int .i64 (foldF t j (j % 4) + t.getD j 0)) = FL t (j + 1) := by
  have h4 : j % 4 = 0 ∨ j % 4 = 1 ∨ j % 4 = 2 ∨ j % 4 = 3 := by omega
  rcases h4 with h4 | h4 | h4 | h4 <;> simp [FL, foldF, h4]
def fz (z : Int) : Nat := FloatKind.nearest .f64 z
def cxv (t : List Int) (n k : Nat) : Value := .complex .f64 (fz (resR t k n)) (fz (resI t k n))
def cL (t : List Int) (n : Nat) : Nat → List Value
  | 0 => [.complex .f64 0 0, .complex .f64 0 0, .complex .f64 0 0, .complex .f64 0 0]
  | k + 1 => (cL t n k).set k (cxv t n k)
theorem cL4 (t : List Int) (n : Nat) : cL t n 4 = [cxv t n 0, cxv t n 1, cxv t n 2, cxv t n 3] := by simp [cL]
theorem cL_len (t : List Int) (n : Nat) : ∀ k, (cL t n k).length = 4
  | 0 => rfl
  | k + 1 => by unfold cL; rw [List.length_set, cL_len t n k]
theorem op_bcx {M : Mc} {l : KL} {h : H} {x y : Operand} {a b : Nat} {k : FloatKind} {tys : Array TypeId} (hx : val l x = some (.float k a)) (hy : val l y = some (.float k b)) : Op1 M (.call ⟨.builtin .complex, #[x, y], tys⟩) l h (.complex k a b) h :=
  op_blt fun e he => by
    have h1 := he.val (x := x) (by simp [Op.operands, Call.operands]) hx
    have h2 := he.val (x := y) (by simp [Op.operands, Call.operands]) hy
    have hp : prun M.P (Builtin.complex_ tys 0 ⟨[.float k a, .float k b]⟩) = some (.complex k a b) := by
      show prun M.P (if k = k then pure (Value.complex k a b) else stuck "complex: parts of different kinds") = _
      rw [if_pos rfl]; rfl
    simp [aop, h1, h2, gd, gnd, hp]
theorem resAt (t : List Int) (n : Nat) {k : Nat} (h : k < 4) : apart Tryz.prog 50 ⟨[.int .i64 (resR t 0 n), .int .i64 (resI t 0 n), .int .i64 (resR t 1 n), .int .i64 (resI t 1 n), .int .i64 (resR t 2 n), .int .i64 (resI t 2 n), .int .i64 (resR t 3 n), .int .i64 (resI t 3 n)]⟩ (((k : Nat) : Int).toNat * 2) = some (.agg ⟨[.int .i64 (resR t k n), .int .i64 (resI t k n)]⟩) := by
  rw [part50 h]
  match k, h with
  | 0, _ | 1, _ | 2, _ | 3, _ => rfl
theorem c81r {t : List Int} {n : Nat} (ht0 : ∀ x ∈ t, x.natAbs ≤ 16) (hn : n ≤ 64) (hw : Wf h) (hG : ∀ a v, laidBase a = some v → G a = some v) :
    Cf (mz G) (.func (.func 81) #[] #[]) [.agg ⟨FL t n⟩, .int .i64 3] h fun r h' => r = .agg ⟨[.int .i64 (resR t 0 n), .int .i64 (resI t 0 n), .int .i64 (resR t 1 n), .int .i64 (resI t 1 n), .int .i64 (resR t 2 n), .int .i64 (resI t 2 n), .int .i64 (resR t 3 n), .int .i64 (resI t 3 n)]⟩ ∧ Grow h h' := by
  have hb := fun m => foldF_b ht0 m n
  have h1 : ∀ m, (numF [foldF t n 0, foldF t n 1, foldF t n 2, foldF t n 3] m).natAbs ≤ 2000 := fun m => by
    have b0 := hb 0
    have b1 := hb 1
    have b2 := hb 2
    have b3 := hb 3
    unfold numF
    rcases m with _ | _ | _ | _ | m <;> simp <;> omega
  have h2 : ∀ m, (numF [0, 0, 0, 0] m).natAbs ≤ 2000 := fun m => by
    unfold numF
    rcases m with _ | _ | _ | _ | m <;> simp
  have := c81 (G := G) (h := h) h1 h2 hw hG
  rw [allE4] at this
  have r0 := fold_res t (k := 0) (by decide) n
  have r1 := fold_res t (k := 1) (by decide) n
  have r2 := fold_res t (k := 2) (by decide) n
  have r3 := fold_res t (k := 3) (by decide) n
  rw [r0.1, r0.2, r1.1, r1.2, r2.1, r2.2, r3.1, r3.2]
  exact this
def resC (t : List Int) (n : Nat) : List Value := if tchk t = 0 then cL t n 4 else cL t n 0
set_option maxHeartbeats 4000000 in
theorem c22 {v : Value} {n : Nat} {t : List Int} (s : Sl G h 1 v n (t.map (.int .i64))) (hn : n < 1000000) (hw : Wf h) (hG : ∀ a v, laidBase a = some v → G a = some v) :
    Cf (mz G) (.func (.func 22) #[] #[]) [v] h fun r h' => r = .tuple #[.agg ⟨resC t n⟩, .int .i64 (tchk t)] ∧ Grow h h' := by
  obtain ⟨a, c, rfl⟩ := s.form
  have hl := s.length
  simp at hl
  have q30 := fun (h' : H) (g : Grow h h') => c30 (s.grow g) hn
  unfold resC
  by_cases hz : tchk t = 0
  · obtain ⟨k3, k4, k5⟩ := tchk_ok hz
    rw [hz] at q30
    rw [if_pos hz, hz]
    have hF0 : FL t 0 = [.int .i64 0, .int .i64 0, .int .i64 0, .int .i64 0, .int .i64 0, .int .i64 0, .int .i64 0, .int .i64 0] := rfl
    refine cf_enter0 51 [.cell 2 41, .tmp 3] Tryz.func22 rfl rfl rfl rfl ?_
    repeat' (first | with_reducible refine wo_nil ?_ | ((with_reducible refine wo_any ?_); first | ((with_reducible refine ik_move ?_); refine wo_op rfl (op_move rfl) rfl rfl ?_) | ((with_reducible refine ik_assign ?_); refine wo_op rfl (op_assign rfl) rfl rfl ?_) | ((with_reducible refine ik_alloc ?_); first | refine wo_op rfl (op_alloc zz41 zs41 rfl rfl rfl) rfl rfl ?_ | refine wo_op rfl (op_alloc zz123 zs123 rfl rfl rfl) rfl rfl ?_) | ((with_reducible refine ik_bin ?_); refine wo_op rfl (op_neq rfl rfl) rfl rfl ?_) | ((with_reducible refine ik_callb ?_); refine wo_op rfl (op_lenSl rfl Tryz.underlying22) rfl rfl ?_) | ((with_reducible refine ik_callv ?_); refine wo_op rfl (op_call rfl rfl (q30 _ gr_A)) rfl rfl ?_)) | with_reducible refine sq_norm ?_ | with_reducible refine wc_seq ?_ | with_reducible refine wc_region ?_ | with_reducible refine wc_skip ?_ | with_reducible refine wc_block ?_ | refine wc_iff rfl ?_)
    refine wc_loop (fun j : Nat => n - j) (fun j => [(0, .slice a n c), (2, .pointer (some ⟨h.nx, 0, some 0⟩)), (5, .pointer (some ⟨h.nx + 1, 0, some 0⟩)), (17, .slice a n c), (18, .int .i64 (n : Nat)), (19, .int .i64 (j : Nat))]) (fun j h' => (Wf h' ∧ Grow h h' ∧ At h' h.nx (.cells (cL t n 0) 41 4 false) ∧ At h' (h.nx + 1) (.cells (FL t j) 123 8 false)) ∧ j ≤ n) 0 (within_lk ⟨rfl, rfl, rfl, rfl, rfl, rfl, trivial⟩) ⟨⟨wf_A, gr_A, by unfold cL; exact at_A, by rw [hF0]; exact at_A⟩, Nat.zero_le _⟩ ?_
    rintro j ha ⟨⟨wa, ga, b0, b1⟩, hj⟩
    have l1 := b1.lt
    by_cases hlt : j < n
    · obtain ⟨ad, i1, i3⟩ := slI_at (s.grow ga) (i := (j : Int)) (q := j) hlt rfl
      have bt := getD_bound k4 j
      have fs := FL_set t j
      have hR4 : j % 4 < 4 := by omega
      have fa := FL_at t j hR4
      have fb := foldF_b k4 (j % 4) j
      have zl : (FL t j).length = 8 := rfl
      obtain ⟨R, hR⟩ : ∃ R, j % 4 = R := ⟨_, rfl⟩
      obtain ⟨A, hA⟩ : ∃ z, t.getD j 0 = z := ⟨_, rfl⟩
      rw [hR] at fs fa fb hR4
      rw [hA] at i3 bt fs
      obtain ⟨U, hU⟩ : ∃ z, foldF t j R = z := ⟨_, rfl⟩
      rw [hU] at fs fa fb
      obtain ⟨L, hL⟩ : ∃ L, FL t j = L := ⟨_, rfl⟩
      rw [hL] at b1 fs fa zl
      have w1 : IntKind.wrap .i64 (U + A) = U + A := w64 (by omega) (by omega)
      repeat' (first | with_reducible refine wo_nil ?_ | ((with_reducible refine wo_any ?_); first | ((with_reducible refine ik_move ?_); refine wo_op rfl (op_move rfl) rfl rfl ?_) | ((with_reducible refine ik_assign ?_); refine wo_op rfl (op_assign rfl) rfl rfl ?_) | ((with_reducible refine ik_indexAddr ?_); first | refine wo_op rfl (op_indexAddr rfl rfl i1) rfl rfl ?_ | refine wo_op rfl (op_idxArrO (b := h.nx + 1) (off := 0) (o := R * 2) rfl rfl Tryz.underlying123 zs50 (by omega) (by omega) (by omega)) rfl rfl ?_) | ((with_reducible refine ik_load ?_); first | refine wo_op rfl (op_ldCell rfl Tryz.underlying3 rfl i3) rfl rfl ?_ | refine wo_op rfl (op_ldIdx (b := h.nx + 1) (o := R * 2 + 0) rfl at_A Tryz.underlying3 rfl fa) rfl rfl ?_) | ((with_reducible refine ik_bin ?_); first | refine wo_op rfl (op_remN j 4 R rfl rfl rfl rfl (by decide) hR) rfl rfl ?_ | refine wo_op rfl (op_add' rfl rfl w1) rfl rfl ?_ | refine wo_op rfl (op_lss rfl rfl) rfl rfl ?_ | refine wo_op rfl (op_add' rfl rfl (w64 (by omega) (by omega))) rfl rfl ?_) | ((with_reducible refine ik_store ?_); refine wo_op0 rfl (op_stIdx (b := h.nx + 1) (o := R * 2 + 0) rfl rfl at_A rfl zs3 (by omega) rfl rfl) rfl ?_) | ((with_reducible refine ik_fieldAddr ?_); refine wo_op rfl (op_fieldAddr (o := 0) rfl Tryz.underlying50 rfl zs3 rfl) rfl rfl ?_)) | with_reducible refine sq_norm ?_ | with_reducible refine wc_seq ?_ | with_reducible refine wc_region ?_ | with_reducible refine wc_skip ?_ | with_reducible refine wc_block ?_ | with_reducible refine bq_norm ?_ | (refine wc_if rfl (fun hb => ?_) (fun hb => dead_A hb); (try simp only [decide_eq_true_eq, decide_eq_false_iff_not, Bool.not_eq_true', Bool.not_eq_false', Int.not_lt, Int.not_le, Decidable.not_not, not_true_eq_false, not_false_eq_true, beq_self_eq_true, reduceCtorEq] at hb)))
      exact lq_norm (j + 1) (by omega) (within_lk ⟨rfl, rfl, rfl, rfl, rfl, rfl, trivial⟩) ⟨⟨wf_A, gr_A, at_A, by rw [← fs]; exact at_A⟩, by omega⟩
    · have : j = n := by omega
      subst this
      have q81 := fun (h' : H) (w' : Wf h') => c81r (G := G) (h := h') (t := t) (n := j) k4 (by omega) w' hG
      unfold FL at b1 q81
      unfold cL at b0
      repeat' (first | with_reducible refine wo_nil ?_ | ((with_reducible refine wo_any ?_); first | ((with_reducible refine ik_move ?_); refine wo_op rfl (op_move rfl) rfl rfl ?_) | ((with_reducible refine ik_alloc ?_); refine wo_op rfl (op_alloc zz41 zs41 rfl rfl rfl) rfl rfl ?_) | ((with_reducible refine ik_bin ?_); refine wo_op rfl (op_lss rfl rfl) rfl rfl ?_) | ((with_reducible refine ik_load ?_); refine wo_op rfl (op_ldAgg rfl at_A Tryz.underlying123 rfl zs123 rfl rfl) rfl rfl ?_) | ((with_reducible refine ik_callv ?_); (refine wo_call rfl rfl rfl rfl (q81 _ wf_A) rfl rfl ?_; rintro _ _ ⟨rfl, hq⟩; all_goals ((try (have hqn := hq.nx)); (try simp only [H.nx_push, H.nx_set, H.nx_bump] at hqn))))) | with_reducible refine sq_norm ?_ | with_reducible refine wc_seq ?_ | with_reducible refine wc_region ?_ | with_reducible refine wc_exit ?_ | with_reducible refine wc_block ?_ | with_reducible refine sq_exit ?_ | with_reducible refine lq_exit ?_ | refine bq_eq rfl ?_ | (refine wc_if rfl (fun hb => dead_A hb) (fun hb => ?_); (try simp only [decide_eq_true_eq, decide_eq_false_iff_not, Bool.not_eq_true', Bool.not_eq_false', Int.not_lt, Int.not_le, Decidable.not_not, not_true_eq_false, not_false_eq_true, beq_self_eq_true, reduceCtorEq] at hb)))
      refine wc_loop (fun k : Nat => 4 - k) (fun k => [(2, .pointer (some ⟨h.nx, 0, some 0⟩)), (8, .pointer (some ⟨ha.nx, 0, some 0⟩)), (35, .agg ⟨[.int .i64 (resR t 0 j), .int .i64 (resI t 0 j), .int .i64 (resR t 1 j), .int .i64 (resI t 1 j), .int .i64 (resR t 2 j), .int .i64 (resI t 2 j), .int .i64 (resR t 3 j), .int .i64 (resI t 3 j)]⟩), (36, .int .i64 (k : Nat))]) (fun k h' => (Wf h' ∧ Grow h h' ∧ At h' h.nx (.cells [.complex .f64 0 0, .complex .f64 0 0, .complex .f64 0 0, .complex .f64 0 0] 41 4 false) ∧ At h' ha.nx (.cells (cL t j k) 41 4 false)) ∧ k ≤ 4) 0 (within_lk ⟨rfl, rfl, rfl, rfl, trivial⟩) ⟨⟨wf_A, gr_A, at_A, by unfold cL; exact at_A⟩, Nat.zero_le _⟩ ?_
      rintro k hb1 ⟨⟨wb, gb, c0, c1⟩, hk⟩
      have lb := c1.lt
      by_cases hk4 : k < 4
      · have pv := resAt t j hk4
        have zl := cL_len t j k
        have zn : cL t j (k + 1) = (cL t j k).set k (.complex .f64 (FloatKind.nearest .f64 (resR t k j)) (FloatKind.nearest .f64 (resI t k j))) := rfl
        obtain ⟨P, hP⟩ : ∃ z, resR t k j = z := ⟨_, rfl⟩
        obtain ⟨Q, hQ⟩ : ∃ z, resI t k j = z := ⟨_, rfl⟩
        rw [hP, hQ] at pv zn
        obtain ⟨L, hL⟩ : ∃ L, cL t j k = L := ⟨_, rfl⟩
        rw [hL] at c1 zl zn
        repeat' (first | with_reducible refine wo_nil ?_ | ((with_reducible refine wo_any ?_); first | ((with_reducible refine ik_move ?_); refine wo_op rfl (op_move rfl) rfl rfl ?_) | ((with_reducible refine ik_assign ?_); refine wo_op rfl (op_assign rfl) rfl rfl ?_) | ((with_reducible refine ik_index ?_); refine wo_op rfl (op_idxVal rfl rfl Tryz.underlying123 zs50 (by omega) (by omega) pv) rfl rfl ?_) | ((with_reducible refine ik_convert ?_); refine wo_op rfl (op_cvif rfl Tryz.underlying3 Tryz.underlying52 rfl) rfl rfl ?_) | ((with_reducible refine ik_callb ?_); refine wo_op rfl (op_bcx rfl rfl) rfl rfl ?_) | ((with_reducible refine ik_indexAddr ?_); refine wo_op rfl (op_idxArrO (b := ha.nx) (off := 0) (o := k) rfl rfl Tryz.underlying41 zs40 (by omega) (by omega) (by omega)) rfl rfl ?_) | ((with_reducible refine ik_store ?_); first | refine wo_op0 rfl (op_stIdx (b := ha.nx) (o := k) rfl rfl at_A rfl zs40 (by omega) rfl rfl) rfl ?_ | refine wo_op0 rfl (op_stAgg rfl rfl at_A zs50 rfl rfl rfl rfl) rfl ?_) | ((with_reducible refine ik_alloc ?_); refine wo_op rfl (op_alloc zz50 zs50 rfl rfl rfl) rfl rfl ?_) | ((with_reducible refine ik_bin ?_); first | refine wo_op rfl (op_lss rfl rfl) rfl rfl ?_ | refine wo_op rfl (op_add' rfl rfl (w64 (by omega) (by omega))) rfl rfl ?_) | ((with_reducible refine ik_load ?_); refine wo_op rfl (op_ldAt rfl at_A Tryz.underlying3 rfl rfl) rfl rfl ?_) | ((with_reducible refine ik_fieldAddr ?_); first | refine wo_op rfl (op_fieldAddr (o := 0) rfl Tryz.underlying50 rfl zs3 rfl) rfl rfl ?_ | refine wo_op rfl (op_fieldAddr (o := 1) rfl Tryz.underlying50 rfl zs3 rfl) rfl rfl ?_)) | with_reducible refine sq_norm ?_ | with_reducible refine wc_seq ?_ | with_reducible refine wc_region ?_ | with_reducible refine wc_skip ?_ | with_reducible refine wc_block ?_ | with_reducible refine bq_norm ?_ | (refine wc_if rfl (fun hb => ?_) (fun hb => dead_A hb); (try simp only [decide_eq_true_eq, decide_eq_false_iff_not, Bool.not_eq_true', Bool.not_eq_false', Int.not_lt, Int.not_le, Decidable.not_not, not_true_eq_false, not_false_eq_true, beq_self_eq_true, reduceCtorEq] at hb)))
        exact lq_norm (k + 1) (by omega) (within_lk ⟨rfl, rfl, rfl, rfl, trivial⟩) ⟨⟨wf_A, gr_A, at_A, by rw [zn]; exact at_A⟩, by omega⟩
      · have : k = 4 := by omega
        subst this
        rw [cL4] at c1 ⊢
        repeat' (first | with_reducible refine wo_nil ?_ | ((with_reducible refine wo_any ?_); first | ((with_reducible refine ik_assign ?_); refine wo_op rfl (op_assign rfl) rfl rfl ?_) | ((with_reducible refine ik_bin ?_); refine wo_op rfl (op_lss rfl rfl) rfl rfl ?_) | ((with_reducible refine ik_store ?_); refine wo_op0 rfl (op_stAgg rfl rfl at_A zs41 rfl rfl rfl rfl) rfl ?_) | ((with_reducible refine ik_load ?_); refine wo_op rfl (op_ldAgg rfl at_A Tryz.underlying41 rfl zs41 rfl rfl) rfl rfl ?_)) | with_reducible refine sq_norm ?_ | with_reducible refine wc_seq ?_ | with_reducible refine wc_region ?_ | with_reducible refine wc_ret ?_ | with_reducible refine wc_exit ?_ | with_reducible refine sq_exit ?_ | with_reducible refine lq_exit ?_ | refine bq_eq rfl ?_ | refine wc_iff rfl ?_)
        exact rqc2 rfl (ldAgg at_A Tryz.underlying41 rfl zs41 rfl rfl) rfl ⟨rfl, gr_A⟩
  · rw [if_neg hz]
    refine cf_enter0 51 [.cell 2 41, .tmp 3] Tryz.func22 rfl rfl rfl rfl ?_
    repeat' (first | with_reducible refine wo_nil ?_ | ((with_reducible refine wo_any ?_); first | ((with_reducible refine ik_move ?_); refine wo_op rfl (op_move rfl) rfl rfl ?_) | ((with_reducible refine ik_assign ?_); refine wo_op rfl (op_assign rfl) rfl rfl ?_) | ((with_reducible refine ik_alloc ?_); refine wo_op rfl (op_alloc zz41 zs41 rfl rfl rfl) rfl rfl ?_) | ((with_reducible refine ik_bin ?_); refine wo_op rfl (op_neq rfl rfl) rfl rfl ?_) | ((with_reducible refine ik_build ?_); refine wo_op rfl (op_buildT rfl zz41 zp41 rfl rfl) rfl rfl ?_) | ((with_reducible refine ik_store ?_); refine wo_op0 rfl (op_stAgg rfl rfl at_A zs41 rfl rfl rfl rfl) rfl ?_) | ((with_reducible refine ik_callv ?_); refine wo_op rfl (op_call rfl rfl (q30 _ gr_A)) rfl rfl ?_)) | with_reducible refine sq_norm ?_ | with_reducible refine wc_seq ?_ | with_reducible refine wc_region ?_ | with_reducible refine wc_ret ?_ | with_reducible refine sq_ret ?_ | (refine wc_if rfl (fun hb => ?_) (fun hb => dead_A hb); (try simp only [decide_eq_true_eq, decide_eq_false_iff_not, Bool.not_eq_true', Bool.not_eq_false', Int.not_lt, Int.not_le, Decidable.not_not, not_true_eq_false, not_false_eq_true, beq_self_eq_true, reduceCtorEq] at hb)))
    exact rqc2 rfl (ldAgg at_A Tryz.underlying41 rfl zs41 rfl rfl) rfl ⟨rfl, gr_A⟩
end Go.Proofs.YtccdcekcbbpohaaGreatDoor

/- Complex numbers that are the same. -/
namespace Go.Proofs.YtccdcekcbbpohaaGreatDoor
open Go Go.Ab Go.Fl
attribute [local irreducible] SeqQ BlkQ LpQ RetQ Wc Wo WD WX Op1 Op1q Op1a Cf Cl From
attribute [local irreducible] Ieee.Format.order Ieee.Format.read Ieee.Format.nearest Ieee.Format.write Ieee.Format.mul Ieee.Format.div Ieee.Datum.order Ieee.Datum.integral smpE smp smpW K J U sumN lchk tchk trE hdrE appL undL undA undI wr ghoL rnd mulL dghL dghA rngE notN pR pI resR resI tR tI rowE allE fz
set_option maxRecDepth 10000
variable {G : Base} {h : H}

end Go.Proofs.YtccdcekcbbpohaaGreatDoor
