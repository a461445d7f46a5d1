/- Responses by the reference; numbers turned. -/
import Derived.Test.YtccdcekcbbpohaaGreatDoorG2
set_option linter.all false
/- Responses, by the reference. -/
namespace Go.Proofs.YtccdcekcbbpohaaGreatDoor
open Go Go.Ab Go.Fl
attribute [local irreducible] SeqQ BlkQ LpQ RetQ Wc Wo WD WX Op1 Op1q Op1a Cf Cl From
attribute [local irreducible] Ieee.Format.order Ieee.Format.read Ieee.Format.nearest Ieee.Format.write Ieee.Format.mul Ieee.Format.div Ieee.Datum.order Ieee.Datum.integral smpE smp smpW K J U sumN lchk tchk trE hdrE appL undL undA undI wr ghoL rnd mulL dghL dghA rngE notN
set_option maxRecDepth 10000
variable {G : Base} {h : H}

def pR : Nat → Int
  | 0 => 1
  | 1 => 0
  | 2 => -1
  | _ => 0
def pI : Nat → Int
  | 0 => 0
  | 1 => 1
  | 2 => 0
  | _ => -1
theorem pR_b (q : Nat) : (pR q).natAbs ≤ 1 := by unfold pR; split <;> decide
theorem pI_b (q : Nat) : (pI q).natAbs ≤ 1 := by unfold pI; split <;> decide
def resR (t : List Int) (k : Nat) : Nat → Int
  | 0 => 0
  | j + 1 => resR t k j + t.getD j 0 * pR (3 * j * k % 4)
def resI (t : List Int) (k : Nat) : Nat → Int
  | 0 => 0
  | j + 1 => resI t k j + t.getD j 0 * pI (3 * j * k % 4)
attribute [local irreducible] pR pI resR resI
end Go.Proofs.YtccdcekcbbpohaaGreatDoor

/- Numbers turned, by the program. -/
namespace Go.Proofs.YtccdcekcbbpohaaGreatDoor
open Go Go.Ab Go.Fl
attribute [local irreducible] SeqQ BlkQ LpQ RetQ Wc Wo WD WX Op1 Op1q Op1a Cf Cl From
attribute [local irreducible] Ieee.Format.order Ieee.Format.read Ieee.Format.nearest Ieee.Format.write Ieee.Format.mul Ieee.Format.div Ieee.Datum.order Ieee.Datum.integral smpE smp smpW K J U sumN lchk tchk trE hdrE appL undL undA undI wr ghoL rnd mulL dghL dghA rngE notN pR pI resR resI
set_option maxRecDepth 10000
variable {G : Base} {h : H}

def tR (x y : Nat → Int) (k : Nat) : Nat → Int
  | 0 => 0
  | n + 1 => tR x y k n + (x n * pR (3 * k * n % 4) - y n * pI (3 * k * n % 4))
def tI (x y : Nat → Int) (k : Nat) : Nat → Int
  | 0 => 0
  | n + 1 => tI x y k n + (x n * pI (3 * k * n % 4) + y n * pR (3 * k * n % 4))
def rowE (x y : Nat → Int) (k : Nat) (L : List Value) : Nat → List Value
  | 0 => L
  | n + 1 => ((rowE x y k L n).set (k * 2 + 0) (.int .i64 (tR x y k (n + 1)))).set (k * 2 + 1) (.int .i64 (tI x y k (n + 1)))
def allE (x y : Nat → Int) : Nat → List Value
  | 0 => [.int .i64 0, .int .i64 0, .int .i64 0, .int .i64 0, .int .i64 0, .int .i64 0, .int .i64 0, .int .i64 0]
  | k + 1 => rowE x y k (allE x y k) 4
theorem tR_b {x y : Nat → Int} (hx : ∀ m, (x m).natAbs ≤ 2000) (hy : ∀ m, (y m).natAbs ≤ 2000) (k : Nat) : ∀ n, (tR x y k n).natAbs ≤ n * 4000
  | 0 => by unfold tR; decide
  | n + 1 => by
    have ih := tR_b hx hy k n
    have p1 := prod_bound (hx n) (pR_b (3 * k * n % 4))
    have p2 := prod_bound (hy n) (pI_b (3 * k * n % 4))
    unfold tR
    omega
theorem tI_b {x y : Nat → Int} (hx : ∀ m, (x m).natAbs ≤ 2000) (hy : ∀ m, (y m).natAbs ≤ 2000) (k : Nat) : ∀ n, (tI x y k n).natAbs ≤ n * 4000
  | 0 => by unfold tI; decide
  | n + 1 => by
    have ih := tI_b hx hy k n
    have p1 := prod_bound (hx n) (pI_b (3 * k * n % 4))
    have p2 := prod_bound (hy n) (pR_b (3 * k * n % 4))
    unfold tI
    omega
theorem rowE_len (x y : Nat → Int) (k : Nat) (L : List Value) : ∀ n, (rowE x y k L n).length = L.length
  | 0 => by unfold rowE; rfl
  | n + 1 => by unfold rowE; rw [List.length_set, List.length_set, rowE_len x y k L n]
theorem allE_len (x y : Nat → Int) : ∀ k, (allE x y k).length = 8
  | 0 => rfl
  | k + 1 => by unfold allE; rw [rowE_len, allE_len x y k]
theorem row_re {x y : Nat → Int} {k : Nat} {L : List Value} (h0 : L[k * 2 + 0]? = some (.int .i64 0)) : ∀ n, (rowE x y k L n)[k * 2 + 0]? = some (.int .i64 (tR x y k n))
  | 0 => by unfold rowE tR; exact h0
  | n + 1 => by
    have hl : k * 2 + 0 < L.length := (List.getElem?_eq_some_iff.1 h0).1
    unfold rowE
    rw [List.getElem?_set_ne (by omega), List.getElem?_set_self (by rw [rowE_len]; exact hl)]
theorem row_im {x y : Nat → Int} {k : Nat} {L : List Value} (h0 : L[k * 2 + 1]? = some (.int .i64 0)) : ∀ n, (rowE x y k L n)[k * 2 + 1]? = some (.int .i64 (tI x y k n))
  | 0 => by unfold rowE tI; exact h0
  | n + 1 => by
    have hl : k * 2 + 1 < L.length := (List.getElem?_eq_some_iff.1 h0).1
    unfold rowE
    rw [List.getElem?_set_self (by rw [List.length_set, rowE_len]; exact hl)]
theorem row_ne {x y : Nat → Int} {k i : Nat} {L : List Value} (h0 : i ≠ k * 2) (h1 : i ≠ k * 2 + 1) : ∀ n, (rowE x y k L n)[i]? = L[i]?
  | 0 => by unfold rowE; rfl
  | n + 1 => by
    unfold rowE
    rw [List.getElem?_set_ne (by omega), List.getElem?_set_ne (by omega), row_ne h0 h1 n]
theorem all_zero (x y : Nat → Int) : ∀ k i, k * 2 ≤ i → i < 8 → (allE x y k)[i]? = some (.int .i64 0)
  | 0, i, _, h => by
    unfold allE
    rcases i with _ | _ | _ | _ | _ | _ | _ | _ | i
    all_goals first | rfl | omega
  | k + 1, i, h, h8 => by
    unfold allE
    rw [row_ne (by omega) (by omega), all_zero x y k i (by omega) h8]
attribute [local irreducible] tR tI
theorem allE4 (x y : Nat → Int) : allE x y 4 = [.int .i64 (tR x y 0 4), .int .i64 (tI x y 0 4), .int .i64 (tR x y 1 4), .int .i64 (tI x y 1 4), .int .i64 (tR x y 2 4), .int .i64 (tI x y 2 4), .int .i64 (tR x y 3 4), .int .i64 (tI x y 3 4)] := by simp [allE, rowE]
attribute [local irreducible] rowE allE
def numF (F : List Int) (m : Nat) : Int := F.getD m 0
theorem op_idxVal {M : Mc} {l : KL} {h : H} {t : TypeId} {x y : Operand} {v : Value} {cs : Array Value} {i : Int} {k : IntKind} {len n : Nat} {et : TypeId} (hx : val l x = some (.agg cs)) (hy : val l y = some (.int k i)) (hu : M.P.underlying t = some (.array len et)) (hn : tsz M.P et = some n) (h0 : 0 ≤ i) (h1 : i < len) (hv : apart M.P et cs (i.toNat * n) = some v) : Op1 M (.index t x y) l h v h := op_idxArr hx hy hu hn h0 h1 hv
/-- A pair of eight integers. -/
theorem part50 {a0 a1 a2 a3 a4 a5 a6 a7 : Int} {n : Nat} (h : n < 4) : apart Tryz.prog 50 ⟨[.int .i64 a0, .int .i64 a1, .int .i64 a2, .int .i64 a3, .int .i64 a4, .int .i64 a5, .int .i64 a6, .int .i64 a7]⟩ (((n : Nat) : Int).toNat * 2) = some (.agg ⟨[.int .i64 (numF [a0, a2, a4, a6] n), .int .i64 (numF [a1, a3, a5, a7] n)]⟩) := by
  rcases n with _ | _ | _ | _ | n
  · rfl
  · rfl
  · rfl
  · rfl
  · omega
theorem powAt {q : Nat} (hG : ∀ a v, laidBase a = some v → G a = some v) (hq : q < 4) : acells G h 2 ⟨0, q * 2, none⟩ = some [.int .i64 (pR q), .int .i64 (pI q)] := by
  have g0 : G ⟨0, q * 2, none⟩ = some (.int .i64 (pR q)) := hG _ _ (by
    unfold pR
    match q, hq with
    | 0, _ | 1, _ | 2, _ | 3, _ => rfl)
  have g1 : G ⟨0, q * 2 + 1, none⟩ = some (.int .i64 (pI q)) := hG _ _ (by
    unfold pI
    match q, hq with
    | 0, _ | 1, _ | 2, _ | 3, _ => rfl)
  have g2 : G (aadd ⟨0, q * 2, none⟩ 1) = some (.int .i64 (pI q)) := g1
  simp [acells, baseCells, g0, g2]
set_option maxHeartbeats 4000000 in
theorem c81 {a0 a1 a2 a3 a4 a5 a6 a7 : Int} (hx : ∀ m, (numF [a0, a2, a4, a6] m).natAbs ≤ 2000) (hy : ∀ m, (numF [a1, a3, a5, a7] m).natAbs ≤ 2000) (hw : Wf h) (hG : ∀ a v, laidBase a = some v → G a = some v) :
    Cf (mz G) (.func (.func 81) #[] #[]) [.agg ⟨[.int .i64 a0, .int .i64 a1, .int .i64 a2, .int .i64 a3, .int .i64 a4, .int .i64 a5, .int .i64 a6, .int .i64 a7]⟩, .int .i64 3] h fun r h' => r = .agg ⟨allE (numF [a0, a2, a4, a6]) (numF [a1, a3, a5, a7]) 4⟩ ∧ Grow h h' := by
  obtain ⟨x, hX⟩ : ∃ x, numF [a0, a2, a4, a6] = x := ⟨_, rfl⟩
  obtain ⟨y, hY⟩ : ∃ y, numF [a1, a3, a5, a7] = y := ⟨_, rfl⟩
  have prt := fun (n : Nat) (hn : n < 4) => part50 (a0 := a0) (a1 := a1) (a2 := a2) (a3 := a3) (a4 := a4) (a5 := a5) (a6 := a6) (a7 := a7) hn
  rw [hX] at hx ⊢
  rw [hY] at hy ⊢
  rw [hX, hY] at prt
  clear hX hY
  have hE0 : allE x y 0 = [.int .i64 0, .int .i64 0, .int .i64 0, .int .i64 0, .int .i64 0, .int .i64 0, .int .i64 0, .int .i64 0] := by unfold allE; rfl
  have hR0 : ∀ k, rowE x y k (allE x y k) 0 = allE x y k := fun k => by rw [rowE]
  refine cf_enter0 65 [.cell 4 123] Tryz.func81 rfl rfl rfl rfl ?_
  repeat' (first | with_reducible refine wo_nil ?_ | ((with_reducible refine wo_any ?_); first | ((with_reducible refine ik_move ?_); refine wo_op rfl (op_move rfl) rfl rfl ?_) | ((with_reducible refine ik_box ?_); refine wo_op rfl (op_boxAgg rfl zs123 rfl) rfl rfl ?_) | ((with_reducible refine ik_alloc ?_); refine wo_op rfl (op_alloc zz123 zs123 rfl rfl rfl) rfl rfl ?_)) | with_reducible refine sq_norm ?_ | with_reducible refine wc_seq ?_ | with_reducible refine wc_region ?_ | with_reducible refine wc_block ?_)
  refine wc_loop (fun k : Nat => 4 - k) (fun k => [(1, .int .i64 3), (2, .pointer (some ⟨h.nx, 0, some 0⟩)), (4, .pointer (some ⟨h.nx + 1, 0, some 0⟩)), (5, .pointer (some ⟨h.nx + 2, 0, some 0⟩)), (10, .int .i64 (k : Nat))]) (fun k h' => (Wf h' ∧ Grow h h' ∧ At h' h.nx (.cells [.int .i64 a0, .int .i64 a1, .int .i64 a2, .int .i64 a3, .int .i64 a4, .int .i64 a5, .int .i64 a6, .int .i64 a7] 123 8 false) ∧ At h' (h.nx + 1) (.cells [.int .i64 0, .int .i64 0, .int .i64 0, .int .i64 0, .int .i64 0, .int .i64 0, .int .i64 0, .int .i64 0] 123 8 false) ∧ At h' (h.nx + 2) (.cells (allE x y k) 123 8 false)) ∧ k ≤ 4) 0 (within_lk ⟨rfl, rfl, rfl, rfl, rfl, trivial⟩) ⟨⟨wf_A, gr_A, at_A, at_A, by rw [hE0]; exact at_A⟩, Nat.zero_le _⟩ ?_
  rintro k ha ⟨⟨wa, ga, b0, b1, b2⟩, hk⟩
  have l2 := b2.lt
  by_cases hlt : k < 4
  · repeat' (first | with_reducible refine wo_nil ?_ | ((with_reducible refine wo_any ?_); first | ((with_reducible refine ik_move ?_); refine wo_op rfl (op_move rfl) rfl rfl ?_) | ((with_reducible refine ik_assign ?_); refine wo_op rfl (op_assign rfl) rfl rfl ?_) | ((with_reducible refine ik_bin ?_); refine wo_op rfl (op_lss rfl rfl) rfl rfl ?_) | ((with_reducible refine ik_load ?_); refine wo_op rfl (op_ldAgg rfl at_A Tryz.underlying123 rfl zs123 rfl rfl) rfl rfl ?_)) | with_reducible refine sq_norm ?_ | with_reducible refine wc_seq ?_ | with_reducible refine wc_region ?_ | with_reducible refine wc_skip ?_ | with_reducible refine wc_block ?_ | (refine wc_if rfl (fun hb => ?_) (fun hb => dead_A hb); (try simp only [decide_eq_true_eq, decide_eq_false_iff_not, Bool.not_eq_true', Bool.not_eq_false', Int.not_lt, Int.not_le, Decidable.not_not, not_true_eq_false, not_false_eq_true, beq_self_eq_true, reduceCtorEq] at hb)))
    refine wc_loop (fun n : Nat => 4 - n) (fun n => [(1, .int .i64 3), (2, .pointer (some ⟨h.nx, 0, some 0⟩)), (4, .pointer (some ⟨h.nx + 1, 0, some 0⟩)), (5, .pointer (some ⟨h.nx + 2, 0, some 0⟩)), (6, .int .i64 (k : Nat)), (10, .int .i64 (k : Nat)), (13, .agg ⟨[.int .i64 a0, .int .i64 a1, .int .i64 a2, .int .i64 a3, .int .i64 a4, .int .i64 a5, .int .i64 a6, .int .i64 a7]⟩), (14, .int .i64 (n : Nat))]) (fun n h' => (Wf h' ∧ Grow h h' ∧ At h' h.nx (.cells [.int .i64 a0, .int .i64 a1, .int .i64 a2, .int .i64 a3, .int .i64 a4, .int .i64 a5, .int .i64 a6, .int .i64 a7] 123 8 false) ∧ At h' (h.nx + 1) (.cells [.int .i64 0, .int .i64 0, .int .i64 0, .int .i64 0, .int .i64 0, .int .i64 0, .int .i64 0, .int .i64 0] 123 8 false) ∧ At h' (h.nx + 2) (.cells (rowE x y k (allE x y k) n) 123 8 false)) ∧ n ≤ 4) 0 (within_lk ⟨rfl, rfl, rfl, rfl, rfl, rfl, rfl, rfl, trivial⟩) ⟨⟨wf_A, gr_A, at_A, at_A, by rw [hR0]; exact at_A⟩, Nat.zero_le _⟩ ?_
    clear wa ga b0 b1 b2 l2 hb
    rintro n hn ⟨⟨wn, gn, b0, b1, b2⟩, hn4⟩
    have l2 := b2.lt
    by_cases hnt : n < 4
    · have z0 := row_re (x := x) (y := y) (all_zero x y k (k * 2 + 0) (by omega) (by omega)) n
      have z1 := row_im (x := x) (y := y) (all_zero x y k (k * 2 + 1) (by omega) (by omega)) n
      have zl : (rowE x y k (allE x y k) n).length = 8 := by rw [rowE_len, allE_len]
      have zn : rowE x y k (allE x y k) (n + 1) = ((rowE x y k (allE x y k) n).set (k * 2 + 0) (.int .i64 (tR x y k (n + 1)))).set (k * 2 + 1) (.int .i64 (tI x y k (n + 1))) := by rw [rowE]
      have eR : tR x y k (n + 1) = tR x y k n + (x n * pR (3 * k * n % 4) - y n * pI (3 * k * n % 4)) := by rw [tR]
      have eI : tI x y k (n + 1) = tI x y k n + (x n * pI (3 * k * n % 4) + y n * pR (3 * k * n % 4)) := by rw [tI]
      have bR := tR_b hx hy k n
      have bI := tI_b hx hy k n
      have pv := prt n hnt
      have bx := hx n
      have bY := hy n
      have hkk : (3 * (k : Int)).natAbs ≤ 12 := by omega
      have hkn := prod_bound hkk (show (n : Int).natAbs ≤ 4 by omega)
      have o1 : IntKind.wrap .i64 (3 * (k : Int)) = 3 * (k : Int) := w64 (by omega) (by omega)
      have o2 : IntKind.wrap .i64 (3 * (k : Int) * (n : Int)) = 3 * (k : Int) * (n : Int) := w64 (by omega) (by omega)
      have hA : 3 * (k : Int) * (n : Int) = ((3 * k * n : Nat) : Int) := by simp
      have hQ4 : 3 * k * n % 4 < 4 := by omega
      obtain ⟨Q, hQ⟩ : ∃ Q, 3 * k * n % 4 = Q := ⟨_, rfl⟩
      rw [hQ] at eR eI hQ4
      have pw := powAt (h := hn) hG hQ4
      have bP := pR_b Q
      have bS := pI_b Q
      obtain ⟨P, hP⟩ : ∃ z, pR Q = z := ⟨_, rfl⟩
      obtain ⟨S, hS⟩ : ∃ z, pI Q = z := ⟨_, rfl⟩
      obtain ⟨X, hX⟩ : ∃ z, x n = z := ⟨_, rfl⟩
      obtain ⟨Y, hY⟩ : ∃ z, y n = z := ⟨_, rfl⟩
      obtain ⟨U, hU⟩ : ∃ z, tR x y k n = z := ⟨_, rfl⟩
      obtain ⟨V, hV⟩ : ∃ z, tI x y k n = z := ⟨_, rfl⟩
      rw [hP, hS] at pw
      rw [hP] at bP
      rw [hS] at bS
      rw [hU, hP, hS, hX, hY] at eR
      rw [hV, hP, hS, hX, hY] at eI
      rw [hX, hY] at pv
      rw [hX] at bx
      rw [hY] at bY
      rw [hU] at bR z0
      rw [hV] at bI z1
      have m1 := prod_bound bx bP
      have m2 := prod_bound bY bS
      have m3 := prod_bound bx bS
      have m4 := prod_bound bY bP
      have w1 : IntKind.wrap .i64 (X * P) = X * P := w64 (by omega) (by omega)
      have w2 : IntKind.wrap .i64 (Y * S) = Y * S := w64 (by omega) (by omega)
      have w3 : IntKind.wrap .i64 (X * S) = X * S := w64 (by omega) (by omega)
      have w4 : IntKind.wrap .i64 (Y * P) = Y * P := w64 (by omega) (by omega)
      have w5 : IntKind.wrap .i64 (X * P - Y * S) = X * P - Y * S := w64 (by omega) (by omega)
      have w6 : IntKind.wrap .i64 (X * S + Y * P) = X * S + Y * P := w64 (by omega) (by omega)
      have w7 : IntKind.wrap .i64 (U + (X * P - Y * S)) = tR x y k (n + 1) := by rw [eR]; exact w64 (by omega) (by omega)
      have w8 : IntKind.wrap .i64 (V + (X * S + Y * P)) = tI x y k (n + 1) := by rw [eI]; exact w64 (by omega) (by omega)
      obtain ⟨L, hL⟩ : ∃ L, rowE x y k (allE x y k) n = L := ⟨_, rfl⟩
      rw [hL] at b2 z0 z1 zl zn
      have z2 : (L.set (k * 2 + 0) (.int .i64 (tR x y k (n + 1))))[k * 2 + 1]? = some (.int .i64 V) := by rw [List.getElem?_set_ne (by omega)]; exact z1
      repeat' (first | with_reducible refine wo_nil ?_ | ((with_reducible refine wo_any ?_); first | ((with_reducible refine ik_move ?_); refine wo_op rfl (op_move rfl) rfl rfl ?_) | ((with_reducible refine ik_assign ?_); refine wo_op rfl (op_assign rfl) rfl rfl ?_) | ((with_reducible refine ik_index ?_); refine wo_op rfl (op_idxVal rfl rfl Tryz.underlying123 zs50 (by omega) (by omega) pv) rfl rfl ?_) | ((with_reducible refine ik_bin ?_); first | refine wo_op rfl (op_mul' rfl rfl o1) rfl rfl ?_ | refine wo_op rfl (op_mul' rfl rfl o2) rfl rfl ?_ | refine wo_op rfl (op_remN (3 * k * n) 4 Q rfl rfl hA rfl (by decide) hQ) rfl rfl ?_ | refine wo_op rfl (op_lss rfl rfl) rfl rfl ?_ | refine wo_op rfl (op_add' rfl rfl (w64 (by omega) (by omega))) rfl rfl ?_) | ((with_reducible refine ik_indexAddr ?_); refine wo_op rfl (op_idxArrO (b := 0) (off := 0) (o := Q * 2) rfl rfl Tryz.underlying123 zs50 (by omega) (by omega) (by omega)) rfl rfl ?_) | ((with_reducible refine ik_load ?_); refine wo_op rfl (op_ldCells rfl Tryz.underlying50 rfl zs50 pw) rfl rfl ?_) | ((with_reducible refine ik_store ?_); refine wo_op0 rfl (op_stAgg rfl rfl at_A zs50 rfl rfl rfl rfl) rfl ?_) | ((with_reducible refine ik_alloc ?_); refine wo_op rfl (op_alloc zz50 zs50 rfl rfl rfl) rfl rfl ?_)) | ((with_reducible refine xk_any ?_); ((with_reducible refine xk_as0 ?_); first | ((with_reducible refine xk_move ?_); refine wx_q (wt_none rfl) rfl rfl (op_q rfl (op_move rfl)) rfl rfl rfl ?_) | ((with_reducible refine xk_bin ?_); first | refine wx_q (wt_none rfl) rfl rfl (op_q rfl (op_mul' rfl rfl w1)) rfl rfl rfl ?_ | refine wx_q (wt_none rfl) rfl rfl (op_q rfl (op_mul' rfl rfl w2)) rfl rfl rfl ?_ | refine wx_q (wt_none rfl) rfl rfl (op_q rfl (op_mul' rfl rfl w3)) rfl rfl rfl ?_ | refine wx_q (wt_none rfl) rfl rfl (op_q rfl (op_mul' rfl rfl w4)) rfl rfl rfl ?_ | refine wx_q (wt_none rfl) rfl rfl (op_q rfl (op_sub' rfl rfl w5)) rfl rfl rfl ?_ | refine wx_q (wt_none rfl) rfl rfl (op_q rfl (op_add' rfl rfl w6)) rfl rfl rfl ?_ | refine wx_q (wt_none rfl) rfl rfl (op_q rfl (op_add' rfl rfl w7)) rfl rfl rfl ?_ | refine wx_q (wt_none rfl) rfl rfl (op_q rfl (op_add' rfl rfl w8)) rfl rfl rfl ?_) | ((with_reducible refine xk_indexAddr ?_); refine wx_q (wt_none rfl) rfl rfl (op_q rfl (op_idxArrO (b := h.nx + 2) (off := 0) (o := k * 2) rfl rfl Tryz.underlying123 zs50 (by omega) (by omega) (by omega))) rfl rfl rfl ?_) | ((with_reducible refine xk_load ?_); first | refine wx_h0 (wt_none rfl) rfl (op_q rfl (op_ldIdx rfl at_A Tryz.underlying3 rfl z0)) rfl rfl rfl ?_ | refine wx_h0 (wt_none rfl) rfl (op_q rfl (op_ldIdx rfl at_A Tryz.underlying3 rfl z2)) rfl rfl rfl ?_ | refine wx_h0 (wt_none rfl) rfl (op_q rfl (op_ldAt rfl at_A Tryz.underlying3 rfl rfl)) rfl rfl rfl ?_) | ((with_reducible refine xk_store ?_); first | refine wx_ee0 (wt_none rfl) rfl rfl (op_stIdx (b := h.nx + 2) (o := k * 2 + 0) rfl rfl at_A rfl zs3 (by omega) rfl rfl) rfl ?_ | refine wx_ee0 (wt_none rfl) rfl rfl (op_stIdx (b := h.nx + 2) (o := k * 2 + 1) rfl rfl at_A rfl zs3 (by rw [List.length_set]; omega) rfl rfl) rfl ?_) | ((with_reducible refine xk_fieldAddr ?_); first | refine wx_q (wt_none rfl) rfl rfl (op_q rfl (op_fieldAddr (o := 0) rfl Tryz.underlying50 rfl zs3 rfl)) rfl rfl rfl ?_ | refine wx_q (wt_none rfl) rfl rfl (op_q rfl (op_fieldAddr (o := 1) rfl Tryz.underlying50 rfl zs3 rfl)) rfl rfl rfl ?_) | with_reducible refine wx_nil0 ?_ ?_)) | with_reducible exact obl_nil | with_reducible refine obl_cons ?_ ?_ | ((with_reducible refine ik_obs ?_); first | exact obs_nil | refine obs_skip rfl ?_ | refine obs_chkn rfl rfl (op_q rfl (op_ldIdx rfl at_A Tryz.underlying3 rfl z0)) ?_ | refine obs_chkn rfl rfl (op_q rfl (op_ldIdx rfl at_A Tryz.underlying3 rfl z2)) ?_ | refine obs_chkn rfl rfl (op_q rfl (op_ldAt rfl at_A Tryz.underlying3 rfl (by rfl))) ?_) | with_reducible refine sq_norm ?_ | with_reducible refine wc_seq ?_ | with_reducible refine wc_region ?_ | with_reducible refine wc_skip ?_ | with_reducible refine wc_block ?_ | with_reducible refine bq_norm ?_ | (refine wc_if rfl (fun hb => ?_) (fun hb => dead_A hb); (try simp only [decide_eq_true_eq, decide_eq_false_iff_not, Bool.not_eq_true', Bool.not_eq_false', Int.not_lt, Int.not_le, Decidable.not_not, not_true_eq_false, not_false_eq_true, beq_self_eq_true, reduceCtorEq] at hb)) | refine wc_drawB (id := 9) 19 [0, 1, 3, 7, 0, 16, 0, 64, 240, 0, 512, 0, 2048, 7680, 16368, 32767, 65535, 131071, 262143] [0, 1, 2, 3, 4, 5, 6, 7, 8, 9, 10, 11, 12, 13, 14, 15, 16, 17, 18] (by kernel_rfl) (by kernel_rfl) rfl rfl ?_ | refine wc_drawB (id := 10) 19 [0, 1, 3, 7, 0, 16, 0, 64, 240, 0, 512, 0, 2048, 7680, 16368, 32767, 65535, 131071, 262143] [0, 1, 2, 3, 4, 5, 6, 7, 8, 9, 10, 11, 12, 13, 14, 15, 16, 17, 18] (by kernel_rfl) (by kernel_rfl) rfl rfl ?_)
      exact lq_norm (n + 1) (by omega) (within_lk ⟨rfl, rfl, rfl, rfl, rfl, rfl, rfl, rfl, trivial⟩) ⟨⟨wf_A, gr_A, at_A, at_A, by rw [zn]; exact at_A⟩, by omega⟩
    · have : n = 4 := by omega
      subst this
      repeat' (first | with_reducible refine wo_nil ?_ | ((with_reducible refine wo_any ?_); first | ((with_reducible refine ik_move ?_); refine wo_op rfl (op_move rfl) rfl rfl ?_) | ((with_reducible refine ik_bin ?_); first | refine wo_op rfl (op_lss rfl rfl) rfl rfl ?_ | refine wo_op rfl (op_add' rfl rfl (w64 (by omega) (by omega))) rfl rfl ?_)) | with_reducible refine sq_norm ?_ | with_reducible refine wc_seq ?_ | with_reducible refine wc_region ?_ | with_reducible refine wc_exit ?_ | with_reducible refine bq_norm ?_ | with_reducible refine sq_exit ?_ | with_reducible refine lq_exit ?_ | refine bq_eq rfl ?_ | refine wc_iff rfl ?_)
      exact lq_norm (k + 1) (by omega) (within_lk ⟨rfl, rfl, rfl, rfl, rfl, trivial⟩) ⟨⟨wf_A, gr_A, at_A, at_A, by rw [allE]; exact at_A⟩, by omega⟩
  · have : k = 4 := by omega
    subst this
    rw [allE4] at b2 ⊢
    repeat' (first | with_reducible refine wo_nil ?_ | ((with_reducible refine wo_any ?_); first | ((with_reducible refine ik_bin ?_); refine wo_op rfl (op_lss rfl rfl) rfl rfl ?_) | ((with_reducible refine ik_load ?_); refine wo_op rfl (op_ldAgg rfl at_A Tryz.underlying123 rfl zs123 rfl rfl) rfl rfl ?_) | ((with_reducible refine ik_store ?_); refine wo_op0 rfl (op_stAgg rfl rfl at_A zs123 rfl rfl rfl rfl) rfl ?_)) | with_reducible refine sq_norm ?_ | with_reducible refine wc_seq ?_ | with_reducible refine wc_region ?_ | with_reducible refine wc_ret ?_ | with_reducible refine wc_exit ?_ | with_reducible refine sq_exit ?_ | with_reducible refine lq_exit ?_ | refine bq_eq rfl ?_ | refine wc_iff rfl ?_)
    exact rqc1 rfl (ldAgg at_A Tryz.underlying123 rfl zs123 rfl rfl) ⟨rfl, gr_A⟩
end Go.Proofs.YtccdcekcbbpohaaGreatDoor
