/- Ranges, first errors, roots, moved times. -/
import Derived.Test.YtcepknnekgjneaaGreatDoorW4
import Derived.Test.YtcepknnekgjneaaGreatDoorK3
set_option linter.all false
/- Velocity: ranges, first errors, roots, moved times. -/
namespace Go.Proofs.YtcepknnekgjneaaGreatDoor
open Go Go.Ab Go.Fl
attribute [local irreducible] SeqQ BlkQ LpQ RetQ Wc Wo WD WX Op1 Op1q Op1a Cf Cl From
attribute [local irreducible] Ieee.Format.order Ieee.Format.read Ieee.Format.nearest Ieee.Format.write Ieee.Format.mul Ieee.Format.div Ieee.Format.sqrt Ieee.Datum.order Ieee.Datum.integral K U
set_option maxRecDepth 10000
variable {G : Base} {h : H}

def rngE (x lo hi : Int) : Int := if x < lo ∨ hi < x then 3 else 0
theorem c65 (x lo hi : Int) : Cl (mz G) (.func (.func 65) #[] #[]) [.int .i64 x, .int .i64 lo, .int .i64 hi] h (.int .i64 (rngE x lo hi)) h := by
  refine cl_of_cf (cf_enter0 15 [.tmp 6] Tryz.func65 rfl rfl rfl rfl ?_)
  repeat' (first | with_reducible refine wo_nil ?_ | ((with_reducible refine wo_any ?_); first | ((with_reducible refine ik_move ?_); refine wo_op rfl (op_move rfl) rfl rfl ?_) | ((with_reducible refine ik_assign ?_); refine wo_op rfl (op_assign rfl) rfl rfl ?_) | ((with_reducible refine ik_bin ?_); first | refine wo_op rfl (op_lss rfl rfl) rfl rfl ?_ | refine wo_op rfl (op_gtr rfl rfl) rfl rfl ?_) | ((with_reducible refine ik_pick ?_); first | refine wo_op rfl (op_pickt rfl rfl) rfl rfl ?_ | refine wo_op rfl (op_pickf rfl rfl) rfl rfl ?_) | ((with_reducible refine ik_g ?_); first | refine wo_gskip rfl rfl rfl rfl rfl rfl ?_ | refine wo_gskip' rfl rfl rfl rfl rfl ?_ | ((with_reducible refine ig_move ?_); refine wo_grun rfl rfl rfl (op_move rfl) rfl rfl ?_) | ((with_reducible refine ig_assign ?_); refine wo_grun rfl rfl rfl (op_assign rfl) rfl rfl ?_) | ((with_reducible refine ig_bin ?_); first | refine wo_grun rfl rfl rfl (op_lss rfl rfl) rfl rfl ?_ | refine wo_grun rfl rfl rfl (op_gtr rfl rfl) rfl rfl ?_) | ((with_reducible refine ig_pick ?_); first | refine wo_grun rfl rfl rfl (op_pickt rfl rfl) rfl rfl ?_ | refine wo_grun rfl rfl rfl (op_pickf rfl rfl) rfl rfl ?_) | (refine wo_gsplit rfl rfl rfl (fun hb => ?_) (fun hb => ?_) <;> (try simp only [decide_eq_true_eq, decide_eq_false_iff_not, Bool.not_eq_true', Bool.not_eq_false', Int.not_lt, Int.not_le, Decidable.not_not, not_true_eq_false, not_false_eq_true, beq_self_eq_true, reduceCtorEq] at hb) <;> (try (exfalso; omega))))) | with_reducible refine sq_norm ?_ | with_reducible refine wc_seq ?_ | with_reducible refine wc_region ?_ | with_reducible refine wo_nil ?_ | with_reducible refine wc_skip ?_ | with_reducible refine wc_label ?_ | with_reducible refine wc_ret ?_ | with_reducible refine wc_exit ?_ | with_reducible refine wc_block ?_ | with_reducible refine wc_scope ?_ | with_reducible refine bq_norm ?_ | with_reducible refine bq_ret ?_ | with_reducible refine sq_ret ?_ | with_reducible refine sq_exit ?_ | with_reducible refine lq_exit ?_ | with_reducible refine lq_ret ?_ | refine bq_eq rfl ?_ | refine bq_ne rfl ?_ | refine wc_ift rfl ?_ | refine wc_iff rfl ?_ | (refine wc_if rfl (fun hb => ?_) (fun hb => ?_) <;> (try simp only [decide_eq_true_eq, decide_eq_false_iff_not, Bool.not_eq_true', Bool.not_eq_false', Int.not_lt, Int.not_le, Decidable.not_not, not_true_eq_false, not_false_eq_true, beq_self_eq_true, reduceCtorEq] at hb) <;> (try (exfalso; omega))))
  all_goals refine rq1 rfl ⟨?_, rfl⟩
  all_goals (unfold rngE; congr 1; first | rw [if_pos (by omega)] | rw [if_neg (by omega)])
def firstNZ : List Int → Int
  | [] => 0
  | e :: l => if e = 0 then firstNZ l else e
theorem firstNZ_zero : ∀ {l : List Int}, firstNZ l = 0 → ∀ x ∈ l, x = 0
  | [], _, x, hx => by simp at hx
  | e :: l, h, x, hx => by
    unfold firstNZ at h
    split at h
    · rename_i he
      rcases List.mem_cons.1 hx with rfl | hx
      · exact he
      · exact firstNZ_zero h x hx
    · rename_i he; exact absurd h he
theorem c64 {v : Value} {n : Nat} {es : List Int} (s : Sl G h 1 v n (es.map (.int .i64))) (hn : n < 1000000) : Cl (mz G) (.func (.func 64) #[] #[]) [v] h (.int .i64 (firstNZ es)) h := by
  obtain ⟨a, c, rfl⟩ := s.form
  have hl := s.length
  simp at hl
  refine cl_of_cf (cf_enter0 15 [.tmp 2] Tryz.func64 rfl rfl rfl rfl ?_)
  repeat' (first | with_reducible refine wo_nil ?_ | ((with_reducible refine wo_any ?_); first | ((with_reducible refine ik_move ?_); refine wo_op rfl (op_move rfl) rfl rfl ?_) | ((with_reducible refine ik_assign ?_); refine wo_op rfl (op_assign rfl) rfl rfl ?_) | ((with_reducible refine ik_callb ?_); refine wo_op rfl (op_lenSl rfl Tryz.underlying189) rfl rfl ?_) | ((with_reducible refine ik_bin ?_); first | refine wo_op rfl (op_lss rfl rfl) rfl rfl ?_ | refine wo_op rfl (op_neq rfl rfl) rfl rfl ?_ | refine wo_op rfl (op_add' rfl rfl (w64 (by omega) (by omega))) rfl rfl ?_) | ((with_reducible refine ik_load ?_); refine wo_op rfl (op_ldAt rfl at_A Tryz.underlying29 rfl rfl) rfl rfl ?_) | ((with_reducible refine ik_g ?_); first | refine wo_gskip rfl rfl rfl rfl rfl rfl ?_ | refine wo_gskip' rfl rfl rfl rfl rfl ?_ | ((with_reducible refine ig_move ?_); refine wo_grun rfl rfl rfl (op_move rfl) rfl rfl ?_) | ((with_reducible refine ig_assign ?_); refine wo_grun rfl rfl rfl (op_assign rfl) rfl rfl ?_) | ((with_reducible refine ig_callb ?_); refine wo_grun rfl rfl rfl (op_lenSl rfl Tryz.underlying189) rfl rfl ?_) | ((with_reducible refine ig_bin ?_); first | refine wo_grun rfl rfl rfl (op_lss rfl rfl) rfl rfl ?_ | refine wo_grun rfl rfl rfl (op_neq rfl rfl) rfl rfl ?_ | refine wo_grun rfl rfl rfl (op_add' rfl rfl (w64 (by omega) (by omega))) rfl rfl ?_) | ((with_reducible refine ig_load ?_); refine wo_grun rfl rfl rfl (op_ldAt rfl at_A Tryz.underlying29 rfl rfl) rfl rfl ?_) | (refine wo_gsplit rfl rfl rfl (fun hb => ?_) (fun hb => ?_) <;> (try simp only [decide_eq_true_eq, decide_eq_false_iff_not, Bool.not_eq_true', Bool.not_eq_false', Int.not_lt, Int.not_le, Decidable.not_not, not_true_eq_false, not_false_eq_true, beq_self_eq_true, reduceCtorEq] at hb) <;> (try (exfalso; omega))))) | with_reducible refine sq_norm ?_ | with_reducible refine wc_seq ?_ | with_reducible refine wc_region ?_ | with_reducible refine wo_nil ?_ | with_reducible refine wc_skip ?_ | with_reducible refine wc_label ?_ | with_reducible refine wc_ret ?_ | with_reducible refine wc_exit ?_ | with_reducible refine wc_block ?_ | with_reducible refine wc_scope ?_ | with_reducible refine bq_norm ?_ | with_reducible refine bq_ret ?_ | with_reducible refine sq_ret ?_ | with_reducible refine sq_exit ?_ | with_reducible refine lq_exit ?_ | with_reducible refine lq_ret ?_ | refine bq_eq rfl ?_ | refine bq_ne rfl ?_ | refine wc_ift rfl ?_ | refine wc_iff rfl ?_ | (refine wc_if rfl (fun hb => ?_) (fun hb => ?_) <;> (try simp only [decide_eq_true_eq, decide_eq_false_iff_not, Bool.not_eq_true', Bool.not_eq_false', Int.not_lt, Int.not_le, Decidable.not_not, not_true_eq_false, not_false_eq_true, beq_self_eq_true, reduceCtorEq] at hb) <;> (try (exfalso; omega))))
  refine wc_loop (fun k => n - k) (fun k : Nat => [(5, .slice a n c), (6, .int .i64 n), (7, .int .i64 k)]) (fun k h' => h' = h ∧ k ≤ n ∧ firstNZ (es.drop k) = firstNZ es) 0 (within_lk ⟨rfl, rfl, rfl, trivial⟩) ⟨rfl, Nat.zero_le _, rfl⟩ ?_
  rintro k h' ⟨rfl, hk, hi⟩
  by_cases hlt : k < n
  · obtain ⟨ad, h1, h2⟩ := s.addr (M := mz G) Tryz.underlying189 (es := 1) zs29 (i := k) (k := .i64) (by omega) (by omega)
    have h3 : acell G h' ad = some (.int .i64 (es[k]'(by omega))) := h2.get 0 _ (by simp)
    rw [List.drop_eq_getElem_cons (by omega), firstNZ] at hi
    repeat' (first | with_reducible refine wo_nil ?_ | ((with_reducible refine wo_any ?_); first | ((with_reducible refine ik_move ?_); refine wo_op rfl (op_move rfl) rfl rfl ?_) | ((with_reducible refine ik_assign ?_); refine wo_op rfl (op_assign rfl) rfl rfl ?_) | ((with_reducible refine ik_indexAddr ?_); refine wo_op rfl (op_indexAddr rfl rfl h1) rfl rfl ?_) | ((with_reducible refine ik_load ?_); first | refine wo_op rfl (op_ldCell rfl Tryz.underlying29 rfl h3) rfl rfl ?_ | refine wo_op rfl (op_ldAt rfl at_A Tryz.underlying29 rfl rfl) rfl rfl ?_) | ((with_reducible refine ik_callb ?_); refine wo_op rfl (op_lenSl rfl Tryz.underlying189) rfl rfl ?_) | ((with_reducible refine ik_bin ?_); first | refine wo_op rfl (op_lss rfl rfl) rfl rfl ?_ | refine wo_op rfl (op_neq rfl rfl) rfl rfl ?_ | refine wo_op rfl (op_add' rfl rfl (w64 (by omega) (by omega))) rfl rfl ?_) | ((with_reducible refine ik_g ?_); first | refine wo_gskip rfl rfl rfl rfl rfl rfl ?_ | refine wo_gskip' rfl rfl rfl rfl rfl ?_ | ((with_reducible refine ig_move ?_); refine wo_grun rfl rfl rfl (op_move rfl) rfl rfl ?_) | ((with_reducible refine ig_assign ?_); refine wo_grun rfl rfl rfl (op_assign rfl) rfl rfl ?_) | ((with_reducible refine ig_indexAddr ?_); refine wo_grun rfl rfl rfl (op_indexAddr rfl rfl h1) rfl rfl ?_) | ((with_reducible refine ig_load ?_); first | refine wo_grun rfl rfl rfl (op_ldCell rfl Tryz.underlying29 rfl h3) rfl rfl ?_ | refine wo_grun rfl rfl rfl (op_ldAt rfl at_A Tryz.underlying29 rfl rfl) rfl rfl ?_) | ((with_reducible refine ig_callb ?_); refine wo_grun rfl rfl rfl (op_lenSl rfl Tryz.underlying189) rfl rfl ?_) | ((with_reducible refine ig_bin ?_); first | refine wo_grun rfl rfl rfl (op_lss rfl rfl) rfl rfl ?_ | refine wo_grun rfl rfl rfl (op_neq rfl rfl) rfl rfl ?_ | refine wo_grun rfl rfl rfl (op_add' rfl rfl (w64 (by omega) (by omega))) rfl rfl ?_) | (refine wo_gsplit rfl rfl rfl (fun hb => ?_) (fun hb => ?_) <;> (try simp only [decide_eq_true_eq, decide_eq_false_iff_not, Bool.not_eq_true', Bool.not_eq_false', Int.not_lt, Int.not_le, Decidable.not_not, not_true_eq_false, not_false_eq_true, beq_self_eq_true, reduceCtorEq] at hb) <;> (try (exfalso; omega))))) | with_reducible refine sq_norm ?_ | with_reducible refine wc_seq ?_ | with_reducible refine wc_region ?_ | with_reducible refine wo_nil ?_ | with_reducible refine wc_skip ?_ | with_reducible refine wc_label ?_ | with_reducible refine wc_ret ?_ | with_reducible refine wc_exit ?_ | with_reducible refine wc_block ?_ | with_reducible refine wc_scope ?_ | with_reducible refine bq_norm ?_ | with_reducible refine bq_ret ?_ | with_reducible refine sq_ret ?_ | with_reducible refine sq_exit ?_ | with_reducible refine lq_exit ?_ | with_reducible refine lq_ret ?_ | refine bq_eq rfl ?_ | refine bq_ne rfl ?_ | refine wc_ift rfl ?_ | refine wc_iff rfl ?_ | (refine wc_if rfl (fun hb => ?_) (fun hb => ?_) <;> (try simp only [decide_eq_true_eq, decide_eq_false_iff_not, Bool.not_eq_true', Bool.not_eq_false', Int.not_lt, Int.not_le, Decidable.not_not, not_true_eq_false, not_false_eq_true, beq_self_eq_true, reduceCtorEq] at hb) <;> (try (exfalso; omega))))
    · refine rq1 rfl ⟨?_, rfl⟩
      rw [if_neg hb] at hi; rw [hi]
    · refine lq_norm (k + 1) (by omega) (within_lk ⟨rfl, rfl, rfl, trivial⟩) ⟨rfl, by omega, ?_⟩
      rw [if_pos hb] at hi; exact hi
  · repeat' (first | with_reducible refine wo_nil ?_ | ((with_reducible refine wo_any ?_); first | ((with_reducible refine ik_move ?_); refine wo_op rfl (op_move rfl) rfl rfl ?_) | ((with_reducible refine ik_assign ?_); refine wo_op rfl (op_assign rfl) rfl rfl ?_) | ((with_reducible refine ik_callb ?_); refine wo_op rfl (op_lenSl rfl Tryz.underlying189) rfl rfl ?_) | ((with_reducible refine ik_bin ?_); first | refine wo_op rfl (op_lss rfl rfl) rfl rfl ?_ | refine wo_op rfl (op_neq rfl rfl) rfl rfl ?_ | refine wo_op rfl (op_add' rfl rfl (w64 (by omega) (by omega))) rfl rfl ?_) | ((with_reducible refine ik_load ?_); refine wo_op rfl (op_ldAt rfl at_A Tryz.underlying29 rfl rfl) rfl rfl ?_) | ((with_reducible refine ik_g ?_); first | refine wo_gskip rfl rfl rfl rfl rfl rfl ?_ | refine wo_gskip' rfl rfl rfl rfl rfl ?_ | ((with_reducible refine ig_move ?_); refine wo_grun rfl rfl rfl (op_move rfl) rfl rfl ?_) | ((with_reducible refine ig_assign ?_); refine wo_grun rfl rfl rfl (op_assign rfl) rfl rfl ?_) | ((with_reducible refine ig_callb ?_); refine wo_grun rfl rfl rfl (op_lenSl rfl Tryz.underlying189) rfl rfl ?_) | ((with_reducible refine ig_bin ?_); first | refine wo_grun rfl rfl rfl (op_lss rfl rfl) rfl rfl ?_ | refine wo_grun rfl rfl rfl (op_neq rfl rfl) rfl rfl ?_ | refine wo_grun rfl rfl rfl (op_add' rfl rfl (w64 (by omega) (by omega))) rfl rfl ?_) | ((with_reducible refine ig_load ?_); refine wo_grun rfl rfl rfl (op_ldAt rfl at_A Tryz.underlying29 rfl rfl) rfl rfl ?_) | (refine wo_gsplit rfl rfl rfl (fun hb => ?_) (fun hb => ?_) <;> (try simp only [decide_eq_true_eq, decide_eq_false_iff_not, Bool.not_eq_true', Bool.not_eq_false', Int.not_lt, Int.not_le, Decidable.not_not, not_true_eq_false, not_false_eq_true, beq_self_eq_true, reduceCtorEq] at hb) <;> (try (exfalso; omega))))) | with_reducible refine sq_norm ?_ | with_reducible refine wc_seq ?_ | with_reducible refine wc_region ?_ | with_reducible refine wo_nil ?_ | with_reducible refine wc_skip ?_ | with_reducible refine wc_label ?_ | with_reducible refine wc_ret ?_ | with_reducible refine wc_exit ?_ | with_reducible refine wc_block ?_ | with_reducible refine wc_scope ?_ | with_reducible refine bq_norm ?_ | with_reducible refine bq_ret ?_ | with_reducible refine sq_ret ?_ | with_reducible refine sq_exit ?_ | with_reducible refine lq_exit ?_ | with_reducible refine lq_ret ?_ | refine bq_eq rfl ?_ | refine bq_ne rfl ?_ | refine wc_ift rfl ?_ | refine wc_iff rfl ?_ | (refine wc_if rfl (fun hb => ?_) (fun hb => ?_) <;> (try simp only [decide_eq_true_eq, decide_eq_false_iff_not, Bool.not_eq_true', Bool.not_eq_false', Int.not_lt, Int.not_le, Decidable.not_not, not_true_eq_false, not_false_eq_true, beq_self_eq_true, reduceCtorEq] at hb) <;> (try (exfalso; omega))))
    refine rq1 rfl ⟨?_, rfl⟩
    rw [List.drop_eq_nil_of_le (by omega)] at hi
    rw [← hi]; rfl
theorem c66 (x : Int) : Cl (mz G) (.func (.func 66) #[] #[]) [.int .i64 x] h (.int .i64 (rngE x 1 1000000000)) h := by
  refine cl_of_cf (cf_enter0 5 [.tmp 2] Tryz.func66 rfl rfl rfl rfl ?_)
  repeat' (first | with_reducible refine wo_nil ?_ | ((with_reducible refine wo_any ?_); first | ((with_reducible refine ik_move ?_); refine wo_op rfl (op_move rfl) rfl rfl ?_) | ((with_reducible refine ik_assign ?_); refine wo_op rfl (op_assign rfl) rfl rfl ?_) | ((with_reducible refine ik_callF (f := 65) ?_); refine wo_op rfl (op_call rfl rfl (c65 _ _ _)) rfl rfl ?_) | ((with_reducible refine ik_g ?_); first | refine wo_gskip rfl rfl rfl rfl rfl rfl ?_ | refine wo_gskip' rfl rfl rfl rfl rfl ?_ | ((with_reducible refine ig_move ?_); refine wo_grun rfl rfl rfl (op_move rfl) rfl rfl ?_) | ((with_reducible refine ig_assign ?_); refine wo_grun rfl rfl rfl (op_assign rfl) rfl rfl ?_) | ((with_reducible refine ig_callF (f := 65) ?_); refine wo_grun rfl rfl rfl (op_call rfl rfl (c65 _ _ _)) rfl rfl ?_) | (refine wo_gsplit rfl rfl rfl (fun hb => ?_) (fun hb => ?_) <;> (try simp only [decide_eq_true_eq, decide_eq_false_iff_not, Bool.not_eq_true', Bool.not_eq_false', Int.not_lt, Int.not_le, Decidable.not_not, not_true_eq_false, not_false_eq_true, beq_self_eq_true, reduceCtorEq] at hb) <;> (try (exfalso; omega))))) | with_reducible refine sq_norm ?_ | with_reducible refine wc_seq ?_ | with_reducible refine wc_region ?_ | with_reducible refine wo_nil ?_ | with_reducible refine wc_skip ?_ | with_reducible refine wc_label ?_ | with_reducible refine wc_ret ?_ | with_reducible refine wc_exit ?_ | with_reducible refine wc_block ?_ | with_reducible refine wc_scope ?_ | with_reducible refine bq_norm ?_ | with_reducible refine bq_ret ?_ | with_reducible refine sq_ret ?_ | with_reducible refine sq_exit ?_ | with_reducible refine lq_exit ?_ | with_reducible refine lq_ret ?_ | refine bq_eq rfl ?_ | refine bq_ne rfl ?_ | refine wc_ift rfl ?_ | refine wc_iff rfl ?_ | (refine wc_if rfl (fun hb => ?_) (fun hb => ?_) <;> (try simp only [decide_eq_true_eq, decide_eq_false_iff_not, Bool.not_eq_true', Bool.not_eq_false', Int.not_lt, Int.not_le, Decidable.not_not, not_true_eq_false, not_false_eq_true, beq_self_eq_true, reduceCtorEq] at hb) <;> (try (exfalso; omega))))
  exact rq1 rfl ⟨rfl, rfl⟩

/-! the root -/
/-- The greatest number whose square is at most n. -/
def isq : Nat → Nat
  | 0 => 0
  | n + 1 => if (isq n + 1) * (isq n + 1) ≤ n + 1 then isq n + 1 else isq n
theorem isq_ok : ∀ n, isq n * isq n ≤ n ∧ n < (isq n + 1) * (isq n + 1)
  | 0 => by simp [isq]
  | n + 1 => by
    obtain ⟨h1, h2⟩ := isq_ok n
    unfold isq
    have e : (isq n + 1 + 1) * (isq n + 1 + 1) = (isq n + 1) * (isq n + 1) + 2 * (isq n + 1) + 1 := by
      generalize isq n + 1 = y
      rw [Nat.add_mul, Nat.mul_add]; omega
    split
    · rename_i hc
      exact ⟨hc, by rw [e]; omega⟩
    · rename_i hc
      exact ⟨by omega, by omega⟩
theorem isq_unique {n k : Nat} (h1 : k * k ≤ n) (h2 : n < (k + 1) * (k + 1)) : isq n = k := by
  obtain ⟨h3, h4⟩ := isq_ok n
  have a : k < isq n + 1 := sq_lt (by omega)
  have b : isq n < k + 1 := sq_lt (by omega)
  omega
theorem isq_mono {m n : Nat} (h : m ≤ n) : isq m ≤ isq n := by
  obtain ⟨h1, _⟩ := isq_ok m
  obtain ⟨_, h4⟩ := isq_ok n
  have : isq m < isq n + 1 := sq_lt (by omega)
  omega
theorem floatInt_toInt {P : Program} {c : Nat} {k : Nat} (h : (Ieee.double.read c).toInt .zero = some (k : Int)) (hk : k < 2 ^ 60) : prun P (Conv.floatToInt .f64 c .i64) = some (.int .i64 k) := by
  unfold Conv.floatToInt
  rw [show FloatKind.decode .f64 c = Ieee.double.read c from rfl, h]
  have hm : IntKind.min .i64 ≤ (k : Int) ∧ (k : Int) ≤ IntKind.max .i64 := by
    have e1 : IntKind.min .i64 = -9223372036854775808 := by decide
    have e2 : IntKind.max .i64 = 9223372036854775807 := by decide
    rw [e1, e2]; omega
  simp only
  rw [if_pos hm]
  rfl
theorem c182 {x c : Nat} (hc : Ieee.double.sqrt x = some c) : Cl (mz G) (.func (.func 182) #[] #[]) [.float .f64 x] h (.float .f64 c) h :=
  cl_ext (x := pureExt Extern.MathSqrt.sqrt) rfl (by
    unfold pureExt
    have : prun Tryz.prog (Extern.MathSqrt.sqrt ⟨[.float .f64 x]⟩) = some (.float .f64 c) := by
      have e : ∀ (o : Option Nat), prun Tryz.prog (match o with | some r => pure (Value.float .f64 r) | none => do pure (Value.float .f64 (← choose (.nanBits .f64 x x)))) = (match o with | some r => some (Value.float .f64 r) | none => prun Tryz.prog (do pure (Value.float .f64 (← choose (.nanBits .f64 x x))))) := fun o => by cases o <;> rfl
      have e2 := e (Ieee.double.sqrt x)
      rw [hc] at e2
      exact (show prun Tryz.prog (Extern.MathSqrt.sqrt ⟨[.float .f64 x]⟩) = prun Tryz.prog (match Ieee.double.sqrt x with | some r => pure (Value.float .f64 r) | none => do pure (Value.float .f64 (← choose (.nanBits .f64 x x)))) from rfl).trans (by rw [hc]; rfl)
    rw [this]; rfl)
theorem c166 {x c : Nat} (hc : Ieee.double.sqrt x = some c) : Cl (mz G) (.func (.func 166) #[] #[]) [.float .f64 x] h (.float .f64 c) h := by
  have q182 := fun (h : H) => c182 (G := G) (h := h) hc
  refine cl_of_cf (cf_enter0 5 [.tmp 2] Tryz.func166 rfl rfl rfl rfl ?_)
  repeat' (first | with_reducible refine wo_nil ?_ | ((with_reducible refine wo_any ?_); first | ((with_reducible refine ik_move ?_); refine wo_op rfl (op_move rfl) rfl rfl ?_) | ((with_reducible refine ik_assign ?_); refine wo_op rfl (op_assign rfl) rfl rfl ?_) | ((with_reducible refine ik_callv ?_); refine wo_op rfl (op_call rfl rfl (q182 _)) rfl rfl ?_) | ((with_reducible refine ik_g ?_); first | refine wo_gskip rfl rfl rfl rfl rfl rfl ?_ | refine wo_gskip' rfl rfl rfl rfl rfl ?_ | ((with_reducible refine ig_move ?_); refine wo_grun rfl rfl rfl (op_move rfl) rfl rfl ?_) | ((with_reducible refine ig_assign ?_); refine wo_grun rfl rfl rfl (op_assign rfl) rfl rfl ?_) | ((with_reducible refine ig_callv ?_); refine wo_grun rfl rfl rfl (op_call rfl rfl (q182 _)) rfl rfl ?_) | (refine wo_gsplit rfl rfl rfl (fun hb => ?_) (fun hb => ?_) <;> (try simp only [decide_eq_true_eq, decide_eq_false_iff_not, Bool.not_eq_true', Bool.not_eq_false', Int.not_lt, Int.not_le, Decidable.not_not, not_true_eq_false, not_false_eq_true, beq_self_eq_true, reduceCtorEq] at hb) <;> (try (exfalso; omega))))) | with_reducible refine sq_norm ?_ | with_reducible refine wc_seq ?_ | with_reducible refine wc_region ?_ | with_reducible refine wo_nil ?_ | with_reducible refine wc_skip ?_ | with_reducible refine wc_label ?_ | with_reducible refine wc_ret ?_ | with_reducible refine wc_exit ?_ | with_reducible refine wc_block ?_ | with_reducible refine wc_scope ?_ | with_reducible refine bq_norm ?_ | with_reducible refine bq_ret ?_ | with_reducible refine sq_ret ?_ | with_reducible refine sq_exit ?_ | with_reducible refine lq_exit ?_ | with_reducible refine lq_ret ?_ | refine bq_eq rfl ?_ | refine bq_ne rfl ?_ | refine wc_ift rfl ?_ | refine wc_iff rfl ?_ | (refine wc_if rfl (fun hb => ?_) (fun hb => ?_) <;> (try simp only [decide_eq_true_eq, decide_eq_false_iff_not, Bool.not_eq_true', Bool.not_eq_false', Int.not_lt, Int.not_le, Decidable.not_not, not_true_eq_false, not_false_eq_true, beq_self_eq_true, reduceCtorEq] at hb) <;> (try (exfalso; omega))))
  exact rq1 rfl ⟨rfl, rfl⟩
theorem c129 {n : Nat} (hn : n < 2 ^ 40) : Cl (mz G) (.func (.func 129) #[] #[]) [.int .i64 n] h (.int .i64 (isq n)) h := by
  obtain ⟨c, h1, h2⟩ := sqrt_cut hn (isq_ok n).1 (isq_ok n).2
  have hk : isq n < 2 ^ 20 := sq_lt (by
    have := (isq_ok n).1
    have e : (2 : Nat) ^ 20 * 2 ^ 20 = 2 ^ 40 := by decide
    omega)
  have h3 := floatInt_toInt (P := Tryz.prog) h2 (by omega)
  have q166 := fun (h : H) => c166 (G := G) (h := h) h1
  refine cl_of_cf (cf_enter0 7 [.tmp 2] Tryz.func129 rfl rfl rfl rfl ?_)
  repeat' (first | with_reducible refine wo_nil ?_ | ((with_reducible refine wo_any ?_); first | ((with_reducible refine ik_move ?_); refine wo_op rfl (op_move rfl) rfl rfl ?_) | ((with_reducible refine ik_assign ?_); refine wo_op rfl (op_assign rfl) rfl rfl ?_) | ((with_reducible refine ik_convert ?_); first | refine wo_op rfl (op_cvif rfl Tryz.underlying3 Tryz.underlying234 rfl) rfl rfl ?_ | refine wo_op rfl (op_cvfi rfl Tryz.underlying234 Tryz.underlying3 h3) rfl rfl ?_) | ((with_reducible refine ik_callv ?_); refine wo_op rfl (op_call rfl rfl (q166 _)) rfl rfl ?_) | ((with_reducible refine ik_g ?_); first | refine wo_gskip rfl rfl rfl rfl rfl rfl ?_ | refine wo_gskip' rfl rfl rfl rfl rfl ?_ | ((with_reducible refine ig_move ?_); refine wo_grun rfl rfl rfl (op_move rfl) rfl rfl ?_) | ((with_reducible refine ig_assign ?_); refine wo_grun rfl rfl rfl (op_assign rfl) rfl rfl ?_) | ((with_reducible refine ig_convert ?_); first | refine wo_grun rfl rfl rfl (op_cvif rfl Tryz.underlying3 Tryz.underlying234 rfl) rfl rfl ?_ | refine wo_grun rfl rfl rfl (op_cvfi rfl Tryz.underlying234 Tryz.underlying3 h3) rfl rfl ?_) | ((with_reducible refine ig_callv ?_); refine wo_grun rfl rfl rfl (op_call rfl rfl (q166 _)) rfl rfl ?_) | (refine wo_gsplit rfl rfl rfl (fun hb => ?_) (fun hb => ?_) <;> (try simp only [decide_eq_true_eq, decide_eq_false_iff_not, Bool.not_eq_true', Bool.not_eq_false', Int.not_lt, Int.not_le, Decidable.not_not, not_true_eq_false, not_false_eq_true, beq_self_eq_true, reduceCtorEq] at hb) <;> (try (exfalso; omega))))) | with_reducible refine sq_norm ?_ | with_reducible refine wc_seq ?_ | with_reducible refine wc_region ?_ | with_reducible refine wo_nil ?_ | with_reducible refine wc_skip ?_ | with_reducible refine wc_label ?_ | with_reducible refine wc_ret ?_ | with_reducible refine wc_exit ?_ | with_reducible refine wc_block ?_ | with_reducible refine wc_scope ?_ | with_reducible refine bq_norm ?_ | with_reducible refine bq_ret ?_ | with_reducible refine sq_ret ?_ | with_reducible refine sq_exit ?_ | with_reducible refine lq_exit ?_ | with_reducible refine lq_ret ?_ | refine bq_eq rfl ?_ | refine bq_ne rfl ?_ | refine wc_ift rfl ?_ | refine wc_iff rfl ?_ | (refine wc_if rfl (fun hb => ?_) (fun hb => ?_) <;> (try simp only [decide_eq_true_eq, decide_eq_false_iff_not, Bool.not_eq_true', Bool.not_eq_false', Int.not_lt, Int.not_le, Decidable.not_not, not_true_eq_false, not_false_eq_true, beq_self_eq_true, reduceCtorEq] at hb) <;> (try (exfalso; omega))))
  exact rq1 rfl ⟨rfl, rfl⟩
end Go.Proofs.YtcepknnekgjneaaGreatDoor

/- Velocity: moved times. -/
namespace Go.Proofs.YtcepknnekgjneaaGreatDoor
open Go Go.Ab Go.Fl
attribute [local irreducible] SeqQ BlkQ LpQ RetQ Wc Wo WD WX Op1 Op1q Op1a Cf Cl From
attribute [local irreducible] Ieee.Format.order Ieee.Format.read Ieee.Format.nearest Ieee.Format.write Ieee.Format.mul Ieee.Format.div Ieee.Format.sqrt Ieee.Datum.order Ieee.Datum.integral K U
set_option maxRecDepth 10000
variable {G : Base} {h : H}

theorem op_quoV {M : Mc} {l : KL} {x y : Operand} {t ty : TypeId} {a b v : Int} {k : IntKind} (hx : val l x = some (.int k a)) (hy : val l y = some (.int k b)) (h0 : b ≠ 0) (hv : k.wrap (a.tdiv b) = v) : Op1 M (.binOp .quo t x y ty) l h (.int k v) h := by
  subst hv; exact op_quo hx hy h0
theorem quo_nat {q v : Nat} (hq : q < 2 ^ 62) : IntKind.wrap .i64 ((q : Int).tdiv (v : Int)) = ((q / v : Nat) : Int) := by
  have e : (q : Int).tdiv (v : Int) = ((q / v : Nat) : Int) := (Int.ofNat_tdiv q v).symm
  have hle : q / v ≤ q := Nat.div_le_self _ _
  rw [e]
  generalize q / v = d at hle
  exact w64 (by omega) (by omega)
/-- The moved time. -/
def movN (t q v : Nat) : Nat := isq (t * t + q / v)
theorem tt_le {t : Nat} (ht : t ≤ 1024) : t * t ≤ 1048576 := Nat.mul_le_mul ht ht
theorem movN_sum {t q v : Nat} (ht : t ≤ 1024) (hq : q ≤ 80000000000) : t * t + q / v < 2 ^ 40 := by
  have := tt_le ht
  have hle : q / v ≤ q := Nat.div_le_self _ _
  omega
theorem c67 {t q v : Nat} (ht : t ≤ 1024) (hq : q ≤ 80000000000) (hv : 1 ≤ v) : Cl (mz G) (.func (.func 67) #[] #[]) [.int .i64 t, .int .i64 q, .int .i64 v] h (.int .i64 (movN t q v)) h := by
  have q129 : ∀ h, Cl (mz G) (.func (.func 129) #[] #[]) [.int .i64 ((t : Int) * (t : Int) + ((q / v : Nat) : Int))] h (.int .i64 (isq (t * t + q / v))) h := fun h => by
    have := c129 (G := G) (h := h) (movN_sum (v := v) ht hq)
    rw [show ((t * t + q / v : Nat) : Int) = (t : Int) * (t : Int) + ((q / v : Nat) : Int) from by rw [Int.natCast_add, Int.natCast_mul]] at this
    exact this
  have b1 : (t : Int) * (t : Int) ≤ 1048576 := by have h := Int.ofNat_le.2 (tt_le ht); rw [Int.natCast_mul] at h; omega
  have b2 : 0 ≤ (t : Int) * (t : Int) := Int.mul_nonneg (by omega) (by omega)
  have b3 : (q / v : Nat) ≤ q := Nat.div_le_self _ _
  have hw := quo_nat (q := q) (v := v) (by omega)
  have h0 : (v : Int) ≠ 0 := by omega
  unfold movN
  generalize q / v = d at q129 b3 hw ⊢
  refine cl_of_cf (cf_enter0 15 [.tmp 6] Tryz.func67 rfl rfl rfl rfl ?_)
  repeat' (first | with_reducible refine wo_nil ?_ | ((with_reducible refine wo_any ?_); first | ((with_reducible refine ik_move ?_); refine wo_op rfl (op_move rfl) rfl rfl ?_) | ((with_reducible refine ik_assign ?_); refine wo_op rfl (op_assign rfl) rfl rfl ?_) | ((with_reducible refine ik_bin ?_); first | refine wo_op rfl (op_quoV rfl rfl h0 hw) rfl rfl ?_ | refine wo_op rfl (op_mul' rfl rfl (w64 (by omega) (by omega))) rfl rfl ?_ | refine wo_op rfl (op_quo rfl rfl (by omega)) rfl rfl ?_ | refine wo_op rfl (op_add' rfl rfl (w64 (by omega) (by omega))) rfl rfl ?_) | ((with_reducible refine ik_callv ?_); refine wo_op rfl (op_call rfl rfl (q129 _)) rfl rfl ?_) | ((with_reducible refine ik_g ?_); first | refine wo_gskip rfl rfl rfl rfl rfl rfl ?_ | refine wo_gskip' rfl rfl rfl rfl rfl ?_ | ((with_reducible refine ig_move ?_); refine wo_grun rfl rfl rfl (op_move rfl) rfl rfl ?_) | ((with_reducible refine ig_assign ?_); refine wo_grun rfl rfl rfl (op_assign rfl) rfl rfl ?_) | ((with_reducible refine ig_bin ?_); first | refine wo_grun rfl rfl rfl (op_quoV rfl rfl h0 hw) rfl rfl ?_ | refine wo_grun rfl rfl rfl (op_mul' rfl rfl (w64 (by omega) (by omega))) rfl rfl ?_ | refine wo_grun rfl rfl rfl (op_quo rfl rfl (by omega)) rfl rfl ?_ | refine wo_grun rfl rfl rfl (op_add' rfl rfl (w64 (by omega) (by omega))) rfl rfl ?_) | ((with_reducible refine ig_callv ?_); refine wo_grun rfl rfl rfl (op_call rfl rfl (q129 _)) rfl rfl ?_) | (refine wo_gsplit rfl rfl rfl (fun hb => ?_) (fun hb => ?_) <;> (try simp only [decide_eq_true_eq, decide_eq_false_iff_not, Bool.not_eq_true', Bool.not_eq_false', Int.not_lt, Int.not_le, Decidable.not_not, not_true_eq_false, not_false_eq_true, beq_self_eq_true, reduceCtorEq] at hb) <;> (try (exfalso; omega))))) | with_reducible refine sq_norm ?_ | with_reducible refine wc_seq ?_ | with_reducible refine wc_region ?_ | with_reducible refine wo_nil ?_ | with_reducible refine wc_skip ?_ | with_reducible refine wc_label ?_ | with_reducible refine wc_ret ?_ | with_reducible refine wc_exit ?_ | with_reducible refine wc_block ?_ | with_reducible refine wc_scope ?_ | with_reducible refine bq_norm ?_ | with_reducible refine bq_ret ?_ | with_reducible refine sq_ret ?_ | with_reducible refine sq_exit ?_ | with_reducible refine lq_exit ?_ | with_reducible refine lq_ret ?_ | refine bq_eq rfl ?_ | refine bq_ne rfl ?_ | refine wc_ift rfl ?_ | refine wc_iff rfl ?_ | (refine wc_if rfl (fun hb => ?_) (fun hb => ?_) <;> (try simp only [decide_eq_true_eq, decide_eq_false_iff_not, Bool.not_eq_true', Bool.not_eq_false', Int.not_lt, Int.not_le, Decidable.not_not, not_true_eq_false, not_false_eq_true, beq_self_eq_true, reduceCtorEq] at hb) <;> (try (exfalso; omega))))
  exact rq1 rfl ⟨rfl, rfl⟩
/-- The errors of a time, a squared offset and a squared velocity. -/
def movE (t q v : Int) : Int := firstNZ [rngE t 0 1024, rngE q 0 80000000000, rngE v 1 1000000000]
theorem rng_ok {x lo hi : Int} (h : rngE x lo hi = 0) : lo ≤ x ∧ x ≤ hi := by
  unfold rngE at h
  split at h
  · cases h
  · omega
theorem rng_of {x lo hi : Int} (h1 : lo ≤ x) (h2 : x ≤ hi) : rngE x lo hi = 0 := by
  unfold rngE; rw [if_neg (by omega)]
theorem c12 (t q v : Int) (hw : Wf h) : Cf (mz G) (.func (.func 12) #[] #[]) [.int .i64 t, .int .i64 q, .int .i64 v] h fun r h' => r = .tuple #[.int .i64 (if movE t q v = 0 then (movN t.toNat q.toNat v.toNat : Int) else 0), .int .i64 (movE t q v)] ∧ Grow h h' := by
  have q64 := fun (h' : H) (w : Value) (s : Sl G h' 1 w 3 ([rngE t 0 1024, rngE q 0 80000000000, rngE v 1 1000000000].map (.int .i64))) => c64 s (by omega)
  have q65 := fun (h' : H) (x : Int) => c65 (G := G) (h := h') x 0
  obtain ⟨E, hE⟩ : ∃ E, movE t q v = E := ⟨_, rfl⟩
  have hE' := hE
  unfold movE at hE'
  rw [hE'] at q64
  rw [hE]
  by_cases hz : E = 0
  · subst hz
    have z := firstNZ_zero hE'
    obtain ⟨t1, t2⟩ := rng_ok (z (rngE t 0 1024) (by simp))
    obtain ⟨q1, q2⟩ := rng_ok (z (rngE q 0 80000000000) (by simp))
    obtain ⟨v1, v2⟩ := rng_ok (z (rngE v 1 1000000000) (by simp))
    obtain ⟨T, rfl⟩ : ∃ T : Nat, t = T := ⟨t.toNat, by omega⟩
    obtain ⟨Q, rfl⟩ : ∃ Q : Nat, q = Q := ⟨q.toNat, by omega⟩
    obtain ⟨V, rfl⟩ : ∃ V : Nat, v = V := ⟨v.toNat, by omega⟩
    have q67 := fun (h' : H) => c67 (G := G) (h := h') (t := T) (q := Q) (v := V) (by omega) (by omega) (by omega)
    rw [if_pos rfl, Int.toNat_natCast, Int.toNat_natCast, Int.toNat_natCast]
    refine cf_enter0 24 [.tmp 6, .tmp 7] Tryz.func12 rfl rfl rfl rfl ?_
    repeat' (first | with_reducible refine wo_nil ?_ | ((with_reducible refine wo_any ?_); first | ((with_reducible refine ik_move ?_); refine wo_op rfl (op_move rfl) rfl rfl ?_) | ((with_reducible refine ik_assign ?_); refine wo_op rfl (op_assign rfl) rfl rfl ?_) | ((with_reducible refine ik_buildSlice ?_); refine wo_op rfl (op_buildSl rfl Tryz.underlying189 zs29 zz29 rfl rfl) rfl rfl ?_) | ((with_reducible refine ik_bin ?_); refine wo_op rfl (op_neq rfl rfl) rfl rfl ?_) | ((with_reducible refine ik_callv ?_); first | refine wo_op rfl (op_call rfl rfl (q65 _ _ _)) rfl rfl ?_ | refine wo_op rfl (op_call rfl rfl (q64 _ _ (Sl.ofAt (show At _ _ (.cells [.int .i64 (rngE T 0 1024), .int .i64 (rngE Q 0 80000000000), .int .i64 (rngE V 1 1000000000)] 29 1 false) from at_A) rfl (Nat.le_refl _)))) rfl rfl ?_ | refine wo_op rfl (op_call rfl rfl (q67 _)) rfl rfl ?_) | ((with_reducible refine ik_callF (f := 66) ?_); refine wo_op rfl (op_call rfl rfl (c66 _)) rfl rfl ?_) | ((with_reducible refine ik_g ?_); first | refine wo_gskip rfl rfl rfl rfl rfl rfl ?_ | refine wo_gskip' rfl rfl rfl rfl rfl ?_ | ((with_reducible refine ig_move ?_); refine wo_grun rfl rfl rfl (op_move rfl) rfl rfl ?_) | ((with_reducible refine ig_assign ?_); refine wo_grun rfl rfl rfl (op_assign rfl) rfl rfl ?_) | ((with_reducible refine ig_buildSlice ?_); refine wo_grun rfl rfl rfl (op_buildSl rfl Tryz.underlying189 zs29 zz29 rfl rfl) rfl rfl ?_) | ((with_reducible refine ig_bin ?_); refine wo_grun rfl rfl rfl (op_neq rfl rfl) rfl rfl ?_) | ((with_reducible refine ig_callv ?_); first | refine wo_grun rfl rfl rfl (op_call rfl rfl (q65 _ _ _)) rfl rfl ?_ | refine wo_grun rfl rfl rfl (op_call rfl rfl (q64 _ _ (Sl.ofAt (show At _ _ (.cells [.int .i64 (rngE T 0 1024), .int .i64 (rngE Q 0 80000000000), .int .i64 (rngE V 1 1000000000)] 29 1 false) from at_A) rfl (Nat.le_refl _)))) rfl rfl ?_ | refine wo_grun rfl rfl rfl (op_call rfl rfl (q67 _)) rfl rfl ?_) | ((with_reducible refine ig_callF (f := 66) ?_); refine wo_grun rfl rfl rfl (op_call rfl rfl (c66 _)) rfl rfl ?_) | (refine wo_gsplit rfl rfl rfl (fun hb => ?_) (fun hb => ?_) <;> (try simp only [decide_eq_true_eq, decide_eq_false_iff_not, Bool.not_eq_true', Bool.not_eq_false', Int.not_lt, Int.not_le, Decidable.not_not, not_true_eq_false, not_false_eq_true, beq_self_eq_true, reduceCtorEq] at hb) <;> (try (exfalso; omega))))) | with_reducible refine sq_norm ?_ | with_reducible refine wc_seq ?_ | with_reducible refine wc_region ?_ | with_reducible refine wo_nil ?_ | with_reducible refine wc_skip ?_ | with_reducible refine wc_label ?_ | with_reducible refine wc_ret ?_ | with_reducible refine wc_exit ?_ | with_reducible refine wc_block ?_ | with_reducible refine wc_scope ?_ | with_reducible refine bq_norm ?_ | with_reducible refine bq_ret ?_ | with_reducible refine sq_ret ?_ | with_reducible refine sq_exit ?_ | with_reducible refine lq_exit ?_ | with_reducible refine lq_ret ?_ | refine bq_eq rfl ?_ | refine bq_ne rfl ?_ | refine wc_ift rfl ?_ | refine wc_iff rfl ?_ | (refine wc_if rfl (fun hb => ?_) (fun hb => ?_) <;> (try simp only [decide_eq_true_eq, decide_eq_false_iff_not, Bool.not_eq_true', Bool.not_eq_false', Int.not_lt, Int.not_le, Decidable.not_not, not_true_eq_false, not_false_eq_true, beq_self_eq_true, reduceCtorEq] at hb) <;> (try (exfalso; omega))))
    exact rq2 rfl rfl ⟨rfl, gr_A⟩
  · rw [if_neg hz]
    refine cf_enter0 24 [.tmp 6, .tmp 7] Tryz.func12 rfl rfl rfl rfl ?_
    repeat' (first | with_reducible refine wo_nil ?_ | ((with_reducible refine wo_any ?_); first | ((with_reducible refine ik_move ?_); refine wo_op rfl (op_move rfl) rfl rfl ?_) | ((with_reducible refine ik_assign ?_); refine wo_op rfl (op_assign rfl) rfl rfl ?_) | ((with_reducible refine ik_buildSlice ?_); refine wo_op rfl (op_buildSl rfl Tryz.underlying189 zs29 zz29 rfl rfl) rfl rfl ?_) | ((with_reducible refine ik_bin ?_); refine wo_op rfl (op_neq rfl rfl) rfl rfl ?_) | ((with_reducible refine ik_callv ?_); first | refine wo_op rfl (op_call rfl rfl (q65 _ _ _)) rfl rfl ?_ | refine wo_op rfl (op_call rfl rfl (q64 _ _ (Sl.ofAt (show At _ _ (.cells [.int .i64 (rngE t 0 1024), .int .i64 (rngE q 0 80000000000), .int .i64 (rngE v 1 1000000000)] 29 1 false) from at_A) rfl (Nat.le_refl _)))) rfl rfl ?_) | ((with_reducible refine ik_callF (f := 66) ?_); refine wo_op rfl (op_call rfl rfl (c66 _)) rfl rfl ?_) | ((with_reducible refine ik_g ?_); first | refine wo_gskip rfl rfl rfl rfl rfl rfl ?_ | refine wo_gskip' rfl rfl rfl rfl rfl ?_ | ((with_reducible refine ig_move ?_); refine wo_grun rfl rfl rfl (op_move rfl) rfl rfl ?_) | ((with_reducible refine ig_assign ?_); refine wo_grun rfl rfl rfl (op_assign rfl) rfl rfl ?_) | ((with_reducible refine ig_buildSlice ?_); refine wo_grun rfl rfl rfl (op_buildSl rfl Tryz.underlying189 zs29 zz29 rfl rfl) rfl rfl ?_) | ((with_reducible refine ig_bin ?_); refine wo_grun rfl rfl rfl (op_neq rfl rfl) rfl rfl ?_) | ((with_reducible refine ig_callv ?_); first | refine wo_grun rfl rfl rfl (op_call rfl rfl (q65 _ _ _)) rfl rfl ?_ | refine wo_grun rfl rfl rfl (op_call rfl rfl (q64 _ _ (Sl.ofAt (show At _ _ (.cells [.int .i64 (rngE t 0 1024), .int .i64 (rngE q 0 80000000000), .int .i64 (rngE v 1 1000000000)] 29 1 false) from at_A) rfl (Nat.le_refl _)))) rfl rfl ?_) | ((with_reducible refine ig_callF (f := 66) ?_); refine wo_grun rfl rfl rfl (op_call rfl rfl (c66 _)) rfl rfl ?_) | (refine wo_gsplit rfl rfl rfl (fun hb => ?_) (fun hb => ?_) <;> (try simp only [decide_eq_true_eq, decide_eq_false_iff_not, Bool.not_eq_true', Bool.not_eq_false', Int.not_lt, Int.not_le, Decidable.not_not, not_true_eq_false, not_false_eq_true, beq_self_eq_true, reduceCtorEq] at hb) <;> (try (exfalso; omega))))) | with_reducible refine sq_norm ?_ | with_reducible refine wc_seq ?_ | with_reducible refine wc_region ?_ | with_reducible refine wo_nil ?_ | with_reducible refine wc_skip ?_ | with_reducible refine wc_label ?_ | with_reducible refine wc_ret ?_ | with_reducible refine wc_exit ?_ | with_reducible refine wc_block ?_ | with_reducible refine wc_scope ?_ | with_reducible refine bq_norm ?_ | with_reducible refine bq_ret ?_ | with_reducible refine sq_ret ?_ | with_reducible refine sq_exit ?_ | with_reducible refine lq_exit ?_ | with_reducible refine lq_ret ?_ | refine bq_eq rfl ?_ | refine bq_ne rfl ?_ | refine wc_ift rfl ?_ | refine wc_iff rfl ?_ | (refine wc_if rfl (fun hb => ?_) (fun hb => ?_) <;> (try simp only [decide_eq_true_eq, decide_eq_false_iff_not, Bool.not_eq_true', Bool.not_eq_false', Int.not_lt, Int.not_le, Decidable.not_not, not_true_eq_false, not_false_eq_true, beq_self_eq_true, reduceCtorEq] at hb) <;> (try (exfalso; omega))))
    exact rq2 rfl rfl ⟨rfl, gr_A⟩
end Go.Proofs.YtcepknnekgjneaaGreatDoor
