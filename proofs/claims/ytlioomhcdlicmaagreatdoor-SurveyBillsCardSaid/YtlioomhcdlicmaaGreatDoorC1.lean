/- Survey: ranges, first errors, points, vessels and watches; lists of records. -/
import Derived.Test.YtlioomhcdlicmaaGreatDoorW4
import Derived.Test.YtlioomhcdlicmaaGreatDoorK4
set_option linter.all false
/- Survey: ranges, first errors, points, vessels and watches; lists of records. -/
namespace Go.Proofs.YtlioomhcdlicmaaGreatDoor
open Go Go.Ab Go.Fl
attribute [local irreducible] SeqQ BlkQ LpQ RetQ Wc Wo WD WX Op1 Op1q Op1a Cf Cl From
attribute [local irreducible] Ieee.Format.order Ieee.Format.read Ieee.Format.nearest Ieee.Format.write Ieee.Format.mul Ieee.Format.div Ieee.Format.sqrt Ieee.Datum.order Ieee.Datum.integral K U 
set_option maxRecDepth 10000
variable {G : Base} {h : H}

def rngE (x lo hi : Int) : Int := if x < lo ∨ hi < x then 3 else 0
theorem rng_ok {x lo hi : Int} (h : rngE x lo hi = 0) : lo ≤ x ∧ x ≤ hi := by
  unfold rngE at h
  split at h
  · cases h
  · omega
def firstNZ : List Int → Int
  | [] => 0
  | e :: l => if e = 0 then firstNZ l else e
theorem firstNZ_zero : ∀ {l : List Int}, firstNZ l = 0 → ∀ x ∈ l, x = 0
  | [], _, x, hx => by simp at hx
  | e :: l, h, x, hx => by
    unfold firstNZ at h
    split at h
    · rename_i he
      rcases List.mem_cons.1 hx with rfl | hx
      · exact he
      · exact firstNZ_zero h x hx
    · rename_i he; exact absurd h he
theorem firstNZ_one {E : Int} {l : List Int} (h : E ≠ 0) : firstNZ (E :: l) = E := by
  unfold firstNZ; rw [if_neg h]
theorem firstNZ_skip {l : List Int} : firstNZ (0 :: l) = firstNZ l := by
  rw [firstNZ, if_pos rfl]
theorem sing_nz (v : Int) : firstNZ [v] = v := by
  by_cases h : v = 0
  · subst h; rw [firstNZ_skip]; simp [firstNZ]
  · exact firstNZ_one h
/-- The first value that isn't 0. -/
def errN (f : Nat → Int) : Nat → Int
  | 0 => 0
  | k + 1 => if errN f k ≠ 0 then errN f k else f k
theorem errN_zero (f : Nat → Int) : errN f 0 = 0 := by simp [errN]
theorem errN_hit {f : Nat → Int} {k n : Nat} (hk : k ≤ n) (h : errN f k ≠ 0) : errN f n = errN f k := by
  induction n with
  | zero => have : k = 0 := by omega
            rw [this]
  | succ n ih =>
    by_cases q : k = n + 1
    · rw [q]
    · have := ih (by omega)
      show (if errN f n ≠ 0 then errN f n else f n) = errN f k
      rw [this, if_pos h]
theorem errN_next {f : Nat → Int} {k : Nat} (h : errN f k = 0) : errN f (k + 1) = f k := by
  show (if errN f k ≠ 0 then errN f k else f k) = f k
  rw [if_neg (by omega)]
theorem c96 (x lo hi : Int) : Cl (mz G) (.func (.func 96) #[] #[]) [.int .i64 x, .int .i64 lo, .int .i64 hi] h (.int .i64 (rngE x lo hi)) h := by
  refine cl_of_cf (cf_enter0 15 [.tmp 6] Tryz.func96 rfl rfl rfl rfl ?_)
  repeat' (first | with_reducible refine wo_nil ?_ | ((with_reducible refine wo_any ?_); first | ((with_reducible refine ik_move ?_); refine wo_op rfl (op_move rfl) rfl rfl ?_) | ((with_reducible refine ik_assign ?_); refine wo_op rfl (op_assign rfl) rfl rfl ?_) | ((with_reducible refine ik_bin ?_); refine wo_op rfl (op_lss rfl rfl) rfl rfl ?_) | ((with_reducible refine ik_pick ?_); first | refine wo_op rfl (op_pickt rfl rfl) rfl rfl ?_ | refine wo_op rfl (op_pickf rfl rfl) rfl rfl ?_) | ((with_reducible refine ik_g ?_); first | refine wo_gskip rfl rfl rfl rfl rfl rfl ?_ | ((with_reducible refine ig_move ?_); refine wo_grun rfl rfl rfl (op_move rfl) rfl rfl ?_) | ((with_reducible refine ig_bin ?_); refine wo_grun rfl rfl rfl (op_gtr rfl rfl) rfl rfl ?_) | (refine wo_gsplit rfl rfl rfl (fun hb => ?_) (fun hb => ?_) <;> (try simp only [decide_eq_true_eq, decide_eq_false_iff_not, Bool.not_eq_true', Bool.not_eq_false', Int.not_lt, Int.not_le, Decidable.not_not, not_true_eq_false, not_false_eq_true, beq_self_eq_true, reduceCtorEq] at hb) <;> (try (exfalso; omega))))) | with_reducible refine sq_norm ?_ | with_reducible refine wc_seq ?_ | with_reducible refine wc_region ?_ | with_reducible refine wc_skip ?_ | with_reducible refine wc_ret ?_ | with_reducible refine sq_ret ?_ | refine wc_ift rfl ?_ | (refine wc_if rfl (fun hb => ?_) (fun hb => ?_) <;> (try simp only [decide_eq_true_eq, decide_eq_false_iff_not, Bool.not_eq_true', Bool.not_eq_false', Int.not_lt, Int.not_le, Decidable.not_not, not_true_eq_false, not_false_eq_true, beq_self_eq_true, reduceCtorEq] at hb) <;> (try (exfalso; omega))))
  all_goals refine rq1 rfl ⟨?_, rfl⟩
  all_goals (unfold rngE; congr 1; first | rw [if_pos (by omega)] | rw [if_neg (by omega)])
theorem c143 (b : Bool) (v : Int) : Cl (mz G) (.func (.func 143) #[] #[]) [.bool b, .int .i64 v] h (.int .i64 (if b then v else 0)) h := by
  refine cl_of_cf (cf_enter0 7 [.tmp 4] Tryz.func143 rfl rfl rfl rfl ?_)
  repeat' (first | with_reducible refine wo_nil ?_ | ((with_reducible refine wo_any ?_); first | ((with_reducible refine ik_move ?_); refine wo_op rfl (op_move rfl) rfl rfl ?_) | ((with_reducible refine ik_assign ?_); refine wo_op rfl (op_assign rfl) rfl rfl ?_)) | with_reducible refine sq_norm ?_ | with_reducible refine wc_seq ?_ | with_reducible refine wc_region ?_ | with_reducible refine wc_skip ?_ | with_reducible refine wc_ret ?_ | with_reducible refine sq_ret ?_ | (refine wc_if rfl (fun hb => ?_) (fun hb => ?_) <;> (try simp only [decide_eq_true_eq, decide_eq_false_iff_not, Bool.not_eq_true', Bool.not_eq_false', Int.not_lt, Int.not_le, Decidable.not_not, not_true_eq_false, not_false_eq_true, beq_self_eq_true, reduceCtorEq] at hb) <;> (try (exfalso; omega))))
  all_goals refine rq1 rfl ⟨?_, rfl⟩
  all_goals simp [hb]
theorem c72 (x lo hi : Int) : Cl (mz G) (.func (.func 72) #[] #[]) [.int .i64 x, .int .i64 lo, .int .i64 hi] h (.int .i64 (rngE x lo hi)) h := by
  refine cl_of_cf (cf_enter0 16 [.tmp 6] Tryz.func72 rfl rfl rfl rfl ?_)
  repeat' (first | with_reducible refine wo_nil ?_ | ((with_reducible refine wo_any ?_); first | ((with_reducible refine ik_move ?_); refine wo_op rfl (op_move rfl) rfl rfl ?_) | ((with_reducible refine ik_assign ?_); refine wo_op rfl (op_assign rfl) rfl rfl ?_) | ((with_reducible refine ik_bin ?_); refine wo_op rfl (op_lss rfl rfl) rfl rfl ?_) | ((with_reducible refine ik_pick ?_); first | refine wo_op rfl (op_pickt rfl rfl) rfl rfl ?_ | refine wo_op rfl (op_pickf rfl rfl) rfl rfl ?_) | ((with_reducible refine ik_callF (f := 143) ?_); refine wo_op rfl (op_call rfl rfl (c143 _ _)) rfl rfl ?_) | ((with_reducible refine ik_g ?_); first | refine wo_gskip rfl rfl rfl rfl rfl rfl ?_ | ((with_reducible refine ig_move ?_); refine wo_grun rfl rfl rfl (op_move rfl) rfl rfl ?_) | ((with_reducible refine ig_bin ?_); refine wo_grun rfl rfl rfl (op_gtr rfl rfl) rfl rfl ?_) | (refine wo_gsplit rfl rfl rfl (fun hb => ?_) (fun hb => ?_) <;> (try simp only [decide_eq_true_eq, decide_eq_false_iff_not, Bool.not_eq_true', Bool.not_eq_false', Int.not_lt, Int.not_le, Decidable.not_not, not_true_eq_false, not_false_eq_true, beq_self_eq_true, reduceCtorEq] at hb) <;> (try (exfalso; omega))))) | with_reducible refine sq_norm ?_ | with_reducible refine wc_seq ?_ | with_reducible refine wc_region ?_ | with_reducible refine wc_ret ?_)
  all_goals refine rq1 rfl ⟨?_, rfl⟩
  all_goals unfold rngE
  · rw [if_pos rfl, if_pos (.inl hb)]
  · by_cases hc : hi < x
    · rw [decide_eq_true hc, if_pos rfl, if_pos (.inr hc)]
    · rw [decide_eq_false hc, if_neg (by decide), if_neg (by omega)]
theorem c93 {v : Value} {n : Nat} {es : List Int} (s : Sl G h 1 v n (es.map (.int .i64))) (hn : n < 1000000) : Cl (mz G) (.func (.func 93) #[] #[]) [v] h (.int .i64 (firstNZ es)) h := by
  obtain ⟨a, c, rfl⟩ := s.form
  have hl := s.length
  simp at hl
  refine cl_of_cf (cf_enter0 15 [.tmp 2] Tryz.func93 rfl rfl rfl rfl ?_)
  repeat' (first | with_reducible refine wo_nil ?_ | ((with_reducible refine wo_any ?_); first | ((with_reducible refine ik_move ?_); refine wo_op rfl (op_move rfl) rfl rfl ?_) | ((with_reducible refine ik_assign ?_); refine wo_op rfl (op_assign rfl) rfl rfl ?_) | ((with_reducible refine ik_callb ?_); refine wo_op rfl (op_lenSl rfl Tryz.underlying238) rfl rfl ?_)) | with_reducible refine sq_norm ?_ | with_reducible refine wc_seq ?_ | with_reducible refine wc_region ?_ | with_reducible refine wc_block ?_)
  refine wc_loop (fun k => n - k) (fun k : Nat => [(5, .slice a n c), (6, .int .i64 n), (7, .int .i64 k)]) (fun k h' => h' = h ∧ k ≤ n ∧ firstNZ (es.drop k) = firstNZ es) 0 (within_lk ⟨rfl, rfl, rfl, trivial⟩) ⟨rfl, Nat.zero_le _, rfl⟩ ?_
  rintro k h' ⟨rfl, hk, hi⟩
  by_cases hlt : k < n
  · obtain ⟨ad, h1, h2⟩ := s.addr (M := mz G) Tryz.underlying238 (es := 1) zs26 (i := k) (k := .i64) (by omega) (by omega)
    have h3 : acell G h' ad = some (.int .i64 (es[k]'(by omega))) := h2.get 0 _ (by simp)
    rw [List.drop_eq_getElem_cons (by omega), firstNZ] at hi
    repeat' (first | with_reducible refine wo_nil ?_ | ((with_reducible refine wo_any ?_); first | ((with_reducible refine ik_move ?_); refine wo_op rfl (op_move rfl) rfl rfl ?_) | ((with_reducible refine ik_assign ?_); refine wo_op rfl (op_assign rfl) rfl rfl ?_) | ((with_reducible refine ik_indexAddr ?_); refine wo_op rfl (op_indexAddr rfl rfl h1) rfl rfl ?_) | ((with_reducible refine ik_load ?_); refine wo_op rfl (op_ldCell rfl Tryz.underlying26 rfl h3) rfl rfl ?_) | ((with_reducible refine ik_bin ?_); first | refine wo_op rfl (op_lss rfl rfl) rfl rfl ?_ | refine wo_op rfl (op_neq rfl rfl) rfl rfl ?_ | refine wo_op rfl (op_add' rfl rfl (w64 (by omega) (by omega))) rfl rfl ?_)) | with_reducible refine sq_norm ?_ | with_reducible refine wc_seq ?_ | with_reducible refine wc_region ?_ | with_reducible refine wc_skip ?_ | with_reducible refine wc_ret ?_ | with_reducible refine wc_block ?_ | with_reducible refine bq_norm ?_ | with_reducible refine bq_ret ?_ | with_reducible refine sq_ret ?_ | with_reducible refine lq_ret ?_ | (refine wc_if rfl (fun hb => ?_) (fun hb => ?_) <;> (try simp only [decide_eq_true_eq, decide_eq_false_iff_not, Bool.not_eq_true', Bool.not_eq_false', Int.not_lt, Int.not_le, Decidable.not_not, not_true_eq_false, not_false_eq_true, beq_self_eq_true, reduceCtorEq] at hb) <;> (try (exfalso; omega))))
    · refine rq1 rfl ⟨?_, rfl⟩
      rw [if_neg hb] at hi; rw [hi]
    · refine lq_norm (k + 1) (by omega) (within_lk ⟨rfl, rfl, rfl, trivial⟩) ⟨rfl, by omega, ?_⟩
      rw [if_pos hb] at hi; exact hi
  · repeat' (first | with_reducible refine wo_nil ?_ | ((with_reducible refine wo_any ?_); first | ((with_reducible refine ik_assign ?_); refine wo_op rfl (op_assign rfl) rfl rfl ?_) | ((with_reducible refine ik_bin ?_); refine wo_op rfl (op_lss rfl rfl) rfl rfl ?_)) | with_reducible refine sq_norm ?_ | with_reducible refine wc_seq ?_ | with_reducible refine wc_region ?_ | with_reducible refine wc_ret ?_ | with_reducible refine wc_exit ?_ | with_reducible refine sq_exit ?_ | with_reducible refine lq_exit ?_ | refine bq_eq rfl ?_ | (refine wc_if rfl (fun hb => ?_) (fun hb => ?_) <;> (try simp only [decide_eq_true_eq, decide_eq_false_iff_not, Bool.not_eq_true', Bool.not_eq_false', Int.not_lt, Int.not_le, Decidable.not_not, not_true_eq_false, not_false_eq_true, beq_self_eq_true, reduceCtorEq] at hb) <;> (try (exfalso; omega))))
    refine rq1 rfl ⟨?_, rfl⟩
    rw [List.drop_eq_nil_of_le (by omega)] at hi
    rw [← hi]; rfl
theorem c91 {v : Value} {n : Nat} {es : List Int} (s : Sl G h 1 v n (es.map (.int .i64))) (hn : n < 1000000) : Cl (mz G) (.func (.func 91) #[] #[]) [v] h (.int .i64 (firstNZ es)) h := by
  obtain ⟨a, c, rfl⟩ := s.form
  have hl := s.length
  simp at hl
  refine cl_of_cf (cf_enter0 19 [.tmp 2] Tryz.func91 rfl rfl rfl rfl ?_)
  repeat' (first | with_reducible refine wo_nil ?_ | ((with_reducible refine wo_any ?_); ((with_reducible refine ik_assign ?_); refine wo_op rfl (op_assign rfl) rfl rfl ?_)) | with_reducible refine sq_norm ?_ | with_reducible refine wc_seq ?_ | with_reducible refine wc_region ?_ | with_reducible refine wc_block ?_)
  refine wc_loop (fun k => n - k) (fun k : Nat => [(0, .slice a n c), (3, .int .i64 k)]) (fun k h' => h' = h ∧ k ≤ n ∧ firstNZ (es.drop k) = firstNZ es) 0 (within_lk ⟨rfl, rfl, trivial⟩) ⟨rfl, Nat.zero_le _, rfl⟩ ?_
  rintro k h' ⟨rfl, hk, hi⟩
  by_cases hlt : k < n
  · obtain ⟨ad, h1, h2⟩ := s.addr (M := mz G) Tryz.underlying49 (es := 1) zs3 (i := k) (k := .i64) (by omega) (by omega)
    have h3 : acell G h' ad = some (.int .i64 (es[k]'(by omega))) := h2.get 0 _ (by simp)
    rw [List.drop_eq_getElem_cons (by omega), firstNZ] at hi
    repeat' (first | with_reducible refine wo_nil ?_ | ((with_reducible refine wo_any ?_); first | ((with_reducible refine ik_move ?_); refine wo_op rfl (op_move rfl) rfl rfl ?_) | ((with_reducible refine ik_assign ?_); refine wo_op rfl (op_assign rfl) rfl rfl ?_) | ((with_reducible refine ik_indexAddr ?_); refine wo_op rfl (op_indexAddr rfl rfl h1) rfl rfl ?_) | ((with_reducible refine ik_load ?_); refine wo_op rfl (op_ldCell rfl Tryz.underlying3 rfl h3) rfl rfl ?_) | ((with_reducible refine ik_callb ?_); refine wo_op rfl (op_lenSl rfl Tryz.underlying49) rfl rfl ?_) | ((with_reducible refine ik_bin ?_); first | refine wo_op rfl (op_lss rfl rfl) rfl rfl ?_ | refine wo_op rfl (op_neq rfl rfl) rfl rfl ?_ | refine wo_op rfl (op_add' rfl rfl (w64 (by omega) (by omega))) rfl rfl ?_)) | with_reducible refine sq_norm ?_ | with_reducible refine wc_seq ?_ | with_reducible refine wc_region ?_ | with_reducible refine wc_skip ?_ | with_reducible refine wc_ret ?_ | with_reducible refine wc_block ?_ | with_reducible refine bq_norm ?_ | with_reducible refine bq_ret ?_ | with_reducible refine sq_ret ?_ | with_reducible refine lq_ret ?_ | (refine wc_if rfl (fun hb => ?_) (fun hb => ?_) <;> (try simp only [decide_eq_true_eq, decide_eq_false_iff_not, Bool.not_eq_true', Bool.not_eq_false', Int.not_lt, Int.not_le, Decidable.not_not, not_true_eq_false, not_false_eq_true, beq_self_eq_true, reduceCtorEq] at hb) <;> (try (exfalso; omega))))
    · refine rq1 rfl ⟨?_, rfl⟩
      rw [if_neg hb] at hi; rw [hi]
    · refine lq_norm (k + 1) (by omega) (within_lk ⟨rfl, rfl, trivial⟩) ⟨rfl, by omega, ?_⟩
      rw [if_pos hb] at hi; exact hi
  · repeat' (first | with_reducible refine wo_nil ?_ | ((with_reducible refine wo_any ?_); first | ((with_reducible refine ik_move ?_); refine wo_op rfl (op_move rfl) rfl rfl ?_) | ((with_reducible refine ik_assign ?_); refine wo_op rfl (op_assign rfl) rfl rfl ?_) | ((with_reducible refine ik_callb ?_); refine wo_op rfl (op_lenSl rfl Tryz.underlying49) rfl rfl ?_) | ((with_reducible refine ik_bin ?_); refine wo_op rfl (op_lss rfl rfl) rfl rfl ?_)) | with_reducible refine sq_norm ?_ | with_reducible refine wc_seq ?_ | with_reducible refine wc_region ?_ | with_reducible refine wc_ret ?_ | with_reducible refine wc_exit ?_ | with_reducible refine sq_exit ?_ | with_reducible refine lq_exit ?_ | refine bq_eq rfl ?_ | (refine wc_if rfl (fun hb => ?_) (fun hb => ?_) <;> (try simp only [decide_eq_true_eq, decide_eq_false_iff_not, Bool.not_eq_true', Bool.not_eq_false', Int.not_lt, Int.not_le, Decidable.not_not, not_true_eq_false, not_false_eq_true, beq_self_eq_true, reduceCtorEq] at hb) <;> (try (exfalso; omega))))
    refine rq1 rfl ⟨?_, rfl⟩
    rw [List.drop_eq_nil_of_le (by omega)] at hi
    rw [← hi]; rfl
/-- The error of a point. -/
def ptE (x y L : Int) : Int := firstNZ [rngE x (-L) L, rngE y (-L) L]
def vesE (x y u v t : Int) : Int := firstNZ [ptE x y 100000, ptE u v 1000, rngE t 1 4096]
def watE (r sp lo cl so : Int) : Int := firstNZ [rngE r 0 10000, rngE sp 0 1000, rngE lo 0 1000, rngE cl 0 1000, rngE so 0 1000]
/-! lists of records -/
theorem cells_left {G : Base} {h : H} {a : Addr} {x y : List Value} (c : Cells G h a (x ++ y)) : Cells G h a x := ⟨c.lt, fun i v q => c.get i v (by rw [List.getElem?_append_left (List.getElem?_eq_some_iff.1 q).1]; exact q), c.spot, c.own⟩
theorem op_ldLn {M : Mc} {l : KL} {h : H} {t : TypeId} {x : Operand} {a : Addr} {c : List Value} {d : TypeDesc} {n : Nat} (hx : val l x = some (.pointer (some a))) (hu : M.P.underlying t = some d) (hd : isAggD d = true) (hn : tsz M.P t = some n) (hc : acells M.G h n a = some c) : Op1 M (.load t x) l h (.agg ⟨c⟩) h :=
  op_load hx (ld_agg hu hd hn hc)
theorem flat_len {α : Type} {f : α → List Value} {w : Nat} (hf : ∀ a, (f a).length = w) : ∀ l : List α, (l.flatMap f).length = l.length * w
  | [] => by simp
  | p :: ps => by rw [List.flatMap_cons, List.length_append, flat_len hf ps, hf, List.length_cons, Nat.succ_mul]; omega
theorem flat_drop {α : Type} {f : α → List Value} {w : Nat} (hf : ∀ a, (f a).length = w) (d : α) : ∀ (l : List α) (k : Nat), k < l.length → (l.flatMap f).drop (k * w) = f (l.getD k d) ++ (l.drop (k + 1)).flatMap f
  | p :: ps, 0, _ => by simp
  | p :: ps, k + 1, hk => by
    have ih := flat_drop hf d ps k (by simpa using hk)
    have e : ((p :: ps).flatMap f).drop ((k + 1) * w) = (ps.flatMap f).drop (k * w) := by
      rw [List.flatMap_cons, show (k + 1) * w = (f p).length + k * w by rw [hf, Nat.succ_mul]; omega, List.drop_append]
      simp
    rw [e, ih]; rfl
theorem rl_at {α : Type} {f : α → List Value} {w : Nat} (hf : ∀ a, (f a).length = w) (d : α) {v : Value} {n : Nat} {l : List α} (s : Sl G h w v n (l.flatMap f)) (hl : l.length = n) {st et : TypeId} (hu : Tryz.prog.underlying st = some (.slice et)) (hz : tsz Tryz.prog et = some w) {i : Int} {q : Nat} (hq : q < n) (hi : i = (q : Int)) :
    ∃ ad, aindexAddr Tryz.prog st v (.int .i64 i) = some (.pointer (some ad)) ∧ ∀ h', Grow h h' → Cells G h' ad (f (l.getD q d)) := by
  have key : ∀ h', Grow h h' → ∃ ad, aindexAddr Tryz.prog st v (.int .i64 i) = some (.pointer (some ad)) ∧ Cells G h' ad (f (l.getD q d)) := fun h' g => by
    obtain ⟨ad, h1, h2⟩ := (s.grow g).addr (M := mz G) hu (es := w) hz (i := i) (k := .i64) (by omega) (by omega)
    rw [show i.toNat * w = q * w by rw [hi, Int.toNat_natCast], flat_drop hf d l q (by omega)] at h2
    exact ⟨ad, h1, cells_left h2⟩
  obtain ⟨ad, h1, _⟩ := key h (Grow.refl _)
  refine ⟨ad, h1, fun h' g => ?_⟩
  obtain ⟨ad', k1, k2⟩ := key h' g
  rw [h1] at k1
  cases k1
  exact k2
theorem take_next {α : Type} {l : List α} {k : Nat} (d : α) (h : k < l.length) : l.take (k + 1) = l.take k ++ [l.getD k d] := by
  rw [List.take_succ_eq_append_getElem h]; simp [List.getD, List.getElem?_eq_getElem h]
theorem drop_next {α : Type} {l : List α} {k : Nat} (d : α) (h : k < l.length) : l.drop k = l.getD k d :: l.drop (k + 1) := by
  rw [List.drop_eq_getElem_cons h]; simp [List.getD, List.getElem?_eq_getElem h]
end Go.Proofs.YtlioomhcdlicmaaGreatDoor
