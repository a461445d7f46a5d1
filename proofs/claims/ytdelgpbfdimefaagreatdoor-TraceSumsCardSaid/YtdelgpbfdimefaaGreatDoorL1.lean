/- Contracts of functions on lists of samples: checks, copies, convolutions. -/
import Derived.Test.YtdelgpbfdimefaaGreatDoorC2
import Derived.Test.YtdelgpbfdimefaaGreatDoorK3
import Derived.Test.YtdelgpbfdimefaaGreatDoorK2
set_option linter.all false
/- Lists of samples: their checks, integers and samples. -/
namespace Go.Proofs.YtdelgpbfdimefaaGreatDoor
open Go Go.Ab Go.Fl
attribute [local irreducible] SeqQ BlkQ LpQ RetQ Wc Wo WD WX Op1 Op1q Op1a Cf Cl From
attribute [local irreducible] Ieee.Format.order Ieee.Format.read Ieee.Format.nearest Ieee.Format.write Ieee.Format.mul Ieee.Format.div Ieee.Datum.order Ieee.Datum.integral smpE smp smpW K J U
set_option maxRecDepth 10000
variable {G : Base} {h : H}
theorem c125 {x : Nat} (hx : smpE x = 0) : Cl (mz G) (.func (.func 125) #[] #[]) [.float .f32 x] h (.int .i64 (smp x)) h := by
 obtain ⟨c, h1, h2⟩ := mul16 hx
 obtain ⟨_, _, _, _, _, h3, h4⟩ := smp_read hx
 refine cl_of_cf (cf_enter0 6 [.tmp 2] Tryz.func125 rfl rfl rfl rfl ?_)
 repeat' (first | with_reducible refine wo_nil ?_ | ((with_reducible refine wo_any ?_); first | refine wq_A (op_move rfl) ?_ | refine wq_A (op_assign rfl) ?_ | refine wq_A (op_fmul rfl rfl h1) ?_ | refine wq_A (op_cvfi rfl Tryz.underlying23 Tryz.underlying3 (floatInt_num h2 h3 h4)) ?_) | (with_reducible first | refine sq_norm ?_ | refine wc_seq ?_ | refine wc_region ?_ | refine wc_ret ?_))
 exact rq1 rfl ⟨rfl, rfl⟩
theorem c128 {x : Nat} (hx : smpE x = 0) : Cl (mz G) (.func (.func 128) #[] #[]) [.float .f32 x] h (.int .i64 (smp x)) h := by
 obtain ⟨c, h1, h2⟩ := mul16 hx
 obtain ⟨_, _, _, _, _, h3, h4⟩ := smp_read hx
 refine cl_of_cf (cf_enter0 6 [.tmp 2] Tryz.func128 rfl rfl rfl rfl ?_)
 repeat' (first | with_reducible refine wo_nil ?_ | ((with_reducible refine wo_any ?_); first | refine wq_A (op_move rfl) ?_ | refine wq_A (op_assign rfl) ?_ | refine wq_A (op_fmul rfl rfl h1) ?_ | refine wq_A (op_cvfi rfl Tryz.underlying23 Tryz.underlying3 (floatInt_num h2 h3 h4)) ?_) | (with_reducible first | refine sq_norm ?_ | refine wc_seq ?_ | refine wc_region ?_ | refine wc_ret ?_))
 exact rq1 rfl ⟨rfl, rfl⟩
theorem c130 {n : Int} (hn : n.natAbs ≤ 16384) : Cl (mz G) (.func (.func 130) #[] #[]) [.int .i64 n] h (.float .f32 (smpW n)) h := by
 obtain ⟨h1, _⟩ := div16 hn
 refine cl_of_cf (cf_enter0 6 [.tmp 2] Tryz.func130 rfl rfl rfl rfl ?_)
 repeat' (first | with_reducible refine wo_nil ?_ | ((with_reducible refine wo_any ?_); first | refine wq_A (op_move rfl) ?_ | refine wq_A (op_assign rfl) ?_ | refine wq_A (op_cvif rfl Tryz.underlying3 Tryz.underlying23 rfl) ?_ | refine wq_A (op_fdiv rfl rfl h1) ?_) | (with_reducible first | refine sq_norm ?_ | refine wc_seq ?_ | refine wc_region ?_ | refine wc_ret ?_))
 exact rq1 rfl ⟨rfl, rfl⟩
theorem c151 {n : Int} (hn : n.natAbs ≤ 16384) : Cl (mz G) (.func (.func 151) #[] #[]) [.int .i64 n] h (.float .f32 (smpW n)) h := by
 obtain ⟨h1, _⟩ := div16 hn
 refine cl_of_cf (cf_enter0 6 [.tmp 2] Tryz.func151 rfl rfl rfl rfl ?_)
 repeat' (first | with_reducible refine wo_nil ?_ | ((with_reducible refine wo_any ?_); first | refine wq_A (op_move rfl) ?_ | refine wq_A (op_assign rfl) ?_ | refine wq_A (op_cvif rfl Tryz.underlying3 Tryz.underlying23 rfl) ?_ | refine wq_A (op_fdiv rfl rfl h1) ?_) | (with_reducible first | refine sq_norm ?_ | refine wc_seq ?_ | refine wc_region ?_ | refine wc_ret ?_))
 exact rq1 rfl ⟨rfl, rfl⟩
def isLargeB (n : Int) : Bool := decide (16384 < n ∨ n < -16384)
theorem c129 (n : Int) : Cl (mz G) (.func (.func 129) #[] #[]) [.int .i64 n] h (.bool (isLargeB n)) h := by
 unfold isLargeB
 refine cl_of_cf (cf_enter0 9 [.tmp 2] Tryz.func129 rfl rfl rfl rfl ?_)
 repeat' (first | with_reducible refine wo_nil ?_ | ((with_reducible refine wo_any ?_); first | refine wq_A (op_move rfl) ?_ | refine wq_A (op_assign rfl) ?_ | refine wq_A (op_gtr rfl rfl) ?_ | ((with_reducible refine ik_pick ?_); first | refine wq_A (op_pickt rfl rfl) ?_ | refine wq_A (op_pickf rfl rfl) ?_) | ((with_reducible refine ik_g ?_); first | refine wo_gskip rfl rfl rfl rfl rfl rfl ?_ | refine wo_grun rfl rfl rfl (op_move rfl) rfl rfl ?_ | refine wo_grun rfl rfl rfl (op_lss rfl rfl) rfl rfl ?_ | (refine wo_gsplit rfl rfl rfl (fun hb => ?_) (fun hb => ?_) <;> (try simp only [bb_A, reduceCtorEq] at hb) <;> (try (exfalso; omega))))) | (with_reducible first | refine sq_norm ?_ | refine wc_seq ?_ | refine wc_region ?_ | refine wc_ret ?_))
 all_goals refine rq1 rfl ⟨?_, rfl⟩
 all_goals first
   | rw [decide_eq_true (by omega)]
   | rw [decide_eq_false (by omega)]
   | (congr 1; rw [decide_eq_decide]; omega)
def lchk (l : List Nat) : Int := if 1024 < l.length then 5 else firstNZ (l.map smpE)
theorem c149 {v : Value} {n : Nat} {l : List Nat} (s : Sl G h 1 v n (l.map (.float .f32))) (hn : n < 1000000) : Cl (mz G) (.func (.func 149) #[] #[]) [v, .func (.func 26) #[] #[]] h (.int .i64 (firstNZ (l.map smpE))) h := by
 obtain ⟨a, c, rfl⟩ := s.form
 have hl := s.length
 simp at hl
 refine cl_of_cf (cf_enter0 21 [.tmp 4] Tryz.func149 rfl rfl rfl rfl ?_)
 repeat' (first | with_reducible refine wo_nil ?_ | ((with_reducible refine wo_any ?_); first | refine wq_A (op_move rfl) ?_ | refine wq_A (op_assign rfl) ?_ | refine wq_A (op_lenSl rfl Tryz.underlying45) ?_) | (with_reducible first | refine sq_norm ?_ | refine wc_seq ?_ | refine wc_region ?_ | refine wc_block ?_))
 refine wc_loop (fun k => n - k) (fun k : Nat => [(1, .func (.func 26) #[] #[]), (8, .slice a n c), (9, .int .i64 n), (10, .int .i64 k)]) (fun k h' => h' = h ∧ k ≤ n ∧ firstNZ ((l.drop k).map smpE) = firstNZ (l.map smpE)) 0 (within_lk ⟨rfl, rfl, rfl, rfl, trivial⟩) ⟨rfl, Nat.zero_le _, rfl⟩ ?_
 rintro k h' ⟨rfl, hk, hi⟩
 by_cases hlt : k < n
 · obtain ⟨ad, h1, h2⟩ := s.addr (M := mz G) Tryz.underlying45 (es := 1) zs23 (i := k) (k := .i64) (by omega) (by omega)
   have h3 : acell G h' ad = some (.float .f32 (l[k]'(by omega))) := h2.get 0 _ (by simp)
   rw [List.drop_eq_getElem_cons (by omega), List.map_cons, firstNZ] at hi
   repeat' (first | with_reducible refine wo_nil ?_ | ((with_reducible refine wo_any ?_); first | refine wq_A (op_move rfl) ?_ | refine wq_A (op_assign rfl) ?_ | refine wq_A (op_indexAddr rfl rfl h1) ?_ | refine wq_A (op_ldCell rfl Tryz.underlying23 rfl h3) ?_ | ((with_reducible refine ik_bin ?_); first | refine wq_A (op_lss rfl rfl) ?_ | refine wq_A (op_neq rfl rfl) ?_ | refine wq_A (op_add' rfl rfl (w64 (by omega) (by omega))) ?_) | ((with_reducible refine ik_callv ?_); refine wq_A (op_call rfl rfl ((c26 _))) ?_)) | (with_reducible first | refine sq_norm ?_ | refine wc_seq ?_ | refine wc_region ?_ | refine wc_skip ?_ | refine wc_ret ?_ | refine wc_block ?_ | refine bq_norm ?_ | refine bq_ret ?_ | refine sq_ret ?_ | refine lq_ret ?_) | (refine wc_if rfl (fun hb => ?_) (fun hb => ?_) <;> (try simp only [bb_A, reduceCtorEq] at hb) <;> (try (exfalso; omega))))
   · refine rq1 rfl ⟨?_, rfl⟩
     rw [if_neg hb] at hi; rw [hi]
   · refine lq_norm (k + 1) (by omega) (within_lk ⟨rfl, rfl, rfl, rfl, trivial⟩) ⟨rfl, by omega, ?_⟩
     rw [if_pos hb] at hi; exact hi
 · repeat' (first | with_reducible refine wo_nil ?_ | ((with_reducible refine wo_any ?_); first | refine wq_A (op_assign rfl) ?_ | refine wq_A (op_lss rfl rfl) ?_) | (with_reducible first | refine sq_norm ?_ | refine wc_seq ?_ | refine wc_region ?_ | refine wc_ret ?_ | refine wc_exit ?_ | refine sq_exit ?_ | refine lq_exit ?_) | refine bq_eq rfl ?_ | (refine wc_if rfl (fun hb => ?_) (fun hb => ?_) <;> (try simp only [bb_A, reduceCtorEq] at hb) <;> (try (exfalso; omega))))
   refine rq1 rfl ⟨?_, rfl⟩
   rw [List.drop_eq_nil_of_le (by omega)] at hi
   rw [← hi]; rfl
theorem c135 {v : Value} {n : Nat} {l : List Nat} (s : Sl G h 1 v n (l.map (.float .f32))) (hn : n < 1000000) : Cl (mz G) (.func (.func 135) #[] #[]) [v] h (.int .i64 (firstNZ (l.map smpE))) h := by
 obtain ⟨a, c, rfl⟩ := s.form
 have hl := s.length
 simp at hl
 refine cl_of_cf (cf_enter0 19 [.tmp 2] Tryz.func135 rfl rfl rfl rfl ?_)
 repeat' (first | with_reducible refine wo_nil ?_ | ((with_reducible refine wo_any ?_); refine wq_A (op_assign rfl) ?_) | (with_reducible first | refine sq_norm ?_ | refine wc_seq ?_ | refine wc_region ?_ | refine wc_block ?_))
 refine wc_loop (fun k => n - k) (fun k : Nat => [(0, .slice a n c), (3, .int .i64 k)]) (fun k h' => h' = h ∧ k ≤ n ∧ firstNZ ((l.drop k).map smpE) = firstNZ (l.map smpE)) 0 (within_lk ⟨rfl, rfl, trivial⟩) ⟨rfl, Nat.zero_le _, rfl⟩ ?_
 rintro k h' ⟨rfl, hk, hi⟩
 by_cases hlt : k < n
 · obtain ⟨ad, h1, h2⟩ := s.addr (M := mz G) Tryz.underlying45 (es := 1) zs23 (i := k) (k := .i64) (by omega) (by omega)
   have h3 : acell G h' ad = some (.float .f32 (l[k]'(by omega))) := h2.get 0 _ (by simp)
   rw [List.drop_eq_getElem_cons (by omega), List.map_cons, firstNZ] at hi
   repeat' (first | with_reducible refine wo_nil ?_ | ((with_reducible refine wo_any ?_); first | refine wq_A (op_move rfl) ?_ | refine wq_A (op_assign rfl) ?_ | refine wq_A (op_indexAddr rfl rfl h1) ?_ | refine wq_A (op_ldCell rfl Tryz.underlying23 rfl h3) ?_ | refine wq_A (op_lenSl rfl Tryz.underlying45) ?_ | ((with_reducible refine ik_bin ?_); first | refine wq_A (op_lss rfl rfl) ?_ | refine wq_A (op_neq rfl rfl) ?_ | refine wq_A (op_add' rfl rfl (w64 (by omega) (by omega))) ?_) | ((with_reducible refine ik_callF (f := 27) ?_); refine wq_A (op_call rfl rfl (c27s _)) ?_)) | (with_reducible first | refine sq_norm ?_ | refine wc_seq ?_ | refine wc_region ?_ | refine wc_skip ?_ | refine wc_ret ?_ | refine wc_block ?_ | refine bq_norm ?_ | refine bq_ret ?_ | refine sq_ret ?_ | refine lq_ret ?_) | (refine wc_if rfl (fun hb => ?_) (fun hb => ?_) <;> (try simp only [bb_A, reduceCtorEq] at hb) <;> (try (exfalso; omega))))
   · refine rq1 rfl ⟨?_, rfl⟩
     rw [if_neg hb] at hi; rw [hi]
   · refine lq_norm (k + 1) (by omega) (within_lk ⟨rfl, rfl, trivial⟩) ⟨rfl, by omega, ?_⟩
     rw [if_pos hb] at hi; exact hi
 · repeat' (first | with_reducible refine wo_nil ?_ | ((with_reducible refine wo_any ?_); first | refine wq_A (op_move rfl) ?_ | refine wq_A (op_assign rfl) ?_ | refine wq_A (op_lenSl rfl Tryz.underlying45) ?_ | refine wq_A (op_lss rfl rfl) ?_) | (with_reducible first | refine sq_norm ?_ | refine wc_seq ?_ | refine wc_region ?_ | refine wc_ret ?_ | refine wc_exit ?_ | refine sq_exit ?_ | refine lq_exit ?_) | refine bq_eq rfl ?_ | (refine wc_if rfl (fun hb => ?_) (fun hb => ?_) <;> (try simp only [bb_A, reduceCtorEq] at hb) <;> (try (exfalso; omega))))
   refine rq1 rfl ⟨?_, rfl⟩
   rw [List.drop_eq_nil_of_le (by omega)] at hi
   rw [← hi]; rfl
theorem c106 {v : Value} {n : Nat} {l : List Nat} (s : Sl G h 1 v n (l.map (.float .f32))) (hn : n < 1000000) : Cl (mz G) (.func (.func 106) #[] #[]) [v] h (.int .i64 (lchk l)) h := by
 obtain ⟨a, c, rfl⟩ := s.form
 have hl := s.length
 simp at hl
 unfold lchk
 rw [hl]
 refine cl_of_cf (cf_enter0 8 [.tmp 2] Tryz.func106 rfl rfl rfl rfl ?_)
 repeat' (first | with_reducible refine wo_nil ?_ | ((with_reducible refine wo_any ?_); first | refine wq_A (op_move rfl) ?_ | refine wq_A (op_assign rfl) ?_ | refine wq_A (op_lenSl rfl Tryz.underlying45) ?_ | refine wq_A (op_gtr rfl rfl) ?_ | ((with_reducible refine ik_callF (f := 149) ?_); refine wq_A (op_call rfl rfl (c149 s hn)) ?_)) | (with_reducible first | refine sq_norm ?_ | refine wc_seq ?_ | refine wc_region ?_ | refine wc_skip ?_ | refine wc_ret ?_ | refine sq_ret ?_) | (refine wc_if rfl (fun hb => ?_) (fun hb => ?_) <;> (try simp only [bb_A, reduceCtorEq] at hb) <;> (try (exfalso; omega))))
 · refine rq1 rfl ⟨?_, rfl⟩
   rw [if_pos (by omega)]
 · refine rq1 rfl ⟨?_, rfl⟩
   rw [if_neg (by omega)]
theorem c64 {v : Value} {n : Nat} {l : List Nat} (s : Sl G h 1 v n (l.map (.float .f32))) (hn : n < 1000000) : Cl (mz G) (.func (.func 64) #[] #[]) [v] h (.int .i64 (lchk l)) h := by
 obtain ⟨a, c, rfl⟩ := s.form
 have hl := s.length
 simp at hl
 unfold lchk
 rw [hl]
 refine cl_of_cf (cf_enter0 8 [.tmp 2] Tryz.func64 rfl rfl rfl rfl ?_)
 repeat' (first | with_reducible refine wo_nil ?_ | ((with_reducible refine wo_any ?_); first | refine wq_A (op_move rfl) ?_ | refine wq_A (op_assign rfl) ?_ | refine wq_A (op_lenSl rfl Tryz.underlying45) ?_ | refine wq_A (op_gtr rfl rfl) ?_ | ((with_reducible refine ik_callF (f := 135) ?_); refine wq_A (op_call rfl rfl (c135 s hn)) ?_)) | (with_reducible first | refine sq_norm ?_ | refine wc_seq ?_ | refine wc_region ?_ | refine wc_skip ?_ | refine wc_ret ?_ | refine sq_ret ?_) | (refine wc_if rfl (fun hb => ?_) (fun hb => ?_) <;> (try simp only [bb_A, reduceCtorEq] at hb) <;> (try (exfalso; omega))))
 · refine rq1 rfl ⟨?_, rfl⟩
   rw [if_pos (by omega)]
 · refine rq1 rfl ⟨?_, rfl⟩
   rw [if_neg (by omega)]
theorem c57 {a : Option Addr} {n c : Nat} : Cl (mz G) (.func (.func 57) #[] #[]) [.slice a n c] h (.bool (decide (n ≤ 32 ∨ n = 1025))) h := by
 refine cl_of_cf (cf_enter0 11 [.tmp 2] Tryz.func57 rfl rfl rfl rfl ?_)
 repeat' (first | with_reducible refine wo_nil ?_ | ((with_reducible refine wo_any ?_); first | refine wq_A (op_move rfl) ?_ | refine wq_A (op_assign rfl) ?_ | refine wq_A (op_lenSl rfl Tryz.underlying45) ?_ | refine wq_A (op_leq rfl rfl) ?_ | ((with_reducible refine ik_pick ?_); first | refine wq_A (op_pickt rfl rfl) ?_ | refine wq_A (op_pickf rfl rfl) ?_) | ((with_reducible refine ik_g ?_); first | refine wo_gskip rfl rfl rfl rfl rfl rfl ?_ | refine wo_grun rfl rfl rfl (op_move rfl) rfl rfl ?_ | refine wo_grun rfl rfl rfl (op_lenSl rfl Tryz.underlying45) rfl rfl ?_ | refine wo_grun rfl rfl rfl (op_eql rfl rfl) rfl rfl ?_ | (refine wo_gsplit rfl rfl rfl (fun hb => ?_) (fun hb => ?_) <;> (try simp only [bb_A, reduceCtorEq] at hb) <;> (try (exfalso; omega))))) | (with_reducible first | refine sq_norm ?_ | refine wc_seq ?_ | refine wc_region ?_ | refine wc_ret ?_))
 all_goals refine rq1 rfl ⟨?_, rfl⟩
 all_goals first
   | rw [decide_eq_true (by omega)]
   | rw [decide_eq_false (by omega)]
   | (congr 1; rw [decide_eq_decide]; omega)
/- Lists of samples: copies, integers, samples; taps. -/
theorem all_one_map {α : Type} {f : α → Value} (hf : ∀ a, one (f a) = true) (l : List α) : (l.map f).all one = true := by
 rw [List.all_eq_true]; intro v hv
 obtain ⟨a, _, rfl⟩ := List.mem_map.1 hv
 exact hf a
theorem fill_step {α : Type} {f : α → Value} {z u : Value} {l : List α} {k n : Nat} (hn : l.length = n) (hk : k < n) (hu : u = f (l[k]'(by omega))) : ((l.take k).map f ++ List.replicate (n - k) z).set k u = (l.take (k + 1)).map f ++ List.replicate (n - (k + 1)) z := by
 subst hu
 have e : ((l.take k).map f).length = k := by simp; omega
 rw [List.set_append_right _ _ (by omega), e, Nat.sub_self]
 obtain ⟨m, hm⟩ : ∃ m, n - k = m + 1 := ⟨n - k - 1, by omega⟩
 rw [hm, show n - (k + 1) = m by omega, List.replicate_succ, List.take_succ_eq_append_getElem (by omega), List.map_append, List.append_assoc]
 rfl
theorem fill_end {α : Type} {f : α → Value} {z : Value} {l : List α} {n : Nat} (hn : l.length = n) : (l.take n).map f ++ List.replicate (n - n) z = l.map f := by
 rw [List.take_of_length_le (by omega), Nat.sub_self]; simp
/- Taps; lists convolved. -/
def anyLarge (l : List Int) : Bool := l.any isLargeB
end Go.Proofs.YtdelgpbfdimefaaGreatDoor
/- Lists convolved. -/
namespace Go.Proofs.YtdelgpbfdimefaaGreatDoor
open Go Go.Ab Go.Fl
attribute [local irreducible] SeqQ BlkQ LpQ RetQ Wc Wo WD WX Op1 Op1q Op1a Cf Cl From
attribute [local irreducible] Ieee.Format.order Ieee.Format.read Ieee.Format.nearest Ieee.Format.write Ieee.Format.mul Ieee.Format.div Ieee.Datum.order Ieee.Datum.integral smpE smp smpW K J U spread sumN
set_option maxRecDepth 10000
variable {G : Base} {h : H}
theorem getD_bound {l : List Int} {A : Nat} (h : ∀ x ∈ l, x.natAbs ≤ A) (i : Nat) : (l.getD i 0).natAbs ≤ A := by
 by_cases q : i < l.length
 · have : l.getD i 0 = l[i] := by simp [List.getD, List.getElem?_eq_getElem q]
   rw [this]; exact h _ (List.getElem_mem _)
 · simp [List.getD, List.getElem?_eq_none (by omega : l.length ≤ i)]
theorem getElem_getD {l : List Int} {i : Nat} (h : i < l.length) : l[i] = l.getD i 0 := by simp [List.getD, List.getElem?_eq_getElem h]
end Go.Proofs.YtdelgpbfdimefaaGreatDoor
