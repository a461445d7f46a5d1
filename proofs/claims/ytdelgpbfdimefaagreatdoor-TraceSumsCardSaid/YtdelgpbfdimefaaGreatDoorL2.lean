/- Contracts of functions on lists of samples: convolutions, correlations. -/
import Derived.Test.YtdelgpbfdimefaaGreatDoorL1
import Derived.Test.YtdelgpbfdimefaaGreatDoorK2
set_option linter.all false
/- Lists convolved: by the reference. -/
namespace Go.Proofs.YtdelgpbfdimefaaGreatDoor
open Go Go.Ab Go.Fl
attribute [local irreducible] SeqQ BlkQ LpQ RetQ Wc Wo WD WX Op1 Op1q Op1a Cf Cl From
attribute [local irreducible] Ieee.Format.order Ieee.Format.read Ieee.Format.nearest Ieee.Format.write Ieee.Format.mul Ieee.Format.div Ieee.Datum.order Ieee.Datum.integral smpE smp smpW K J U spread sumN
set_option maxRecDepth 10000
variable {G : Base} {h : H}
theorem map_getD {l : List Nat} {i : Nat} (h : i < l.length) : (l.map smp).getD i 0 = smp l[i] := by simp [List.getD, List.getElem?_eq_getElem h]
theorem sl_at {h : H} {v : Value} {n : Nat} {l : List Nat} (s : Sl G h 1 v n (l.map (.float .f32))) {i : Int} {q : Nat} (hq : q < n) (hi : i = (q : Int)) :
   ∃ ad, aindexAddr Tryz.prog 45 v (.int .i64 i) = some (.pointer (some ad)) ∧ acell G h ad = some (.float .f32 (l[q]'(by have := s.length; simp at this; omega))) := by
 have hl := s.length
 simp at hl
 obtain ⟨ad, h1, h2⟩ := s.addr (M := mz G) Tryz.underlying45 (es := 1) zs23 (i := i) (k := .i64) (by omega) (by omega)
 refine ⟨ad, h1, h2.get 0 _ ?_⟩
 rw [show i.toNat * 1 = q by omega]
 simp
theorem slI_at {h : H} {v : Value} {n : Nat} {l : List Int} (s : Sl G h 1 v n (l.map (.int .i64))) {i : Int} {q : Nat} (hq : q < n) (hi : i = (q : Int)) :
   ∃ ad, aindexAddr Tryz.prog 25 v (.int .i64 i) = some (.pointer (some ad)) ∧ acell G h ad = some (.int .i64 (l.getD q 0)) := by
 have hl := s.length
 simp at hl
 obtain ⟨ad, h1, h2⟩ := s.addr (M := mz G) Tryz.underlying25 (es := 1) zs3 (i := i) (k := .i64) (by omega) (by omega)
 refine ⟨ad, h1, h2.get 0 _ ?_⟩
 rw [show i.toNat * 1 = q by omega, ← getElem_getD (by omega)]
 simp
/- Lists convolved: by the program; lists that are the same. -/
theorem firstNZ_zero : ∀ {l : List Int}, firstNZ l = 0 → ∀ e ∈ l, e = 0
 | [], _, _, h => by cases h
 | a :: l, h, e, he => by
   unfold firstNZ at h
   split at h
   · rcases List.mem_cons.1 he with rfl | he
     · assumption
     · exact firstNZ_zero h e he
   · contradiction
theorem lchk_ok {l : List Nat} (h : lchk l = 0) : l.length ≤ 1024 ∧ ∀ x ∈ l, smpE x = 0 := by
 unfold lchk at h
 split at h
 · exact absurd h (by decide)
 · exact ⟨by omega, fun x hx => firstNZ_zero h _ (List.mem_map_of_mem hx)⟩
def selfEq (l : List Nat) : Prop := ∀ x ∈ l, (Ieee.single.order x x == some .eq) = true
theorem num_self {w : Nat} {v : Int} (h : Num Ieee.single w v) : (Ieee.single.order w w == some .eq) = true := by rw [h.feq h]; simp
theorem smpW_self {n : Int} (h : n.natAbs ≤ 16384) : (Ieee.single.order (smpW n) (smpW n) == some .eq) = true := by
 obtain ⟨_, v, hv, _⟩ := div16 h
 exact num_self hv
theorem c84 {v w : Value} {n : Nat} {l : List Nat} (s : Sl G h 1 v n (l.map (.float .f32))) (u : Sl G h 1 w n (l.map (.float .f32))) (hn : n < 1000000) (hs : selfEq l) : Cf (mz G) (.func (.func 84) #[] #[]) [v, w] h fun r h' => r = .bool true ∧ Grow h h' := by
 obtain ⟨a, c, rfl⟩ := s.form
 obtain ⟨b, d, rfl⟩ := u.form
 have hl := s.length
 simp at hl
 refine cf_enter0 26 [.tmp 4] Tryz.func84 rfl rfl rfl rfl ?_
 repeat' (first | with_reducible refine wo_nil ?_ | ((with_reducible refine wo_any ?_); first | refine wq_A (op_move rfl) ?_ | refine wq_A (op_assign rfl) ?_ | refine wq_A (op_lenSl rfl Tryz.underlying45) ?_ | refine wq_A (op_neq rfl rfl) ?_) | (with_reducible first | refine sq_norm ?_ | refine wc_seq ?_ | refine wc_region ?_ | refine wc_skip ?_ | refine wc_block ?_) | (refine wc_if rfl (fun hb => ?_) (fun hb => ?_) <;> (try simp only [bb_A, reduceCtorEq] at hb) <;> (try (exfalso; omega))))
 refine wc_loop (fun k => n - k) (fun k : Nat => [(0, .slice a n c), (1, .slice b n d), (5, .int .i64 k)]) (fun k h' => Grow h h' ∧ k ≤ n) 0 (within_lk ⟨rfl, rfl, rfl, trivial⟩) ⟨.refl _, Nat.zero_le _⟩ ?_
 rintro k h' ⟨hgr, hk⟩
 by_cases hlt : k < n
 · obtain ⟨ad, h1, h3⟩ := sl_at (s.grow hgr) (i := (k : Int)) hlt rfl
   obtain ⟨bd, g1, g3⟩ := sl_at (u.grow hgr) (i := (k : Int)) hlt rfl
   have he := hs _ (List.getElem_mem (show k < l.length by omega))
   repeat' (first | with_reducible refine wo_nil ?_ | ((with_reducible refine wo_any ?_); first | refine wq_A (op_move rfl) ?_ | refine wq_A (op_assign rfl) ?_ | ((with_reducible refine ik_bin ?_); first | refine wq_A (op_lss rfl rfl) ?_ | refine wq_A (op_add' rfl rfl (w64 (by omega) (by omega))) ?_) | refine wq_A (op_lenSl rfl Tryz.underlying45) ?_) | ((with_reducible refine xk_any ?_); ((with_reducible refine xk_as0 ?_); first | ((with_reducible refine xk_move ?_); refine wx_q (wt_none rfl) rfl rfl (op_q rfl (op_move rfl)) rfl rfl rfl ?_) | ((with_reducible refine xk_indexAddr ?_); first | refine wx_q (wt_none rfl) rfl rfl (op_q rfl (op_indexAddr rfl rfl h1)) rfl rfl rfl ?_ | refine wx_q (wt_none rfl) rfl rfl (op_q rfl (op_indexAddr rfl rfl g1)) rfl rfl rfl ?_) | ((with_reducible refine xk_load ?_); first | refine wx_h0 (wt_none rfl) rfl (op_q rfl (op_ldCell rfl Tryz.underlying23 rfl h3)) rfl rfl rfl ?_ | refine wx_h0 (wt_none rfl) rfl (op_q rfl (op_ldCell rfl Tryz.underlying23 rfl g3)) rfl rfl rfl ?_) | ((with_reducible refine xk_bin ?_); refine wx_q (wt_none rfl) rfl rfl (op_q rfl (op_fneq rfl rfl he)) rfl rfl rfl ?_) | with_reducible refine wx_nil0 ?_ ?_)) | with_reducible exact obl_nil | with_reducible refine obl_cons ?_ ?_ | ((with_reducible refine ik_obs ?_); first | exact obs_nil | refine obs_chkn rfl rfl (op_q rfl (op_ldCell rfl Tryz.underlying23 rfl h3)) ?_ | refine obs_chkn rfl rfl (op_q rfl (op_ldCell rfl Tryz.underlying23 rfl g3)) ?_) | (with_reducible first | refine sq_norm ?_ | refine wc_seq ?_ | refine wc_region ?_ | refine wc_skip ?_ | refine wc_block ?_ | refine bq_norm ?_) | refine wc_iff rfl ?_ | (refine wc_if rfl (fun hb => ?_) (fun hb => ?_) <;> (try simp only [bb_A, reduceCtorEq] at hb) <;> (try (exfalso; omega))) | refine wc_drawB (id := 6) 9 [0, 0, 3, 7, 0, 0, 48, 112, 255] [0, 1, 2, 3, 4, 5, 6, 7, 8] (by kernel_rfl) (by kernel_rfl) rfl rfl ?_)
   exact lq_norm (k + 1) (by omega) (within_lk ⟨rfl, rfl, rfl, trivial⟩) ⟨gr_A, by omega⟩
 · repeat' (first | with_reducible refine wo_nil ?_ | ((with_reducible refine wo_any ?_); first | refine wq_A (op_move rfl) ?_ | refine wq_A (op_assign rfl) ?_ | refine wq_A (op_lenSl rfl Tryz.underlying45) ?_ | refine wq_A (op_lss rfl rfl) ?_) | (with_reducible first | refine sq_norm ?_ | refine wc_seq ?_ | refine wc_region ?_ | refine wc_ret ?_ | refine wc_exit ?_ | refine sq_exit ?_ | refine lq_exit ?_) | refine bq_eq rfl ?_ | (refine wc_if rfl (fun hb => ?_) (fun hb => ?_) <;> (try simp only [bb_A, reduceCtorEq] at hb) <;> (try (exfalso; omega))))
   exact rq1 rfl ⟨rfl, hgr⟩
theorem c56e {v w : Value} {e : Int} (s : Sl G h 1 v 0 []) (he : e ≠ 0) : Cf (mz G) (.func (.func 56) #[] #[]) [v, .int .i64 e, .int .i64 e, w] h fun r h' => r = .bool true ∧ Grow h h' := by
 obtain ⟨a, c, rfl⟩ := s.form
 refine cf_enter0 19 [.tmp 8] Tryz.func56 rfl rfl rfl rfl ?_
 repeat' (first | with_reducible refine wo_nil ?_ | ((with_reducible refine wo_any ?_); first | refine wq_A (op_move rfl) ?_ | refine wq_A (op_assign rfl) ?_ | refine wq_A (op_neq rfl rfl) ?_ | refine wq_A (op_pickt rfl rfl) ?_ | ((with_reducible refine ik_callF (f := 84) ?_); (refine wo_call rfl rfl rfl rfl (c84 (l := []) (n := 0) s .nil (by omega) (fun _ h => by cases h)) rfl rfl ?_; rintro _ _ ⟨rfl, hq⟩; all_goals ((try (have hqn := hq.nx)); (try simp only [nx_A] at hqn)))) | ((with_reducible refine ik_g ?_); first | refine wo_grun rfl rfl rfl (op_move rfl) rfl rfl ?_ | refine wo_grun rfl rfl rfl (op_eql rfl rfl) rfl rfl ?_)) | (with_reducible first | refine sq_norm ?_ | refine wc_seq ?_ | refine wc_region ?_ | refine wc_ret ?_) | (refine wc_if rfl (fun hb => ?_) (fun hb => ?_) <;> (try simp only [bb_A, reduceCtorEq] at hb) <;> (try (exfalso; omega))))
 all_goals exact rq1 rfl ⟨by first | rfl | simp, gr_A⟩
theorem c56 {v w : Value} {n : Nat} {l : List Nat} (s : Sl G h 1 v n (l.map (.float .f32))) (u : Sl G h 1 w n (l.map (.float .f32))) (hn : n < 1000000) (hs : selfEq l) : Cf (mz G) (.func (.func 56) #[] #[]) [v, .int .i64 0, .int .i64 0, w] h fun r h' => r = .bool true ∧ Grow h h' := by
 refine cf_enter0 19 [.tmp 8] Tryz.func56 rfl rfl rfl rfl ?_
 repeat' (first | with_reducible refine wo_nil ?_ | ((with_reducible refine wo_any ?_); first | refine wq_A (op_move rfl) ?_ | refine wq_A (op_assign rfl) ?_ | refine wq_A (op_neq rfl rfl) ?_ | refine wq_A (op_pickt rfl rfl) ?_ | ((with_reducible refine ik_callF (f := 84) ?_); (refine wo_call rfl rfl rfl rfl (c84 s u hn hs) rfl rfl ?_; rintro _ _ ⟨rfl, hq⟩; all_goals ((try (have hqn := hq.nx)); (try simp only [nx_A] at hqn)))) | ((with_reducible refine ik_g ?_); first | refine wo_grun rfl rfl rfl (op_move rfl) rfl rfl ?_ | refine wo_grun rfl rfl rfl (op_eql rfl rfl) rfl rfl ?_)) | (with_reducible first | refine sq_norm ?_ | refine wc_seq ?_ | refine wc_region ?_ | refine wc_skip ?_ | refine wc_ret ?_) | refine wc_iff rfl ?_)
 all_goals exact rq1 rfl ⟨rfl, gr_A⟩
/- Lists correlated. -/
end Go.Proofs.YtdelgpbfdimefaaGreatDoor
