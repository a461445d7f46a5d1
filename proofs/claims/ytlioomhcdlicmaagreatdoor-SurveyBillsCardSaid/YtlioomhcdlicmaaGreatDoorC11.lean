/- Survey: the causes; what differs between two invoices. -/
import Derived.Test.YtlioomhcdlicmaaGreatDoorC4
import Derived.Test.YtlioomhcdlicmaaGreatDoorK4
set_option linter.all false
/- Survey: what differs between two invoices. -/
namespace Go.Proofs.YtlioomhcdlicmaaGreatDoor
open Go Go.Ab Go.Fl
attribute [local irreducible] SeqQ BlkQ LpQ RetQ Wc Wo WD WX Op1 Op1q Op1a Cf Cl From
attribute [local irreducible] Ieee.Format.order Ieee.Format.read Ieee.Format.nearest Ieee.Format.write Ieee.Format.mul Ieee.Format.div Ieee.Format.sqrt Ieee.Datum.order Ieee.Datum.integral K U rngE errN ptE firstNZ vesE watE sgE sgsE allE hitB sqD insB qsL lvl
set_option maxRecDepth 10000
variable {G : Base} {h : H}

theorem op_snes {M : Mc} {l : KL} {h : H} {t ty : TypeId} {x y : Operand} {a : ByteArray} (hx : val l x = some (.string a)) (hy : val l y = some (.string a)) : Op1 M (.binOp .neq t x y ty) l h (.bool false) h := by
  have := op_sne (M := M) (h := h) (t := t) (ty := ty) hx hy
  rwa [show decide (¬a = a) = false by simp] at this
theorem op_idxArrK {M : Mc} {l : KL} {h : H} {t et : TypeId} {x y : Operand} {b k len : Nat} {i : Int} (hx : val l x = some (.pointer (some ⟨b, 0, some 0⟩))) (hy : val l y = some (.int .i64 i)) (hi : i = (k : Int)) (hu : M.P.underlying t = some (.array len et)) (hn : tsz M.P et = some 1) (hk : k < len) : Op1 M (.indexAddr t x y) l h (.pointer (some ⟨b, k, some 0⟩)) h := by
  subst hi
  have := op_idxArr' (M := M) (h := h) hx hy hu hn (by omega) (by omega)
  rwa [show aadd ⟨b, 0, some 0⟩ ((k : Int).toNat * 1) = ⟨b, k, some 0⟩ by simp [aadd]] at this
structure CsR where
  w : ByteArray
  d : Bool
  f : Nat
@[reducible] def CsR.cells (p : CsR) : List Value := [.string p.w, .bool p.d, .func (.func p.f) #[] #[]]
theorem CsR.len (p : CsR) : p.cells.length = 3 := rfl
def CSL : List CsR := [⟨⟨⟨[115, 104, 111, 111, 116]⟩⟩, false, 156⟩, ⟨⟨⟨[116, 117, 114, 110]⟩⟩, false, 157⟩, ⟨⟨⟨[119, 101, 97, 116, 104, 101, 114]⟩⟩, true, 158⟩, ⟨⟨⟨[97, 110, 105, 109, 97, 108]⟩⟩, true, 159⟩, ⟨⟨⟨[103, 101, 97, 114]⟩⟩, true, 160⟩, ⟨⟨⟨[115, 104, 97, 114, 101]⟩⟩, true, 161⟩]
def WS : List ByteArray := CSL.map (·.w)
theorem c109 (hw : Wf h) : Cf (mz G) (.func (.func 109) #[] #[]) [] h fun r h' => r = .agg ⟨[.string ⟨⟨[115, 104, 111, 111, 116]⟩⟩, .bool false, .func (.func 156) #[] #[], .string ⟨⟨[116, 117, 114, 110]⟩⟩, .bool false, .func (.func 157) #[] #[], .string ⟨⟨[119, 101, 97, 116, 104, 101, 114]⟩⟩, .bool true, .func (.func 158) #[] #[], .string ⟨⟨[97, 110, 105, 109, 97, 108]⟩⟩, .bool true, .func (.func 159) #[] #[], .string ⟨⟨[103, 101, 97, 114]⟩⟩, .bool true, .func (.func 160) #[] #[], .string ⟨⟨[115, 104, 97, 114, 101]⟩⟩, .bool true, .func (.func 161) #[] #[]]⟩ ∧ Grow h h' := by
  refine cf_enter0 8 [.cell 0 192] Tryz.func109 rfl rfl rfl rfl ?_
  repeat' (first | with_reducible refine wo_nil ?_ | ((with_reducible refine wo_any ?_); first | ((with_reducible refine ik_alloc ?_); refine wo_op rfl (op_alloc zz192 zs192 rfl rfl rfl) rfl rfl ?_) | ((with_reducible refine ik_build ?_); first | refine wo_op rfl (op_buildT rfl zz191 zp191 rfl rfl) rfl rfl ?_ | refine wo_op rfl (op_buildT rfl zz192 zp192 rfl rfl) rfl rfl ?_) | ((with_reducible refine ik_store ?_); refine wo_op0 rfl (op_stAgg rfl rfl at_A zs192 rfl rfl rfl rfl) rfl ?_)) | with_reducible refine sq_norm ?_ | with_reducible refine wc_seq ?_ | with_reducible refine wc_region ?_ | with_reducible refine wc_ret ?_)
  exact rqc1 rfl (ldAgg at_A Tryz.underlying192 rfl zs192 rfl rfl) ⟨rfl, gr_A⟩
theorem arr_at {b k : Nat} (hat : At h b (.cells [.string ⟨⟨[115, 104, 111, 111, 116]⟩⟩, .bool false, .func (.func 156) #[] #[], .string ⟨⟨[116, 117, 114, 110]⟩⟩, .bool false, .func (.func 157) #[] #[], .string ⟨⟨[119, 101, 97, 116, 104, 101, 114]⟩⟩, .bool true, .func (.func 158) #[] #[], .string ⟨⟨[97, 110, 105, 109, 97, 108]⟩⟩, .bool true, .func (.func 159) #[] #[], .string ⟨⟨[103, 101, 97, 114]⟩⟩, .bool true, .func (.func 160) #[] #[], .string ⟨⟨[115, 104, 97, 114, 101]⟩⟩, .bool true, .func (.func 161) #[] #[]] 192 18 false)) (hk : k < 6) : ∃ ad, aindexAddr Tryz.prog 198 (.slice (some ⟨b, 0, some 0⟩) 6 6) (.int .i64 (k : Int)) = some (.pointer (some ad)) ∧ ∀ h', Grow h h' → Cells G h' ad (CsR.cells (CSL.getD k ⟨.empty, false, 0⟩)) := by
  have zz : tsz Tryz.prog 191 = some 3 := zs191
  refine ⟨aadd ⟨b, 0, some 0⟩ (k * 3), ?_, fun h' g => ?_⟩
  · simp only [aindexAddr, asInt?, Tryz.underlying198, zz, decide_eq_true (And.intro (show (0 : Int) ≤ (k : Int) by omega) (show (k : Int) < ((6 : Nat) : Int) by omega)), Int.toNat_natCast]
  · have e := (show At h' b (.cells (CSL.flatMap CsR.cells) 192 18 false) from hat.grow g).cells (G := G) |>.drop (k * 3)
    rw [flat_drop CsR.len ⟨.empty, false, 0⟩ CSL k hk] at e
    exact cells_left e
theorem c48 (hw : Wf h) : Cf (mz G) (.func (.func 48) #[] #[]) [] h fun r h' => (∃ a c, r = .slice a 6 c ∧ Sl G h' 1 (.slice a 6 c) 6 (WS.map Value.string)) ∧ Grow h h' := by
  refine cf_enter0 2 [.tmp 0] Tryz.func48 rfl rfl rfl rfl ?_
  repeat' (first | with_reducible refine wo_nil ?_ | ((with_reducible refine wo_any ?_); first | ((with_reducible refine ik_assign ?_); refine wo_op rfl (op_assign rfl) rfl rfl ?_) | ((with_reducible refine ik_buildSlice ?_); refine wo_op rfl (op_buildSl rfl Tryz.underlying25 zs9 zz9 rfl rfl) rfl rfl ?_)) | with_reducible refine sq_norm ?_ | with_reducible refine wc_seq ?_ | with_reducible refine wc_region ?_ | with_reducible refine wc_ret ?_)
  exact rq1 rfl ⟨⟨_, _, rfl, Sl.ofAt at_A rfl (Nat.le_refl 6)⟩, gr_A⟩
set_option maxHeartbeats 4000000 in
theorem c13 {v w : Value} {n : Nat} {l : List ByteArray} (s : Sl G h 1 v n (l.map Value.string)) (u : Sl G h 1 w n (l.map Value.string)) (hn : n < 1000000) (hw : Wf h) : Cf (mz G) (.func (.func 13) #[] #[]) [v, w] h fun r h' => r = .bool true ∧ Grow h h' := by
  obtain ⟨a, c, rfl⟩ := s.form
  obtain ⟨b, d, rfl⟩ := u.form
  refine cf_enter0 26 [.tmp 4] Tryz.func13 rfl rfl rfl rfl ?_
  repeat' (first | with_reducible refine wo_nil ?_ | ((with_reducible refine wo_any ?_); first | ((with_reducible refine ik_move ?_); refine wo_op rfl (op_move rfl) rfl rfl ?_) | ((with_reducible refine ik_assign ?_); refine wo_op rfl (op_assign rfl) rfl rfl ?_) | ((with_reducible refine ik_callb ?_); refine wo_op rfl (op_lenSl rfl Tryz.underlying25) rfl rfl ?_) | ((with_reducible refine ik_bin ?_); refine wo_op rfl (op_neq rfl rfl) rfl rfl ?_)) | with_reducible refine sq_norm ?_ | with_reducible refine wc_seq ?_ | with_reducible refine wc_region ?_ | with_reducible refine wc_skip ?_ | with_reducible refine wc_block ?_ | (refine wc_if rfl (fun hb => ?_) (fun hb => ?_) <;> (try simp only [decide_eq_true_eq, decide_eq_false_iff_not, Bool.not_eq_true', Bool.not_eq_false', Int.not_lt, Int.not_le, Decidable.not_not, not_true_eq_false, not_false_eq_true, beq_self_eq_true, reduceCtorEq] at hb) <;> (try (exfalso; omega))))
  refine wc_loop (fun i => n - i) (fun i : Nat => [(0, .slice a n c), (1, .slice b n d), (5, .int .i64 i)]) (fun i h' => (Wf h' ∧ Grow h h') ∧ i ≤ n) 0 (within_lk ⟨rfl, rfl, rfl, trivial⟩) ⟨⟨wf_A, gr_A⟩, Nat.zero_le _⟩ ?_
  rintro i h1 ⟨⟨w1, g1⟩, hi⟩
  have n1 := g1.nx
  by_cases hlt : i < n
  · obtain ⟨id, i1, i3⟩ := in_atV Value.string .empty (s.grow g1) Tryz.underlying25 zs9 (i := (i : Int)) hlt rfl
    obtain ⟨jd, j1, j3⟩ := in_atV Value.string .empty (u.grow g1) Tryz.underlying25 zs9 (i := (i : Int)) hlt rfl
    generalize l.getD i .empty = z at i3 j3
    repeat' (first | with_reducible refine wo_nil ?_ | ((with_reducible refine wo_any ?_); first | ((with_reducible refine ik_move ?_); refine wo_op rfl (op_move rfl) rfl rfl ?_) | ((with_reducible refine ik_assign ?_); refine wo_op rfl (op_assign rfl) rfl rfl ?_) | ((with_reducible refine ik_bin ?_); first | refine wo_op rfl (op_lss rfl rfl) rfl rfl ?_ | refine wo_op rfl (op_add' rfl rfl (w64 (by omega) (by omega))) rfl rfl ?_) | ((with_reducible refine ik_callb ?_); refine wo_op rfl (op_lenSl rfl Tryz.underlying25) rfl rfl ?_)) | ((with_reducible refine xk_any ?_); ((with_reducible refine xk_as0 ?_); first | ((with_reducible refine xk_move ?_); refine wx_q (wt_none rfl) rfl rfl (op_q rfl (op_move rfl)) rfl rfl rfl ?_) | ((with_reducible refine xk_indexAddr ?_); first | refine wx_q (wt_none rfl) rfl rfl (op_q rfl (op_indexAddr rfl rfl i1)) rfl rfl rfl ?_ | refine wx_q (wt_none rfl) rfl rfl (op_q rfl (op_indexAddr rfl rfl j1)) rfl rfl rfl ?_) | ((with_reducible refine xk_load ?_); first | refine wx_h0 (wt_none rfl) rfl (op_q rfl (op_ldCell rfl Tryz.underlying9 rfl (i3 _ gr_A))) rfl rfl rfl ?_ | refine wx_h0 (wt_none rfl) rfl (op_q rfl (op_ldCell rfl Tryz.underlying9 rfl (j3 _ gr_A))) rfl rfl rfl ?_) | ((with_reducible refine xk_bin ?_); refine wx_q (wt_none rfl) rfl rfl (op_q rfl (op_snes rfl rfl)) rfl rfl rfl ?_) | with_reducible refine wx_nil0 ?_ ?_)) | with_reducible exact obl_nil | with_reducible refine obl_cons ?_ ?_ | ((with_reducible refine ik_obs ?_); first | exact obs_nil | refine obs_chkn rfl rfl (op_q rfl (op_ldCell rfl Tryz.underlying9 rfl (i3 _ gr_A))) ?_ | refine obs_chkn rfl rfl (op_q rfl (op_ldCell rfl Tryz.underlying9 rfl (j3 _ gr_A))) ?_) | with_reducible refine sq_norm ?_ | with_reducible refine wc_seq ?_ | with_reducible refine wc_region ?_ | with_reducible refine wc_skip ?_ | with_reducible refine wc_block ?_ | with_reducible refine bq_norm ?_ | refine wc_iff rfl ?_ | (refine wc_if rfl (fun hb => ?_) (fun hb => ?_) <;> (try simp only [decide_eq_true_eq, decide_eq_false_iff_not, Bool.not_eq_true', Bool.not_eq_false', Int.not_lt, Int.not_le, Decidable.not_not, not_true_eq_false, not_false_eq_true, beq_self_eq_true, reduceCtorEq] at hb) <;> (try (exfalso; omega))) | refine wc_drawB (id := 6) 9 [0, 0, 3, 7, 0, 0, 48, 112, 255] [0, 1, 2, 3, 4, 5, 6, 7, 8] (by kernel_rfl) (by kernel_rfl) rfl rfl ?_)
    all_goals exact lq_norm (i + 1) (by omega) (within_lk ⟨rfl, rfl, rfl, trivial⟩) ⟨⟨wf_A, gr_A⟩, by omega⟩
  · repeat' (first | with_reducible refine wo_nil ?_ | ((with_reducible refine wo_any ?_); first | ((with_reducible refine ik_move ?_); refine wo_op rfl (op_move rfl) rfl rfl ?_) | ((with_reducible refine ik_assign ?_); refine wo_op rfl (op_assign rfl) rfl rfl ?_) | ((with_reducible refine ik_callb ?_); refine wo_op rfl (op_lenSl rfl Tryz.underlying25) rfl rfl ?_) | ((with_reducible refine ik_bin ?_); refine wo_op rfl (op_lss rfl rfl) rfl rfl ?_)) | with_reducible refine sq_norm ?_ | with_reducible refine wc_seq ?_ | with_reducible refine wc_region ?_ | with_reducible refine wc_ret ?_ | with_reducible refine wc_exit ?_ | with_reducible refine sq_exit ?_ | with_reducible refine lq_exit ?_ | refine bq_eq rfl ?_ | (refine wc_if rfl (fun hb => ?_) (fun hb => ?_) <;> (try simp only [decide_eq_true_eq, decide_eq_false_iff_not, Bool.not_eq_true', Bool.not_eq_false', Int.not_lt, Int.not_le, Decidable.not_not, not_true_eq_false, not_false_eq_true, beq_self_eq_true, reduceCtorEq] at hb) <;> (try (exfalso; omega))))
    exact rq1 rfl ⟨rfl, gr_A⟩
end Go.Proofs.YtlioomhcdlicmaaGreatDoor
