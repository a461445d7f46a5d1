/- What the law FilterUndone holds; short cases. -/
import Derived.Test.YtccdcekcbbpohaaGreatDoorH5
import Derived.Test.YtccdcekcbbpohaaGreatDoorH4
set_option linter.all false
/- The law FilterUndone, walked. -/
namespace Go.Proofs.YtccdcekcbbpohaaGreatDoor
open Go Go.Ab Go.Fl
attribute [local irreducible] SeqQ BlkQ LpQ RetQ Wc Wo WD WX Op1 Op1q Op1a Cf Cl From
attribute [local irreducible] Ieee.Format.order Ieee.Format.read Ieee.Format.nearest Ieee.Format.write Ieee.Format.mul Ieee.Format.div Ieee.Datum.order Ieee.Datum.integral smpE smp smpW K J U sumN lchk tchk trE hdrE appL undL undA undI undU wr ghoL rnd mulL dghL dghA rngE pR pI resR resI tR tI rowE allE fz gtap notN
set_option maxRecDepth 10000
variable {G : Base} {h : H}

theorem made_ok {r : Value} {n : Nat} {E : Int} {L : List Int} (hE : E = 0) (m : MadeF G h r n E L) : ∃ a c, r = .tuple #[.slice a n c, .int .i64 0] ∧ Sl G h 1 (.slice a n c) n ((L.map smpW).map (.float .f32)) := by
  rcases m with ⟨q, _⟩ | ⟨_, a, c, q1, q2, _⟩
  · exact absurd hE q
  · exact ⟨a, c, q1, q2⟩
theorem madeE_ok {E : Int} {L : List Int} (hE : E = 0) (h : ∀ z ∈ L, z.natAbs ≤ 16384) : madeE E L = 0 := by
  unfold madeE
  rw [if_neg (by omega), large_no h]; rfl
theorem fEq_back {l : List Nat} (h : ∀ z ∈ l, smpE z = 0) : fEqL ((l.map smp).map smpW) l := ⟨by simp, fun i q q' => by
  simp only [List.getElem_map]
  exact smpW_feq (h _ (List.getElem_mem q'))⟩
theorem gho_b {l : List Int} {C : Nat} (hl : ∀ x ∈ l, x.natAbs ≤ C) (d : Nat) : ∀ x ∈ ghoL l d, x.natAbs ≤ 2 * C := fun x hx => by
  unfold ghoL at hx
  obtain ⟨i, hi, rfl⟩ := List.mem_map.1 hx
  have h1 := getD_bound hl i
  have h2 := getD_bound hl (i - d)
  split <;> omega
theorem gtap_ok {d : Nat} (hd : 1 ≤ d) (hd7 : d ≤ 7) : tchk (gtap d) = 0 := by
  rcases d with _ | _ | _ | _ | _ | _ | _ | _ | d
  · omega
  all_goals first | omega | decide +kernel
theorem fz_zero {a : Int} (ha : a.natAbs ≤ 2) : Op.floatEq .f64 (fz a) 0 = decide (a = 0) := by
  have : a = -2 ∨ a = -1 ∨ a = 0 ∨ a = 1 ∨ a = 2 := by omega
  rcases this with rfl | rfl | rfl | rfl | rfl <;> decide +kernel
theorem op_eqT40 {M : Mc} {l : KL} {h : H} {x y : Operand} {ty : TypeId} {a b : Int} (hM : M.P = Tryz.prog) (ha : a.natAbs ≤ 2) (hb0 : b.natAbs ≤ 2) (hx : val l x = some (.complex .f64 (fz a) (fz b))) (hy : val l y = some (.complex .f64 0 0)) : Op1 M (.binOp .eql 40 x y ty) l h (.bool (decide (a = 0 ∧ b = 0))) h := by
  refine op_bin hx hy rfl rfl ?_ rfl
  have hq0 : Tryz.prog.eqGuardType Tryz.prog.depth 40 = false := by kernel_rfl
  have hc : Op.complexOp .eql .f64 (fz a) (fz b) 0 0 = pure (.bool (Op.floatEq .f64 (fz a) 0 && Op.floatEq .f64 (fz b) 0)) := rfl
  have hd : (decide (a = 0 ∧ b = 0)) = (decide (a = 0) && decide (b = 0)) := by simp
  rw [fz_zero ha, fz_zero hb0, ← hd] at hc
  rw [hM]
  simp only [eqGuard, binOp, hc]
  simp [prun_bind, program, prun, hq0, prun_map, prun_pure']
set_option maxHeartbeats 4000000 in
theorem c9n {a b : Option Addr} {m c n d x : Nat} {t : List Int} {l : List Nat} (s : Sl G h 1 (.slice a m c) m (t.map (.int .i64))) (u : Sl G h 1 (.slice b n d) n (l.map (.float .f32))) (hS : ¬(m ≤ 9 ∧ tchk t = 0 ∧ (t.getD 0 0 = 1 ∨ t.getD 0 0 = -1) ∧ quietB l 100 = true)) (hw : Wf h) : Cf (mz G) (.func (.func 9) #[] #[]) [.slice a m c, .slice b n d, .int .u8 (x : Nat)] h fun r h' => r = .bool true ∧ Grow h h' := by
  have hlt := s.length
  simp at hlt
  by_cases h9 : m ≤ 9
  · have q12 := fun (h' : H) (g : Grow h h') => c12 (s.grow g) (by omega)
    have q13 := fun (h' : H) (g : Grow h h') => c13 (L := 100) (u.grow g) (by decide)
    by_cases hT : tchk t = 0
    · obtain ⟨k3, k4, k5⟩ := tchk_ok hT
      rw [hT] at q12
      obtain ⟨td, ti, t3⟩ := slI_at s (i := 0) (q := 0) (by omega) (by omega)
      obtain ⟨T, hTT⟩ : ∃ z, t.getD 0 0 = z := ⟨_, rfl⟩
      rw [hTT] at t3 hS
      by_cases h1 : T = 1
      · subst h1
        have hq : quietB l 100 = false := by
          rcases hq : quietB l 100 with _ | _
          · rfl
          · exact absurd ⟨h9, hT, .inl rfl, hq⟩ hS
        rw [hq] at q13
        refine cf_enter0 230 [.tmp 6] Tryz.func9 rfl rfl rfl rfl ?_
        repeat' (first | with_reducible refine wo_nil ?_ | ((with_reducible refine wo_any ?_); first | ((with_reducible refine ik_move ?_); refine wo_op rfl (op_move rfl) rfl rfl ?_) | ((with_reducible refine ik_assign ?_); refine wo_op rfl (op_assign rfl) rfl rfl ?_) | ((with_reducible refine ik_un ?_); refine wo_op rfl (op_not rfl) rfl rfl ?_) | ((with_reducible refine ik_pick ?_); refine wo_op rfl (op_pickf rfl rfl) rfl rfl ?_) | ((with_reducible refine ik_callF (f := 10) ?_); refine wo_op rfl (op_call rfl rfl (c10)) rfl rfl ?_) | ((with_reducible refine ik_g ?_); first | refine wo_gskip rfl rfl rfl rfl rfl rfl ?_ | ((with_reducible refine ig_move ?_); refine wo_grun rfl rfl rfl (op_move rfl) rfl rfl ?_) | ((with_reducible refine ig_indexAddr ?_); refine wo_grun rfl rfl rfl (op_indexAddr rfl rfl ti) rfl rfl ?_) | ((with_reducible refine ig_load ?_); refine wo_grun rfl rfl rfl (op_ldCell rfl Tryz.underlying3 rfl t3) rfl rfl ?_) | ((with_reducible refine ig_un ?_); refine wo_grun rfl rfl rfl (op_not rfl) rfl rfl ?_) | ((with_reducible refine ig_pick ?_); refine wo_grun rfl rfl rfl (op_pickf rfl rfl) rfl rfl ?_) | ((with_reducible refine ig_bin ?_); refine wo_grun rfl rfl rfl (op_neq rfl rfl) rfl rfl ?_) | ((with_reducible refine ig_callF (f := 11) ?_); refine wo_grun rfl rfl rfl (op_call rfl rfl (c11)) rfl rfl ?_) | ((with_reducible refine ig_callv ?_); first | refine wo_grun rfl rfl rfl (op_call rfl rfl (q12 _ gr_A)) rfl rfl ?_ | refine wo_grun rfl rfl rfl (op_call rfl rfl (q13 _ gr_A)) rfl rfl ?_) | (refine wo_gsplit rfl rfl rfl (fun hb => ?_) (fun hb => ?_) <;> (try simp only [decide_eq_true_eq, decide_eq_false_iff_not, Bool.not_eq_true', Bool.not_eq_false', Int.not_lt, Int.not_le, Decidable.not_not, not_true_eq_false, not_false_eq_true, beq_self_eq_true, reduceCtorEq] at hb) <;> (try (exfalso; omega))))) | with_reducible refine sq_norm ?_ | with_reducible refine wc_seq ?_ | with_reducible refine wc_region ?_ | with_reducible refine wc_ret ?_ | with_reducible refine sq_ret ?_ | refine wc_ift rfl ?_)
        all_goals exact rq1 rfl ⟨rfl, gr_A⟩
      · by_cases h2 : T = -1
        · subst h2
          have hq : quietB l 100 = false := by
            rcases hq : quietB l 100 with _ | _
            · rfl
            · exact absurd ⟨h9, hT, .inr rfl, hq⟩ hS
          rw [hq] at q13
          refine cf_enter0 230 [.tmp 6] Tryz.func9 rfl rfl rfl rfl ?_
          repeat' (first | with_reducible refine wo_nil ?_ | ((with_reducible refine wo_any ?_); first | ((with_reducible refine ik_move ?_); refine wo_op rfl (op_move rfl) rfl rfl ?_) | ((with_reducible refine ik_assign ?_); refine wo_op rfl (op_assign rfl) rfl rfl ?_) | ((with_reducible refine ik_un ?_); refine wo_op rfl (op_not rfl) rfl rfl ?_) | ((with_reducible refine ik_pick ?_); refine wo_op rfl (op_pickf rfl rfl) rfl rfl ?_) | ((with_reducible refine ik_callF (f := 10) ?_); refine wo_op rfl (op_call rfl rfl (c10)) rfl rfl ?_) | ((with_reducible refine ik_g ?_); first | ((with_reducible refine ig_move ?_); refine wo_grun rfl rfl rfl (op_move rfl) rfl rfl ?_) | ((with_reducible refine ig_indexAddr ?_); refine wo_grun rfl rfl rfl (op_indexAddr rfl rfl ti) rfl rfl ?_) | ((with_reducible refine ig_load ?_); refine wo_grun rfl rfl rfl (op_ldCell rfl Tryz.underlying3 rfl t3) rfl rfl ?_) | ((with_reducible refine ig_un ?_); refine wo_grun rfl rfl rfl (op_not rfl) rfl rfl ?_) | ((with_reducible refine ig_pick ?_); refine wo_grun rfl rfl rfl (op_pickt rfl rfl) rfl rfl ?_) | ((with_reducible refine ig_bin ?_); refine wo_grun rfl rfl rfl (op_neq rfl rfl) rfl rfl ?_) | ((with_reducible refine ig_callF (f := 11) ?_); refine wo_grun rfl rfl rfl (op_call rfl rfl (c11)) rfl rfl ?_) | ((with_reducible refine ig_callv ?_); first | refine wo_grun rfl rfl rfl (op_call rfl rfl (q12 _ gr_A)) rfl rfl ?_ | refine wo_grun rfl rfl rfl (op_call rfl rfl (q13 _ gr_A)) rfl rfl ?_) | (refine wo_gsplit rfl rfl rfl (fun hb => ?_) (fun hb => ?_) <;> (try simp only [decide_eq_true_eq, decide_eq_false_iff_not, Bool.not_eq_true', Bool.not_eq_false', Int.not_lt, Int.not_le, Decidable.not_not, not_true_eq_false, not_false_eq_true, beq_self_eq_true, reduceCtorEq] at hb) <;> (try (exfalso; omega))))) | with_reducible refine sq_norm ?_ | with_reducible refine wc_seq ?_ | with_reducible refine wc_region ?_ | with_reducible refine wc_ret ?_ | with_reducible refine sq_ret ?_ | refine wc_ift rfl ?_)
          all_goals exact rq1 rfl ⟨rfl, gr_A⟩
        · refine cf_enter0 230 [.tmp 6] Tryz.func9 rfl rfl rfl rfl ?_
          repeat' (first | with_reducible refine wo_nil ?_ | ((with_reducible refine wo_any ?_); first | ((with_reducible refine ik_move ?_); refine wo_op rfl (op_move rfl) rfl rfl ?_) | ((with_reducible refine ik_assign ?_); refine wo_op rfl (op_assign rfl) rfl rfl ?_) | ((with_reducible refine ik_un ?_); refine wo_op rfl (op_not rfl) rfl rfl ?_) | ((with_reducible refine ik_pick ?_); first | refine wo_op rfl (op_pickt rfl rfl) rfl rfl ?_ | refine wo_op rfl (op_pickf rfl rfl) rfl rfl ?_) | ((with_reducible refine ik_callF (f := 10) ?_); refine wo_op rfl (op_call rfl rfl (c10)) rfl rfl ?_) | ((with_reducible refine ik_g ?_); first | refine wo_gskip rfl rfl rfl rfl rfl rfl ?_ | ((with_reducible refine ig_move ?_); refine wo_grun rfl rfl rfl (op_move rfl) rfl rfl ?_) | ((with_reducible refine ig_indexAddr ?_); refine wo_grun rfl rfl rfl (op_indexAddr rfl rfl ti) rfl rfl ?_) | ((with_reducible refine ig_load ?_); refine wo_grun rfl rfl rfl (op_ldCell rfl Tryz.underlying3 rfl t3) rfl rfl ?_) | ((with_reducible refine ig_un ?_); refine wo_grun rfl rfl rfl (op_not rfl) rfl rfl ?_) | ((with_reducible refine ig_pick ?_); refine wo_grun rfl rfl rfl (op_pickt rfl rfl) rfl rfl ?_) | ((with_reducible refine ig_bin ?_); refine wo_grun rfl rfl rfl (op_neq rfl rfl) rfl rfl ?_) | ((with_reducible refine ig_callF (f := 11) ?_); refine wo_grun rfl rfl rfl (op_call rfl rfl (c11)) rfl rfl ?_) | ((with_reducible refine ig_callv ?_); refine wo_grun rfl rfl rfl (op_call rfl rfl (q12 _ gr_A)) rfl rfl ?_) | (refine wo_gsplit rfl rfl rfl (fun hb => ?_) (fun hb => ?_) <;> (try simp only [decide_eq_true_eq, decide_eq_false_iff_not, Bool.not_eq_true', Bool.not_eq_false', Int.not_lt, Int.not_le, Decidable.not_not, not_true_eq_false, not_false_eq_true, beq_self_eq_true, reduceCtorEq] at hb) <;> (try (exfalso; omega))))) | with_reducible refine sq_norm ?_ | with_reducible refine wc_seq ?_ | with_reducible refine wc_region ?_ | with_reducible refine wc_ret ?_ | with_reducible refine sq_ret ?_ | refine wc_ift rfl ?_)
          all_goals exact rq1 rfl ⟨rfl, gr_A⟩
    · refine cf_enter0 230 [.tmp 6] Tryz.func9 rfl rfl rfl rfl ?_
      repeat' (first | with_reducible refine wo_nil ?_ | ((with_reducible refine wo_any ?_); first | ((with_reducible refine ik_move ?_); refine wo_op rfl (op_move rfl) rfl rfl ?_) | ((with_reducible refine ik_assign ?_); refine wo_op rfl (op_assign rfl) rfl rfl ?_) | ((with_reducible refine ik_un ?_); refine wo_op rfl (op_not rfl) rfl rfl ?_) | ((with_reducible refine ik_pick ?_); first | refine wo_op rfl (op_pickt rfl rfl) rfl rfl ?_ | refine wo_op rfl (op_pickf rfl rfl) rfl rfl ?_) | ((with_reducible refine ik_callF (f := 10) ?_); refine wo_op rfl (op_call rfl rfl (c10)) rfl rfl ?_) | ((with_reducible refine ik_g ?_); first | refine wo_gskip rfl rfl rfl rfl rfl rfl ?_ | refine wo_gskip' rfl rfl rfl rfl rfl ?_ | ((with_reducible refine ig_move ?_); refine wo_grun rfl rfl rfl (op_move rfl) rfl rfl ?_) | ((with_reducible refine ig_un ?_); refine wo_grun rfl rfl rfl (op_not rfl) rfl rfl ?_) | ((with_reducible refine ig_bin ?_); refine wo_grun rfl rfl rfl (op_neq rfl rfl) rfl rfl ?_) | ((with_reducible refine ig_callF (f := 11) ?_); refine wo_grun rfl rfl rfl (op_call rfl rfl (c11)) rfl rfl ?_) | ((with_reducible refine ig_callv ?_); refine wo_grun rfl rfl rfl (op_call rfl rfl (q12 _ gr_A)) rfl rfl ?_) | (refine wo_gsplit rfl rfl rfl (fun hb => ?_) (fun hb => ?_) <;> (try simp only [decide_eq_true_eq, decide_eq_false_iff_not, Bool.not_eq_true', Bool.not_eq_false', Int.not_lt, Int.not_le, Decidable.not_not, not_true_eq_false, not_false_eq_true, beq_self_eq_true, reduceCtorEq] at hb) <;> (try (exfalso; omega))))) | with_reducible refine sq_norm ?_ | with_reducible refine wc_seq ?_ | with_reducible refine wc_region ?_ | with_reducible refine wc_ret ?_ | with_reducible refine sq_ret ?_ | refine wc_ift rfl ?_)
      all_goals exact rq1 rfl ⟨rfl, gr_A⟩
  · refine cf_enter0 230 [.tmp 6] Tryz.func9 rfl rfl rfl rfl ?_
    repeat' (first | with_reducible refine wo_nil ?_ | ((with_reducible refine wo_any ?_); first | ((with_reducible refine ik_move ?_); refine wo_op rfl (op_move rfl) rfl rfl ?_) | ((with_reducible refine ik_assign ?_); refine wo_op rfl (op_assign rfl) rfl rfl ?_) | ((with_reducible refine ik_un ?_); refine wo_op rfl (op_not rfl) rfl rfl ?_) | ((with_reducible refine ik_pick ?_); first | refine wo_op rfl (op_pickt rfl rfl) rfl rfl ?_ | refine wo_op rfl (op_pickf rfl rfl) rfl rfl ?_) | ((with_reducible refine ik_callF (f := 10) ?_); refine wo_op rfl (op_call rfl rfl (c10)) rfl rfl ?_) | ((with_reducible refine ik_g ?_); first | refine wo_gskip rfl rfl rfl rfl rfl rfl ?_ | refine wo_gskip' rfl rfl rfl rfl rfl ?_ | ((with_reducible refine ig_move ?_); refine wo_grun rfl rfl rfl (op_move rfl) rfl rfl ?_) | ((with_reducible refine ig_un ?_); refine wo_grun rfl rfl rfl (op_not rfl) rfl rfl ?_) | ((with_reducible refine ig_callF (f := 11) ?_); refine wo_grun rfl rfl rfl (op_call rfl rfl (c11)) rfl rfl ?_) | (refine wo_gsplit rfl rfl rfl (fun hb => ?_) (fun hb => ?_) <;> (try simp only [decide_eq_true_eq, decide_eq_false_iff_not, Bool.not_eq_true', Bool.not_eq_false', Int.not_lt, Int.not_le, Decidable.not_not, not_true_eq_false, not_false_eq_true, beq_self_eq_true, reduceCtorEq] at hb) <;> (try (exfalso; omega))))) | with_reducible refine sq_norm ?_ | with_reducible refine wc_seq ?_ | with_reducible refine wc_region ?_ | with_reducible refine wc_ret ?_ | with_reducible refine sq_ret ?_ | refine wc_ift rfl ?_)
    all_goals exact rq1 rfl ⟨rfl, gr_A⟩
end Go.Proofs.YtccdcekcbbpohaaGreatDoor
