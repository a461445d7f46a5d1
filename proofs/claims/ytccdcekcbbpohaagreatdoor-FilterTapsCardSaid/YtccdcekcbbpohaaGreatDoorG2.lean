/- What is heard of a list. -/
import Derived.Test.YtccdcekcbbpohaaGreatDoorG1
set_option linter.all false
/- Ghosts, by the program and by the reference. -/
namespace Go.Proofs.YtccdcekcbbpohaaGreatDoor
open Go Go.Ab Go.Fl
set_option maxRecDepth 10000
variable {G : Base} {h : H}
/-! without the ghost -/
def dghA (l : List Int) (d : Nat) : Nat → List Int
  | 0 => []
  | i + 1 => dghA l d i ++ [l.getD i 0 + (if d ≤ i then (dghA l d i).getD (i - d) 0 else 0)]
def dghL (l : List Int) (d : Nat) : List Int := dghA l d l.length
attribute [local irreducible] SeqQ BlkQ LpQ RetQ Wc Wo WD WX Op1 Op1q Op1a Cf Cl From
attribute [local irreducible] Ieee.Format.order Ieee.Format.read Ieee.Format.nearest Ieee.Format.write Ieee.Format.mul Ieee.Format.div Ieee.Datum.order Ieee.Datum.integral smpE smp smpW K J U sumN lchk tchk trE hdrE appL undL undA undI wr ghoL
set_option maxRecDepth 10000

end Go.Proofs.YtccdcekcbbpohaaGreatDoor

/- Multiples; lists without their ghosts by the reference; notches. -/
namespace Go.Proofs.YtccdcekcbbpohaaGreatDoor
open Go Go.Ab Go.Fl
attribute [local irreducible] SeqQ BlkQ LpQ RetQ Wc Wo WD WX Op1 Op1q Op1a Cf Cl From
attribute [local irreducible] Ieee.Format.order Ieee.Format.read Ieee.Format.nearest Ieee.Format.write Ieee.Format.mul Ieee.Format.div Ieee.Datum.order Ieee.Datum.integral smpE smp smpW K J U sumN lchk tchk trE hdrE appL undL undA undI wr ghoL dghL rnd
set_option maxRecDepth 10000
variable {G : Base} {h : H}
def mulF (l : List Int) (d i : Nat) : Int := if i < d then 0 else -rnd (sumN (i - d + 1) (fun j => l.getD j 0 * l.getD (i - d - j) 0)) 1024
def mulL (l : List Int) (d : Nat) : List Int := (List.range l.length).map (mulF l d)
end Go.Proofs.YtccdcekcbbpohaaGreatDoor

/- Lists without their ghosts by the reference; notches; what is heard. -/
namespace Go.Proofs.YtccdcekcbbpohaaGreatDoor
open Go Go.Ab Go.Fl
attribute [local irreducible] SeqQ BlkQ LpQ RetQ Wc Wo WD WX Op1 Op1q Op1a Cf Cl From
attribute [local irreducible] Ieee.Format.order Ieee.Format.read Ieee.Format.nearest Ieee.Format.write Ieee.Format.mul Ieee.Format.div Ieee.Datum.order Ieee.Datum.integral smpE smp smpW K J U sumN lchk tchk trE hdrE appL undL undA undI wr ghoL rnd mulL
set_option maxRecDepth 10000
variable {G : Base} {h : H}

def FitM (G : Base) (h : H) (r : Value) (n : Nat) (L : List Int) : Prop :=
  (anyLarge L = true ∧ r = .tuple #[.slice none 0 0, .int .i64 4]) ∨ (anyLarge L = false ∧ ∃ a c, r = .tuple #[.slice a n c, .int .i64 0] ∧ Sl G h 1 (.slice a n c) n ((L.map smpW).map (.float .f32)))
theorem take_map_step (l : List Int) {k : Nat} (hk : k < l.length) : ((l.take k).map smpW).map (Value.float .f32) ++ [Value.float .f32 (smpW (l.getD k 0))] = ((l.take (k + 1)).map smpW).map (Value.float .f32) := by
  rw [List.take_succ_eq_append_getElem hk, List.map_append, List.map_append, ← getElem_getD hk]; rfl
set_option maxHeartbeats 2000000 in
theorem c48 {v : Value} {n : Nat} {l : List Int} (s : Sl G h 1 v n (l.map (.int .i64))) (hn : n < 1000000) (hw : Wf h) : Cf (mz G) (.func (.func 48) #[] #[]) [v] h fun r h' => FitM G h' r n l ∧ Grow h h' := by
  obtain ⟨a, c, rfl⟩ := s.form
  have hl := s.length
  simp at hl
  refine cf_enter0 26 [.tmp 2, .tmp 3] Tryz.func48 rfl rfl rfl rfl ?_
  repeat' (first | with_reducible refine wo_nil ?_ | ((with_reducible refine wo_any ?_); ((with_reducible refine ik_assign ?_); refine wo_op rfl (op_assign rfl) rfl rfl ?_)) | with_reducible refine sq_norm ?_ | with_reducible refine wc_seq ?_ | with_reducible refine wc_region ?_ | with_reducible refine wc_block ?_)
  refine wc_loop (fun p : Nat × Value => n - p.1) (fun p => [(0, .slice a n c), (4, p.2), (5, .int .i64 (p.1 : Nat))]) (fun p h' => (Wf h' ∧ Ow h h' 36 1 p.2 p.1 (((l.take p.1).map smpW).map (.float .f32))) ∧ p.1 ≤ n ∧ anyLarge (l.take p.1) = false) (0, .slice none 0 0) (within_lk ⟨rfl, rfl, rfl, trivial⟩) ⟨⟨hw, .nil (.refl _)⟩, Nat.zero_le _, by simp [anyLarge]⟩ ?_
  rintro ⟨k, r⟩ h' ⟨⟨hw', ow⟩, hk, hno⟩
  simp only at ow hk hno ⊢
  by_cases hlt : k < n
  · obtain ⟨ad, i1, i3⟩ := slI_at (s.grow ow.grow) (i := (k : Int)) (q := k) hlt rfl
    have hm : l.getD k 0 ∈ l := by rw [← getElem_getD (by omega)]; exact List.getElem_mem _
    have hst := take_map_step l (k := k) (by omega)
    have htk : l.take (k + 1) = l.take k ++ [l.getD k 0] := by rw [List.take_succ_eq_append_getElem (by omega), getElem_getD]
    obtain ⟨x, hx⟩ : ∃ x, l.getD k 0 = x := ⟨_, rfl⟩
    rw [hx] at i3 hm hst htk
    have q82 := fun (h : H) => c82 (G := G) (h := h) x
    by_cases hlg : isLargeB x = true
    · rw [hlg] at q82
      repeat' (first | with_reducible refine wo_nil ?_ | ((with_reducible refine wo_any ?_); first | ((with_reducible refine ik_move ?_); refine wo_op rfl (op_move rfl) rfl rfl ?_) | ((with_reducible refine ik_assign ?_); refine wo_op rfl (op_assign rfl) rfl rfl ?_) | ((with_reducible refine ik_indexAddr ?_); refine wo_op rfl (op_indexAddr rfl rfl i1) rfl rfl ?_) | ((with_reducible refine ik_load ?_); refine wo_op rfl (op_ldCell rfl Tryz.underlying3 rfl i3) rfl rfl ?_) | ((with_reducible refine ik_callb ?_); refine wo_op rfl (op_lenSl rfl Tryz.underlying22) rfl rfl ?_) | ((with_reducible refine ik_bin ?_); refine wo_op rfl (op_lss rfl rfl) rfl rfl ?_) | ((with_reducible refine ik_callv ?_); refine wo_op rfl (op_call rfl rfl (q82 _)) rfl rfl ?_)) | with_reducible refine sq_norm ?_ | with_reducible refine wc_seq ?_ | with_reducible refine wc_region ?_ | with_reducible refine wc_skip ?_ | with_reducible refine wc_ret ?_ | with_reducible refine wc_block ?_ | with_reducible refine bq_ret ?_ | with_reducible refine sq_ret ?_ | with_reducible refine lq_ret ?_ | refine wc_ift rfl ?_ | (refine wc_if rfl (fun hb => ?_) (fun hb => dead_A hb); (try simp only [decide_eq_true_eq, decide_eq_false_iff_not, Bool.not_eq_true', Bool.not_eq_false', Int.not_lt, Int.not_le, Decidable.not_not, not_true_eq_false, not_false_eq_true, beq_self_eq_true, reduceCtorEq] at hb)))
      exact rq2 rfl rfl ⟨.inl ⟨by unfold anyLarge; rw [List.any_eq_true]; exact ⟨x, hm, hlg⟩, rfl⟩, ow.grow⟩
    · have hlf := Bool.eq_false_iff.2 hlg
      rw [hlf] at q82
      have hb := of_decide_eq_false hlf
      have q97 := fun (h : H) => c97 (G := G) (h := h) (n := x) (by omega)
      obtain ⟨r2, h3, hap, ow3, _, hwf, _⟩ := append_ow (M := mz G) (st := 23) (xt := 23) (h := h'.push (.cells [.float .f32 (smpW x)] 36 1 false)) (new := [.float .f32 (smpW x)]) (m := 1) Tryz.underlying23 Tryz.underlying23 rfl zs36 zb36 zz36 rfl (ow.next ((Grow.refl _).push _)) (Sl.ofAt (At.new _ _) rfl (Nat.le_refl _)) rfl (by omega)
      rw [hst] at ow3
      have hno2 : anyLarge (l.take (k + 1)) = false := by
        rw [htk]
        unfold anyLarge at hno ⊢
        rw [List.any_append, hno]
        simpa using hlf
      repeat' (first | with_reducible refine wo_nil ?_ | ((with_reducible refine wo_any ?_); first | ((with_reducible refine ik_move ?_); refine wo_op rfl (op_move rfl) rfl rfl ?_) | ((with_reducible refine ik_assign ?_); refine wo_op rfl (op_assign rfl) rfl rfl ?_) | ((with_reducible refine ik_indexAddr ?_); refine wo_op rfl (op_indexAddr rfl rfl i1) rfl rfl ?_) | ((with_reducible refine ik_load ?_); refine wo_op rfl (op_ldCell rfl Tryz.underlying3 rfl i3) rfl rfl ?_) | ((with_reducible refine ik_callb ?_); first | refine wo_op rfl (op_append rfl rfl hap) rfl rfl ?_ | refine wo_op rfl (op_lenSl rfl Tryz.underlying22) rfl rfl ?_) | ((with_reducible refine ik_bin ?_); first | refine wo_op rfl (op_lss rfl rfl) rfl rfl ?_ | refine wo_op rfl (op_add' rfl rfl (w64 (by omega) (by omega))) rfl rfl ?_) | ((with_reducible refine ik_buildSlice ?_); refine wo_op rfl (op_buildSl rfl Tryz.underlying23 zs36 zz36 rfl rfl) rfl rfl ?_) | ((with_reducible refine ik_callv ?_); first | refine wo_op rfl (op_call rfl rfl (q82 _)) rfl rfl ?_ | refine wo_op rfl (op_call rfl rfl (q97 _)) rfl rfl ?_)) | with_reducible refine sq_norm ?_ | with_reducible refine wc_seq ?_ | with_reducible refine wc_region ?_ | with_reducible refine wc_skip ?_ | with_reducible refine wc_block ?_ | with_reducible refine bq_norm ?_ | refine wc_iff rfl ?_ | (refine wc_if rfl (fun hb => ?_) (fun hb => dead_A hb); (try simp only [decide_eq_true_eq, decide_eq_false_iff_not, Bool.not_eq_true', Bool.not_eq_false', Int.not_lt, Int.not_le, Decidable.not_not, not_true_eq_false, not_false_eq_true, beq_self_eq_true, reduceCtorEq] at hb)))
      exact lq_norm (k + 1, r2) (by simp only; omega) (within_lk ⟨rfl, rfl, rfl, trivial⟩) ⟨⟨hwf wf_A, ow3⟩, by simp only; omega, hno2⟩
  · have hkn2 : k = n := by omega
    subst hkn2
    repeat' (first | with_reducible refine wo_nil ?_ | ((with_reducible refine wo_any ?_); first | ((with_reducible refine ik_move ?_); refine wo_op rfl (op_move rfl) rfl rfl ?_) | ((with_reducible refine ik_assign ?_); refine wo_op rfl (op_assign rfl) rfl rfl ?_) | ((with_reducible refine ik_callb ?_); refine wo_op rfl (op_lenSl rfl Tryz.underlying22) rfl rfl ?_) | ((with_reducible refine ik_bin ?_); refine wo_op rfl (op_lss rfl rfl) rfl rfl ?_)) | with_reducible refine sq_norm ?_ | with_reducible refine wc_seq ?_ | with_reducible refine wc_region ?_ | with_reducible refine wc_ret ?_ | with_reducible refine wc_exit ?_ | with_reducible refine sq_exit ?_ | with_reducible refine lq_exit ?_ | refine bq_eq rfl ?_ | (refine wc_if rfl (fun hb => ?_) (fun hb => ?_) <;> (try simp only [decide_eq_true_eq, decide_eq_false_iff_not, Bool.not_eq_true', Bool.not_eq_false', Int.not_lt, Int.not_le, Decidable.not_not, not_true_eq_false, not_false_eq_true, beq_self_eq_true, reduceCtorEq] at hb) <;> (try (exfalso; omega))))
    have hs := ow.sl (G := G)
    rw [List.take_of_length_le (by omega)] at hs hno
    obtain ⟨a2, c2, rfl⟩ := hs.form
    exact rq2 rfl rfl ⟨.inr ⟨hno, a2, c2, rfl, hs⟩, ow.grow⟩
/-- What is heard is what was wanted. -/
def HeardA (G : Base) (h : H) (a : Option Addr) (n c : Nat) (E bad : Int) (w : Value) (L : List Int) : Prop :=
  (bad ≠ 0 ∧ E = bad ∧ n = 0) ∨ (bad = 0 ∧ (∃ m, m < 1000000 ∧ Sl G h 1 w m (L.map (.int .i64))) ∧ ((E = 4 ∧ anyLarge L = true ∧ n = 0) ∨ (E = 0 ∧ anyLarge L = false ∧ Sl G h 1 (.slice a n c) n ((L.map smpW).map (.float .f32)))))
theorem smpW_selfL {L : List Int} (h : anyLarge L = false) : fEqL (L.map smpW) (L.map smpW) := ⟨rfl, fun i q _ => by
  obtain ⟨z, hz, e⟩ := List.mem_map.1 (List.getElem_mem q)
  rw [← e]
  exact smpW_self (not_large h z hz)⟩
set_option maxHeartbeats 1000000 in
theorem c31 {a : Option Addr} {n c : Nat} {E bad : Int} {w : Value} {L : List Int} (q : HeardA G h a n c E bad w L) (hw : Wf h) : Cf (mz G) (.func (.func 31) #[] #[]) [.slice a n c, .int .i64 E, .int .i64 bad, w] h fun r h' => r = .bool true ∧ Grow h h' := by
  rcases q with ⟨q1, q2, q3⟩ | ⟨q1, ⟨m, hm, sw⟩, q⟩
  · subst q2 q3
    refine cf_enter0 43 [.tmp 8] Tryz.func31 rfl rfl rfl rfl ?_
    repeat' (first | with_reducible refine wo_nil ?_ | ((with_reducible refine wo_any ?_); first | ((with_reducible refine ik_move ?_); refine wo_op rfl (op_move rfl) rfl rfl ?_) | ((with_reducible refine ik_assign ?_); refine wo_op rfl (op_assign rfl) rfl rfl ?_) | ((with_reducible refine ik_bin ?_); first | refine wo_op rfl (op_neq rfl rfl) rfl rfl ?_ | refine wo_op rfl (op_eql rfl rfl) rfl rfl ?_) | ((with_reducible refine ik_pick ?_); refine wo_op rfl (op_pickt rfl rfl) rfl rfl ?_) | ((with_reducible refine ik_g ?_); first | ((with_reducible refine ig_move ?_); refine wo_grun rfl rfl rfl (op_move rfl) rfl rfl ?_) | ((with_reducible refine ig_bin ?_); refine wo_grun rfl rfl rfl (op_eql rfl rfl) rfl rfl ?_) | ((with_reducible refine ig_callb ?_); refine wo_grun rfl rfl rfl (op_lenSl rfl Tryz.underlying23) rfl rfl ?_) | (refine wo_gsplit rfl rfl rfl (fun hb => ?_) (fun hb => ?_) <;> (try simp only [decide_eq_true_eq, decide_eq_false_iff_not, Bool.not_eq_true', Bool.not_eq_false', Int.not_lt, Int.not_le, Decidable.not_not, not_true_eq_false, not_false_eq_true, beq_self_eq_true, reduceCtorEq] at hb) <;> (try (exfalso; omega))))) | with_reducible refine sq_norm ?_ | with_reducible refine wc_seq ?_ | with_reducible refine wc_region ?_ | with_reducible refine wc_ret ?_ | with_reducible refine sq_ret ?_ | (refine wc_if rfl (fun hb => ?_) (fun hb => ?_) <;> (try simp only [decide_eq_true_eq, decide_eq_false_iff_not, Bool.not_eq_true', Bool.not_eq_false', Int.not_lt, Int.not_le, Decidable.not_not, not_true_eq_false, not_false_eq_true, beq_self_eq_true, reduceCtorEq] at hb) <;> (try (exfalso; omega))))
    all_goals exact rq1 rfl ⟨by first | rfl | simp, gr_A⟩
  · subst q1
    have q48 := c48 sw hm hw
    rcases q with ⟨q1, q2, q3⟩ | ⟨q1, q2, q3⟩
    · subst q1 q3
      have r48 : Cf (mz G) (.func (.func 48) #[] #[]) [w] h fun r h' => r = .tuple #[.slice none 0 0, .int .i64 4] ∧ Grow h h' := q48.mono fun r h' ⟨p, g⟩ => ⟨(by
        rcases p with ⟨_, p⟩ | ⟨p, _⟩
        · exact p
        · rw [q2] at p; cases p), g⟩
      refine cf_enter0 43 [.tmp 8] Tryz.func31 rfl rfl rfl rfl ?_
      repeat' (first | with_reducible refine wo_nil ?_ | ((with_reducible refine wo_any ?_); first | ((with_reducible refine ik_move ?_); refine wo_op rfl (op_move rfl) rfl rfl ?_) | ((with_reducible refine ik_assign ?_); refine wo_op rfl (op_assign rfl) rfl rfl ?_) | ((with_reducible refine ik_bin ?_); first | refine wo_op rfl (op_neq rfl rfl) rfl rfl ?_ | refine wo_op rfl (op_eql rfl rfl) rfl rfl ?_) | ((with_reducible refine ik_pick ?_); refine wo_op rfl (op_pickt rfl rfl) rfl rfl ?_) | ((with_reducible refine ik_extract ?_); refine wo_op rfl (op_extract rfl rfl) rfl rfl ?_) | ((with_reducible refine ik_callv ?_); (refine wo_call rfl rfl rfl rfl (r48) rfl rfl ?_; rintro _ _ ⟨rfl, hq⟩; all_goals ((try (have hqn := hq.nx)); (try simp only [H.nx_push, H.nx_set, H.nx_bump] at hqn)))) | ((with_reducible refine ik_g ?_); first | ((with_reducible refine ig_move ?_); refine wo_grun rfl rfl rfl (op_move rfl) rfl rfl ?_) | ((with_reducible refine ig_bin ?_); refine wo_grun rfl rfl rfl (op_eql rfl rfl) rfl rfl ?_) | ((with_reducible refine ig_callb ?_); refine wo_grun rfl rfl rfl (op_lenSl rfl Tryz.underlying23) rfl rfl ?_))) | with_reducible refine sq_norm ?_ | with_reducible refine wc_seq ?_ | with_reducible refine wc_region ?_ | with_reducible refine wc_skip ?_ | with_reducible refine wc_ret ?_ | with_reducible refine sq_ret ?_ | refine wc_ift rfl ?_ | refine wc_iff rfl ?_)
      all_goals exact rq1 rfl ⟨by first | rfl | simp, gr_A⟩
    · subst q1
      have hL := sw.length
      have hL2 := q3.length
      simp at hL hL2
      have hmn : m = n := by omega
      subst hmn
      have r48 : Cf (mz G) (.func (.func 48) #[] #[]) [w] h fun r h' => (∃ a c, r = .tuple #[.slice a m c, .int .i64 0] ∧ Sl G h' 1 (.slice a m c) m ((L.map smpW).map (.float .f32))) ∧ Grow h h' := q48.mono fun r h' ⟨p, g⟩ => ⟨(by
        rcases p with ⟨p, _⟩ | ⟨_, p⟩
        · rw [q2] at p; cases p
        · exact p), g⟩
      refine cf_enter0 43 [.tmp 8] Tryz.func31 rfl rfl rfl rfl ?_
      repeat' (first | with_reducible refine wo_nil ?_ | ((with_reducible refine wo_any ?_); first | ((with_reducible refine ik_move ?_); refine wo_op rfl (op_move rfl) rfl rfl ?_) | ((with_reducible refine ik_assign ?_); refine wo_op rfl (op_assign rfl) rfl rfl ?_) | ((with_reducible refine ik_bin ?_); first | refine wo_op rfl (op_neq rfl rfl) rfl rfl ?_ | refine wo_op rfl (op_eql rfl rfl) rfl rfl ?_) | ((with_reducible refine ik_pick ?_); refine wo_op rfl (op_pickt rfl rfl) rfl rfl ?_) | ((with_reducible refine ik_extract ?_); refine wo_op rfl (op_extract rfl rfl) rfl rfl ?_) | ((with_reducible refine ik_callv ?_); (refine wo_call rfl rfl rfl rfl (r48) rfl rfl ?_; rintro _ _ ⟨⟨a2, c2, rfl, s2⟩, hq⟩; all_goals ((try (have hqn := hq.nx)); (try simp only [H.nx_push, H.nx_set, H.nx_bump] at hqn)))) | ((with_reducible refine ik_g ?_); first | ((with_reducible refine ig_move ?_); refine wo_grun rfl rfl rfl (op_move rfl) rfl rfl ?_) | ((with_reducible refine ig_callF (f := 19) ?_); (refine wo_gcall rfl rfl rfl rfl rfl rfl (c19g (q3.grow gr_A) s2 hm (smpW_selfL q2)) rfl rfl ?_; rintro _ _ ⟨rfl, hq⟩; all_goals ((try (have hqn := hq.nx)); (try simp only [H.nx_push, H.nx_set, H.nx_bump] at hqn)))))) | with_reducible refine sq_norm ?_ | with_reducible refine wc_seq ?_ | with_reducible refine wc_region ?_ | with_reducible refine wc_skip ?_ | with_reducible refine wc_ret ?_ | refine wc_iff rfl ?_)
      all_goals exact rq1 rfl ⟨by first | rfl | simp, gr_A⟩
def ListA (G : Base) (h : H) (a : Option Addr) (n c : Nat) (E bad : Int) (w : Value) (L : List Int) : Prop :=
  E = bad ∧ ((bad ≠ 0 ∧ n = 0) ∨ (bad = 0 ∧ n < 1000000 ∧ Sl G h 1 w n (L.map (.int .i64)) ∧ Sl G h 1 (.slice a n c) n (L.map (.int .i64))))
end Go.Proofs.YtccdcekcbbpohaaGreatDoor

/- Notches; the law FilterGhosts. -/
namespace Go.Proofs.YtccdcekcbbpohaaGreatDoor
open Go Go.Ab Go.Fl
attribute [local irreducible] SeqQ BlkQ LpQ RetQ Wc Wo WD WX Op1 Op1q Op1a Cf Cl From
attribute [local irreducible] Ieee.Format.order Ieee.Format.read Ieee.Format.nearest Ieee.Format.write Ieee.Format.mul Ieee.Format.div Ieee.Datum.order Ieee.Datum.integral smpE smp smpW K J U sumN lchk tchk trE hdrE appL undL undA undI wr ghoL rnd mulL dghL dghA madeE anyLarge rngE
set_option maxRecDepth 10000
variable {G : Base} {h : H}

def notN (d : Nat) : Nat → List Int
  | 0 => []
  | k + 1 => if k * d % 4 = 0 then notN d k ++ [(k : Int)] else notN d k
end Go.Proofs.YtccdcekcbbpohaaGreatDoor
