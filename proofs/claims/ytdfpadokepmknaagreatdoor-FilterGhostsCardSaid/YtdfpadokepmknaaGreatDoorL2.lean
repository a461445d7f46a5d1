/- The law FilterGhosts, walked. -/
import Derived.Test.YtdfpadokepmknaaGreatDoorG2
set_option linter.all false
/- The law FilterGhosts, walked. -/
namespace Go.Proofs.YtdfpadokepmknaaGreatDoor
open Go Go.Ab Go.Fl
attribute [local irreducible] SeqQ BlkQ LpQ RetQ Wc Wo WD WX Op1 Op1q Op1a Cf Cl From
attribute [local irreducible] Ieee.Format.order Ieee.Format.read Ieee.Format.nearest Ieee.Format.write Ieee.Format.mul Ieee.Format.div Ieee.Datum.order Ieee.Datum.integral smpE smp smpW K J U sumN lchk tchk trE hdrE appL undL undA undI wr ghoL rnd mulL dghL dghA madeE anyLarge rngE notN
set_option maxRecDepth 10000
variable {G : Base} {h : H}

/-- The list that is made, with its error. -/
def MadeS (G : Base) (h : H) (i : Option Addr × Nat × Nat) (n : Nat) (E : Int) (L : List Int) : Prop :=
  (E ≠ 0 ∧ i.2.1 = 0) ∨ (E = 0 ∧ i.2.1 = n ∧ Sl G h 1 (.slice i.1 i.2.1 i.2.2) n ((L.map smpW).map (.float .f32)))
theorem MadeS.grow {h h' : H} {i : Option Addr × Nat × Nat} {n : Nat} {E : Int} {L : List Int} (m : MadeS G h i n E L) (g : Grow h h') : MadeS G h' i n E L := by
  rcases m with m | ⟨m1, m2, m3⟩
  · exact .inl m
  · exact .inr ⟨m1, m2, m3.grow g⟩
theorem made_s {r : Value} {n : Nat} {E : Int} {L : List Int} (m : MadeF G h r n E L) : ∃ i : Option Addr × Nat × Nat, r = .tuple #[.slice i.1 i.2.1 i.2.2, .int .i64 E] ∧ MadeS G h i n E L := by
  rcases m with ⟨m1, m2⟩ | ⟨m1, a, c, m2, m3, _⟩
  · exact ⟨(none, 0, 0), m2, .inl ⟨m1, rfl⟩⟩
  · subst m1
    exact ⟨(a, n, c), m2, .inr ⟨rfl, rfl, m3⟩⟩
def NotS (G : Base) (h : H) (i : Option Addr × Nat × Nat) (x : Int) : Prop :=
  (rngE x 1 64 ≠ 0 ∧ i.2.1 = 0) ∨ (rngE x 1 64 = 0 ∧ i.2.1 = (notN x.toNat 4).length ∧ Sl G h 1 (.slice i.1 i.2.1 i.2.2) i.2.1 ((notN x.toNat 4).map (.int .i64)))
theorem NotS.grow {h h' : H} {i : Option Addr × Nat × Nat} {x : Int} (m : NotS G h i x) (g : Grow h h') : NotS G h' i x := by
  rcases m with m | ⟨m1, m2, m3⟩
  · exact .inl m
  · exact .inr ⟨m1, m2, m3.grow g⟩
/-- What the reference makes of a list without its ghost, with its error. -/
def RefS (G : Base) (h : H) (i : Option Addr × Nat × Nat) (two : Int) (n : Nat) (L : List Int) : Prop :=
  (two = 4 ∧ anyLarge L = true) ∨ (two = 0 ∧ anyLarge L = false ∧ Sl G h 1 (.slice i.1 i.2.1 i.2.2) n (L.map (.int .i64)))
theorem RefS.grow {h h' : H} {i : Option Addr × Nat × Nat} {two : Int} {n : Nat} {L : List Int} (m : RefS G h i two n L) (g : Grow h h') : RefS G h' i two n L := by
  rcases m with m | ⟨m1, m2, m3⟩
  · exact .inl m
  · exact .inr ⟨m1, m2, m3.grow g⟩
theorem c39s {v : Value} {n d : Nat} {l : List Int} (s : Sl G h 1 v n (l.map (.int .i64))) (hn : n < 1000000) (hl0 : ∀ x ∈ l, x.natAbs ≤ 16384) (hw : Wf h) (hd : 1 ≤ d) : Cf (mz G) (.func (.func 39) #[] #[]) [v, .int .i64 d] h fun r h' => (∃ (i : Option Addr × Nat × Nat) (two : Int), r = .tuple #[.slice i.1 i.2.1 i.2.2, .int .i64 two] ∧ RefS G h' i two n (dghL l d)) ∧ Grow h h' :=
  (c39 s hn hl0 hw hd).mono fun r h' ⟨q, g⟩ => by
    refine ⟨?_, g⟩
    rcases q with ⟨q1, q2⟩ | ⟨q1, a, c, q2, q3⟩
    · exact ⟨(none, 0, 0), 4, q2, .inl ⟨rfl, q1⟩⟩
    · exact ⟨(a, n, c), 0, q2, .inr ⟨rfl, q1, q3⟩⟩
section
variable {v : Value} {n : Nat} {l : List Nat}
theorem c32s (x : Int) (u : Sl G h 1 v n (l.map (.float .f32))) (hn : n < 1000000) (hw : Wf h) (hG : ∀ a v, laidBase a = some v → G a = some v) :
    Cf (mz G) (.func (.func 32) #[] #[]) [v, .int .i64 x] h fun r h' => (∃ i : Option Addr × Nat × Nat, r = .tuple #[.slice i.1 i.2.1 i.2.2, .int .i64 (madeE (firstNZ [lchk l, rngE x 1 64]) (ghoL (l.map smp) x.toNat))] ∧ MadeS G h' i n (madeE (firstNZ [lchk l, rngE x 1 64]) (ghoL (l.map smp) x.toNat)) (ghoL (l.map smp) x.toNat)) ∧ Grow h h' :=
  (c32 x u hn hw hG).mono fun r h' ⟨q, g⟩ => ⟨made_s q, g⟩
theorem c33s (x : Int) (u : Sl G h 1 v n (l.map (.float .f32))) (hn : n < 1000000) (hw : Wf h) (hG : ∀ a v, laidBase a = some v → G a = some v) :
    Cf (mz G) (.func (.func 33) #[] #[]) [v, .int .i64 x] h fun r h' => (∃ i : Option Addr × Nat × Nat, r = .tuple #[.slice i.1 i.2.1 i.2.2, .int .i64 (madeE (firstNZ [lchk l, rngE x 1 64]) (dghL (l.map smp) x.toNat))] ∧ MadeS G h' i n (madeE (firstNZ [lchk l, rngE x 1 64]) (dghL (l.map smp) x.toNat)) (dghL (l.map smp) x.toNat)) ∧ Grow h h' :=
  (c33 x u hn hw hG).mono fun r h' ⟨q, g⟩ => ⟨made_s q, g⟩
theorem c35s (x : Int) (u : Sl G h 1 v n (l.map (.float .f32))) (hn : n < 1000000) (hw : Wf h) (hG : ∀ a v, laidBase a = some v → G a = some v) :
    Cf (mz G) (.func (.func 35) #[] #[]) [v, .int .i64 x] h fun r h' => (∃ i : Option Addr × Nat × Nat, r = .tuple #[.slice i.1 i.2.1 i.2.2, .int .i64 (madeE (firstNZ [lchk l, rngE x 1 64]) (mulL (l.map smp) x.toNat))] ∧ MadeS G h' i n (madeE (firstNZ [lchk l, rngE x 1 64]) (mulL (l.map smp) x.toNat)) (mulL (l.map smp) x.toNat)) ∧ Grow h h' :=
  (c35 x u hn hw hG).mono fun r h' ⟨q, g⟩ => ⟨made_s q, g⟩
end
theorem c34s (x : Int) (hw : Wf h) : Cf (mz G) (.func (.func 34) #[] #[]) [.int .i64 x] h fun r h' => (∃ i : Option Addr × Nat × Nat, r = .tuple #[.slice i.1 i.2.1 i.2.2, .int .i64 (rngE x 1 64)] ∧ NotS G h' i x) ∧ Grow h h' :=
  (c34 x hw).mono fun r h' ⟨⟨a, m, c, q1, q2⟩, g⟩ => ⟨⟨(a, m, c), q1, q2⟩, g⟩
theorem madeE_bad {B : Int} {L : List Int} (h : B ≠ 0) : madeE B L = B := by unfold madeE; rw [if_pos h]
theorem madeE_zero (L : List Int) : madeE 0 L = if anyLarge L then 4 else 0 := by unfold madeE; rw [if_neg (by decide)]
/-- What is heard of a list that is made: bad arguments. -/
theorem heard_bad {i : Option Addr × Nat × Nat} {n : Nat} {B : Int} {L L' : List Int} {w : Value} (hB : B ≠ 0) (m : MadeS G h i n (madeE B L) L) : HeardA G h i.1 i.2.1 i.2.2 (madeE B L) B w L' := by
  rw [madeE_bad hB] at m ⊢
  rcases m with ⟨_, m⟩ | ⟨m, _⟩
  · exact .inl ⟨hB, rfl, m⟩
  · exact absurd m hB
theorem heard_good {i : Option Addr × Nat × Nat} {n : Nat} {L : List Int} {w : Value} (hn : n < 1000000) (sw : Sl G h 1 w n (L.map (.int .i64))) (m : MadeS G h i n (madeE 0 L) L) : HeardA G h i.1 i.2.1 i.2.2 (madeE 0 L) 0 w L := by
  rw [madeE_zero] at m ⊢
  refine .inr ⟨rfl, ⟨n, hn, sw⟩, ?_⟩
  cases hL : anyLarge L with
  | true =>
    rw [hL, if_pos rfl] at m
    rw [if_pos rfl]
    rcases m with ⟨_, m⟩ | ⟨m, _⟩
    · exact .inl ⟨rfl, rfl, m⟩
    · exact absurd m (by decide)
  | false =>
    rw [hL, if_neg (by decide)] at m
    rw [if_neg (by decide)]
    rcases m with ⟨m, _⟩ | ⟨_, m2, m3⟩
    · exact absurd rfl m
    · refine .inr ⟨rfl, rfl, ?_⟩
      rw [m2] at m3 ⊢
      exact m3
theorem heard_four {i : Option Addr × Nat × Nat} {n : Nat} {L L' : List Int} {w : Value} (hL : anyLarge L = true) (m : MadeS G h i n (madeE 0 L) L) : HeardA G h i.1 i.2.1 i.2.2 (madeE 0 L) 4 w L' := by
  rw [madeE_zero, hL, if_pos rfl] at m ⊢
  rcases m with ⟨_, m⟩ | ⟨m, _⟩
  · exact .inl ⟨by decide, rfl, m⟩
  · exact absurd m (by decide)
theorem HeardA.grow {h h' : H} {a : Option Addr} {n c : Nat} {E bad : Int} {w : Value} {L : List Int} (q : HeardA G h a n c E bad w L) (g : Grow h h') : HeardA G h' a n c E bad w L := by
  rcases q with q | ⟨q1, ⟨m, q2, q3⟩, q⟩
  · exact .inl q
  · refine .inr ⟨q1, ⟨m, q2, q3.grow g⟩, ?_⟩
    rcases q with q | ⟨q4, q5, q6⟩
    · exact .inl q
    · exact .inr ⟨q4, q5, q6.grow g⟩
theorem ListA.grow {h h' : H} {a : Option Addr} {n c : Nat} {E bad : Int} {w : Value} {L : List Int} (q : ListA G h a n c E bad w L) (g : Grow h h') : ListA G h' a n c E bad w L := by
  obtain ⟨e, q⟩ := q
  refine ⟨e, ?_⟩
  rcases q with q | ⟨q1, q2, q3, q4⟩
  · exact .inl q
  · exact .inr ⟨q1, q2, q3.grow g, q4.grow g⟩
theorem list_bad {i : Option Addr × Nat × Nat} {x : Int} {w : Value} {L : List Int} (hD : rngE x 1 64 ≠ 0) (m : NotS G h i x) : ListA G h i.1 i.2.1 i.2.2 (rngE x 1 64) (rngE x 1 64) w L := by
  refine ⟨rfl, .inl ?_⟩
  rcases m with m | ⟨m, _⟩
  · exact m
  · exact absurd m hD
theorem list_good {i : Option Addr × Nat × Nat} {x : Int} {w : Value} (hD : rngE x 1 64 = 0) (sw : Sl G h 1 w (notN x.toNat 4).length ((notN x.toNat 4).map (.int .i64))) (m : NotS G h i x) : ListA G h i.1 i.2.1 i.2.2 0 0 w (notN x.toNat 4) := by
  refine ⟨rfl, .inr ⟨rfl, ?_⟩⟩
  rcases m with ⟨m, _⟩ | ⟨_, m2, m3⟩
  · exact absurd hD m
  · have := notN_len x.toNat 4
    rw [m2] at m3 ⊢
    exact ⟨by omega, sw, m3⟩
set_option maxHeartbeats 4000000 in
theorem c5n {a : Option Addr} {n c : Nat} {x : Int} (hS : ¬(n ≤ 32 ∨ n = 1025)) (hw : Wf h) : Cf (mz G) (.func (.func 5) #[] #[]) [.slice a n c, .int .i64 x] h fun r h' => r = .bool true ∧ Grow h h' := by
  refine cf_enter0 109 [.tmp 4] Tryz.func5 rfl rfl rfl rfl ?_
  repeat' (first | with_reducible refine wo_nil ?_ | ((with_reducible refine wo_any ?_); first | ((with_reducible refine ik_move ?_); refine wo_op rfl (op_move rfl) rfl rfl ?_) | ((with_reducible refine ik_assign ?_); refine wo_op rfl (op_assign rfl) rfl rfl ?_) | ((with_reducible refine ik_un ?_); refine wo_op rfl (op_not rfl) rfl rfl ?_) | ((with_reducible refine ik_pick ?_); refine wo_op rfl (op_pickf rfl rfl) rfl rfl ?_) | ((with_reducible refine ik_callF (f := 10) ?_); refine wo_op rfl (op_call rfl rfl (c10)) rfl rfl ?_) | ((with_reducible refine ik_g ?_); first | ((with_reducible refine ig_move ?_); refine wo_grun rfl rfl rfl (op_move rfl) rfl rfl ?_) | ((with_reducible refine ig_un ?_); refine wo_grun rfl rfl rfl (op_not rfl) rfl rfl ?_) | ((with_reducible refine ig_callF (f := 20) ?_); refine wo_grun rfl rfl rfl (op_call rfl rfl (c20)) rfl rfl ?_))) | with_reducible refine sq_norm ?_ | with_reducible refine wc_seq ?_ | with_reducible refine wc_region ?_ | with_reducible refine wc_ret ?_ | with_reducible refine sq_ret ?_ | (refine wc_if rfl (fun hb => ?_) (fun hb => ?_) <;> (try simp only [decide_eq_true_eq, decide_eq_false_iff_not, Bool.not_eq_true', Bool.not_eq_false', Int.not_lt, Int.not_le, Decidable.not_not, not_true_eq_false, not_false_eq_true, beq_self_eq_true, reduceCtorEq] at hb) <;> (try (exfalso; omega))))
  all_goals exact rq1 rfl ⟨rfl, gr_A⟩
set_option maxHeartbeats 4000000 in
theorem c5m {a : Option Addr} {n c : Nat} {x : Int} {l : List Nat} (s : Sl G h 1 (.slice a n c) n (l.map (.float .f32))) (hS : n ≤ 32 ∨ n = 1025) (hw : Wf h) (hG : ∀ a v, laidBase a = some v → G a = some v) : Cf (mz G) (.func (.func 5) #[] #[]) [.slice a n c, .int .i64 x] h fun r h' => r = .bool true ∧ Grow h h' := by
  have hl := s.length
  simp at hl
  have hn6 : n < 1000000 := by omega
  have q24 := fun (h' : H) (g : Grow h h') => c24 (s.grow g) hn6
  have q36 := fun (h : H) => c36 (G := G) (h := h) x 1 64
  obtain ⟨B, hB⟩ : ∃ B, firstNZ [lchk l, rngE x 1 64] = B := ⟨_, rfl⟩
  have q32 := fun (h' : H) (v : Value) (u : Sl G h' 1 v n (l.map (.float .f32))) (w' : Wf h') => c32s (G := G) (h := h') x u hn6 w' hG
  have q33 := fun (h' : H) (v : Value) (u : Sl G h' 1 v n (l.map (.float .f32))) (w' : Wf h') => c33s (G := G) (h := h') x u hn6 w' hG
  have q35 := fun (h' : H) (v : Value) (u : Sl G h' 1 v n (l.map (.float .f32))) (w' : Wf h') => c35s (G := G) (h := h') x u hn6 w' hG
  rw [hB] at q32 q33 q35
  obtain ⟨D, hD⟩ : ∃ D, rngE x 1 64 = D := ⟨_, rfl⟩
  have q34 := fun (h' : H) (w' : Wf h') => c34s (G := G) (h := h') x w'
  have q23 := fun (h' : H) (v : Value) (u : Sl G h' 1 v 2 ([lchk l, rngE x 1 64].map (.int .i64))) => c23 u (by omega)
  rw [hB] at q23
  rw [hD] at q34 q36 q23
  refine cf_enter0 109 [.tmp 4] Tryz.func5 rfl rfl rfl rfl ?_
  refine wc_mid (ι := Unit) (fun _ => [(0, .slice a n c), (1, .int .i64 x)]) (fun _ h' => (Wf h' ∧ Grow h h')) ?_ ?_
  · repeat' (first | with_reducible refine wo_nil ?_ | ((with_reducible refine wo_any ?_); ((with_reducible refine ik_assign ?_); refine wo_op rfl (op_assign rfl) rfl rfl ?_)) | with_reducible refine wc_region ?_)
    exact ⟨rfl, (), within_lk ⟨rfl, rfl, trivial⟩, wf_A, gr_A⟩
  rintro _ ha ⟨wa, ga⟩
  refine wc_mid (ι := Unit) (fun _ => [(0, .slice a n c), (1, .int .i64 x)]) (fun _ h' => (Wf h' ∧ Grow h h')) ?_ ?_
  · repeat' (first | with_reducible refine wo_nil ?_ | ((with_reducible refine wo_any ?_); first | ((with_reducible refine ik_move ?_); refine wo_op rfl (op_move rfl) rfl rfl ?_) | ((with_reducible refine ik_un ?_); refine wo_op rfl (op_not rfl) rfl rfl ?_) | ((with_reducible refine ik_pick ?_); refine wo_op rfl (op_pickf rfl rfl) rfl rfl ?_) | ((with_reducible refine ik_callF (f := 10) ?_); refine wo_op rfl (op_call rfl rfl (c10)) rfl rfl ?_) | ((with_reducible refine ik_g ?_); first | ((with_reducible refine ig_move ?_); refine wo_grun rfl rfl rfl (op_move rfl) rfl rfl ?_) | ((with_reducible refine ig_un ?_); refine wo_grun rfl rfl rfl (op_not rfl) rfl rfl ?_) | ((with_reducible refine ig_callF (f := 20) ?_); refine wo_grun rfl rfl rfl (op_call rfl rfl (c20)) rfl rfl ?_))) | with_reducible refine sq_norm ?_ | with_reducible refine wc_seq ?_ | with_reducible refine wc_region ?_ | with_reducible refine wc_skip ?_ | (refine wc_if rfl (fun hb => dead_A hb) (fun hb => ?_); (try simp only [decide_eq_true_eq, decide_eq_false_iff_not, Bool.not_eq_true', Bool.not_eq_false', Int.not_lt, Int.not_le, Decidable.not_not, not_true_eq_false, not_false_eq_true, beq_self_eq_true, reduceCtorEq] at hb)))
    exact ⟨rfl, (), within_lk ⟨rfl, rfl, trivial⟩, wf_A, gr_A⟩
  clear wa ga ha
  rintro _ ha ⟨wa, ga⟩
  have la := ga.nx
  refine wc_mid (ι := Option Addr × Nat × Nat) (fun i => [(0, .slice a n c), (1, .int .i64 x), (5, .slice i.1 i.2.1 i.2.2), (6, .int .i64 (madeE B (ghoL (l.map smp) x.toNat)))]) (fun i h' => (Wf h' ∧ Grow h h') ∧ MadeS G h' i n (madeE B (ghoL (l.map smp) x.toNat)) ((ghoL (l.map smp) x.toNat))) ?_ ?_
  · repeat' (first | with_reducible refine wo_nil ?_ | ((with_reducible refine wo_any ?_); first | ((with_reducible refine ik_move ?_); refine wo_op rfl (op_move rfl) rfl rfl ?_) | ((with_reducible refine ik_assign ?_); refine wo_op rfl (op_assign rfl) rfl rfl ?_) | ((with_reducible refine ik_extract ?_); refine wo_op rfl (op_extract rfl rfl) rfl rfl ?_) | ((with_reducible refine ik_callF (f := 16) ?_); (refine wo_call rfl rfl rfl rfl (c16 (s.grow gr_A) hn6) rfl rfl ?_; rintro _ _ ⟨sf, hq, hwf⟩; all_goals ((try (have hqn := hq.nx)); (try simp only [H.nx_push, H.nx_set, H.nx_bump] at hqn)))) | ((with_reducible refine ik_callv ?_); (refine wo_call rfl rfl rfl rfl (q32 _ _ (sf.grow gr_A) wf_A) rfl rfl ?_; rintro _ _ ⟨⟨i1, rfl, m1⟩, hq⟩; all_goals ((try (have hqn := hq.nx)); (try simp only [H.nx_push, H.nx_set, H.nx_bump] at hqn))))) | with_reducible refine wc_region ?_)
    exact ⟨rfl, i1, within_lk ⟨rfl, rfl, rfl, rfl, trivial⟩, ⟨wf_A, gr_A⟩, m1.grow gr_A⟩
  clear wa ga ha la q32
  rintro i1 ha ⟨⟨wa, ga⟩, m1⟩
  have la := ga.nx
  refine wc_mid (ι := Option Addr × Nat × Nat) (fun i => [(0, .slice a n c), (1, .int .i64 x), (5, .slice i1.1 i1.2.1 i1.2.2), (6, .int .i64 (madeE B (ghoL (l.map smp) x.toNat))), (7, .slice i.1 i.2.1 i.2.2), (8, .int .i64 (madeE B (dghL (l.map smp) x.toNat)))]) (fun i h' => (Wf h' ∧ Grow h h') ∧ MadeS G h' i1 n (madeE B (ghoL (l.map smp) x.toNat)) ((ghoL (l.map smp) x.toNat)) ∧ MadeS G h' i n (madeE B (dghL (l.map smp) x.toNat)) ((dghL (l.map smp) x.toNat))) ?_ ?_
  · repeat' (first | with_reducible refine wo_nil ?_ | ((with_reducible refine wo_any ?_); first | ((with_reducible refine ik_move ?_); refine wo_op rfl (op_move rfl) rfl rfl ?_) | ((with_reducible refine ik_assign ?_); refine wo_op rfl (op_assign rfl) rfl rfl ?_) | ((with_reducible refine ik_extract ?_); refine wo_op rfl (op_extract rfl rfl) rfl rfl ?_) | ((with_reducible refine ik_callF (f := 16) ?_); (refine wo_call rfl rfl rfl rfl (c16 (s.grow gr_A) hn6) rfl rfl ?_; rintro _ _ ⟨sf, hq, hwf⟩; all_goals ((try (have hqn := hq.nx)); (try simp only [H.nx_push, H.nx_set, H.nx_bump] at hqn)))) | ((with_reducible refine ik_callv ?_); (refine wo_call rfl rfl rfl rfl (q33 _ _ (sf.grow gr_A) wf_A) rfl rfl ?_; rintro _ _ ⟨⟨i2, rfl, m2⟩, hq⟩; all_goals ((try (have hqn := hq.nx)); (try simp only [H.nx_push, H.nx_set, H.nx_bump] at hqn))))) | with_reducible refine wc_region ?_)
    exact ⟨rfl, i2, within_lk ⟨rfl, rfl, rfl, rfl, rfl, rfl, trivial⟩, ⟨wf_A, gr_A⟩, m1.grow gr_A, m2.grow gr_A⟩
  clear wa ga ha la m1 q33
  rintro i2 ha ⟨⟨wa, ga⟩, m1, m2⟩
  have la := ga.nx
  refine wc_mid (ι := Option Addr × Nat × Nat) (fun i => [(0, .slice a n c), (1, .int .i64 x), (5, .slice i1.1 i1.2.1 i1.2.2), (6, .int .i64 (madeE B (ghoL (l.map smp) x.toNat))), (7, .slice i2.1 i2.2.1 i2.2.2), (8, .int .i64 (madeE B (dghL (l.map smp) x.toNat))), (9, .slice i.1 i.2.1 i.2.2), (10, .int .i64 D)]) (fun i h' => (Wf h' ∧ Grow h h') ∧ MadeS G h' i1 n (madeE B (ghoL (l.map smp) x.toNat)) ((ghoL (l.map smp) x.toNat)) ∧ MadeS G h' i2 n (madeE B (dghL (l.map smp) x.toNat)) ((dghL (l.map smp) x.toNat)) ∧ NotS G h' i x) ?_ ?_
  · repeat' (first | with_reducible refine wo_nil ?_ | ((with_reducible refine wo_any ?_); first | ((with_reducible refine ik_move ?_); refine wo_op rfl (op_move rfl) rfl rfl ?_) | ((with_reducible refine ik_assign ?_); refine wo_op rfl (op_assign rfl) rfl rfl ?_) | ((with_reducible refine ik_extract ?_); refine wo_op rfl (op_extract rfl rfl) rfl rfl ?_) | ((with_reducible refine ik_callv ?_); (refine wo_call rfl rfl rfl rfl (q34 _ wf_A) rfl rfl ?_; rintro _ _ ⟨⟨i3, rfl, m3⟩, hq⟩; all_goals ((try (have hqn := hq.nx)); (try simp only [H.nx_push, H.nx_set, H.nx_bump] at hqn))))) | with_reducible refine wc_region ?_)
    exact ⟨rfl, i3, within_lk ⟨rfl, rfl, rfl, rfl, rfl, rfl, rfl, rfl, trivial⟩, ⟨wf_A, gr_A⟩, m1.grow gr_A, m2.grow gr_A, m3.grow gr_A⟩
  clear wa ga ha la m1 m2
  rintro i3 ha ⟨⟨wa, ga⟩, m1, m2, m3⟩
  have la := ga.nx
  refine wc_mid (ι := Option Addr × Nat × Nat) (fun i => [(0, .slice a n c), (1, .int .i64 x), (5, .slice i1.1 i1.2.1 i1.2.2), (6, .int .i64 (madeE B (ghoL (l.map smp) x.toNat))), (7, .slice i2.1 i2.2.1 i2.2.2), (8, .int .i64 (madeE B (dghL (l.map smp) x.toNat))), (9, .slice i3.1 i3.2.1 i3.2.2), (10, .int .i64 D), (11, .slice i.1 i.2.1 i.2.2), (12, .int .i64 (madeE B (mulL (l.map smp) x.toNat)))]) (fun i h' => (Wf h' ∧ Grow h h') ∧ MadeS G h' i1 n (madeE B (ghoL (l.map smp) x.toNat)) ((ghoL (l.map smp) x.toNat)) ∧ MadeS G h' i2 n (madeE B (dghL (l.map smp) x.toNat)) ((dghL (l.map smp) x.toNat)) ∧ NotS G h' i3 x ∧ MadeS G h' i n (madeE B (mulL (l.map smp) x.toNat)) ((mulL (l.map smp) x.toNat))) ?_ ?_
  · repeat' (first | with_reducible refine wo_nil ?_ | ((with_reducible refine wo_any ?_); first | ((with_reducible refine ik_move ?_); refine wo_op rfl (op_move rfl) rfl rfl ?_) | ((with_reducible refine ik_assign ?_); refine wo_op rfl (op_assign rfl) rfl rfl ?_) | ((with_reducible refine ik_extract ?_); refine wo_op rfl (op_extract rfl rfl) rfl rfl ?_) | ((with_reducible refine ik_callF (f := 16) ?_); (refine wo_call rfl rfl rfl rfl (c16 (s.grow gr_A) hn6) rfl rfl ?_; rintro _ _ ⟨sf, hq, hwf⟩; all_goals ((try (have hqn := hq.nx)); (try simp only [H.nx_push, H.nx_set, H.nx_bump] at hqn)))) | ((with_reducible refine ik_callv ?_); (refine wo_call rfl rfl rfl rfl (q35 _ _ (sf.grow gr_A) wf_A) rfl rfl ?_; rintro _ _ ⟨⟨i4, rfl, m4⟩, hq⟩; all_goals ((try (have hqn := hq.nx)); (try simp only [H.nx_push, H.nx_set, H.nx_bump] at hqn))))) | with_reducible refine wc_region ?_)
    exact ⟨rfl, i4, within_lk ⟨rfl, rfl, rfl, rfl, rfl, rfl, rfl, rfl, rfl, rfl, trivial⟩, ⟨wf_A, gr_A⟩, m1.grow gr_A, m2.grow gr_A, m3.grow gr_A, m4.grow gr_A⟩
  clear wa ga ha la m1 m2 m3 q35
  rintro i4 g1 ⟨⟨w1, gg⟩, m1, m2, m3, m4⟩
  have l1 := gg.nx
  refine wc_mid (ι := Unit) (fun _ => [(0, .slice a n c), (1, .int .i64 x), (5, .slice i1.1 i1.2.1 i1.2.2), (6, .int .i64 (madeE B (ghoL (l.map smp) x.toNat))), (7, .slice i2.1 i2.2.1 i2.2.2), (8, .int .i64 (madeE B (dghL (l.map smp) x.toNat))), (9, .slice i3.1 i3.2.1 i3.2.2), (10, .int .i64 D), (11, .slice i4.1 i4.2.1 i4.2.2), (12, .int .i64 (madeE B (mulL (l.map smp) x.toNat))), (13, .int .i64 D)]) (fun _ h' => (Wf h' ∧ Grow g1 h')) ?_ ?_
  · repeat' (first | with_reducible refine wo_nil ?_ | ((with_reducible refine wo_any ?_); first | ((with_reducible refine ik_move ?_); refine wo_op rfl (op_move rfl) rfl rfl ?_) | ((with_reducible refine ik_assign ?_); refine wo_op rfl (op_assign rfl) rfl rfl ?_) | ((with_reducible refine ik_callv ?_); refine wo_op rfl (op_call rfl rfl (q36 _)) rfl rfl ?_)) | with_reducible refine wc_region ?_)
    exact ⟨rfl, (), within_lk ⟨rfl, rfl, rfl, rfl, rfl, rfl, rfl, rfl, rfl, rfl, rfl, trivial⟩, wf_A, gr_A⟩
  rintro _ ha ⟨wa, ga⟩
  refine wc_mid (ι := Unit) (fun _ => [(0, .slice a n c), (1, .int .i64 x), (5, .slice i1.1 i1.2.1 i1.2.2), (6, .int .i64 (madeE B (ghoL (l.map smp) x.toNat))), (7, .slice i2.1 i2.2.1 i2.2.2), (8, .int .i64 (madeE B (dghL (l.map smp) x.toNat))), (9, .slice i3.1 i3.2.1 i3.2.2), (10, .int .i64 D), (11, .slice i4.1 i4.2.1 i4.2.2), (12, .int .i64 (madeE B (mulL (l.map smp) x.toNat))), (13, .int .i64 D), (14, .int .i64 B)]) (fun _ h' => (Wf h' ∧ Grow g1 h')) ?_ ?_
  · repeat' (first | with_reducible refine wo_nil ?_ | ((with_reducible refine wo_any ?_); first | ((with_reducible refine ik_move ?_); refine wo_op rfl (op_move rfl) rfl rfl ?_) | ((with_reducible refine ik_assign ?_); refine wo_op rfl (op_assign rfl) rfl rfl ?_) | ((with_reducible refine ik_buildSlice ?_); refine wo_op rfl (op_buildSl rfl Tryz.underlying22 zs3 zz3 rfl rfl) rfl rfl ?_) | ((with_reducible refine ik_callv ?_); first | refine wo_op rfl (op_call rfl rfl (q24 _ gr_A)) rfl rfl ?_ | refine wo_op rfl (op_call rfl rfl (q23 _ _ (Sl.ofAt (at_A) rfl (Nat.le_refl _)))) rfl rfl ?_)) | with_reducible refine wc_region ?_)
    exact ⟨rfl, (), within_lk ⟨rfl, rfl, rfl, rfl, rfl, rfl, rfl, rfl, rfl, rfl, rfl, rfl, trivial⟩, wf_A, gr_A⟩
  clear wa ga ha
  rintro _ ha ⟨wa, ga⟩
  refine wc_mid (ι := Unit) (fun _ => [(0, .slice a n c), (1, .int .i64 x), (5, .slice i1.1 i1.2.1 i1.2.2), (6, .int .i64 (madeE B (ghoL (l.map smp) x.toNat))), (7, .slice i2.1 i2.2.1 i2.2.2), (8, .int .i64 (madeE B (dghL (l.map smp) x.toNat))), (9, .slice i3.1 i3.2.1 i3.2.2), (10, .int .i64 D), (11, .slice i4.1 i4.2.1 i4.2.2), (12, .int .i64 (madeE B (mulL (l.map smp) x.toNat))), (13, .int .i64 D), (14, .int .i64 B), (15, .int .i64 B)]) (fun _ h' => (Wf h' ∧ Grow g1 h')) ?_ ?_
  · repeat' (first | with_reducible refine wo_nil ?_ | ((with_reducible refine wo_any ?_); first | ((with_reducible refine ik_move ?_); refine wo_op rfl (op_move rfl) rfl rfl ?_) | ((with_reducible refine ik_assign ?_); refine wo_op rfl (op_assign rfl) rfl rfl ?_)) | with_reducible refine wc_region ?_)
    exact ⟨rfl, (), within_lk ⟨rfl, rfl, rfl, rfl, rfl, rfl, rfl, rfl, rfl, rfl, rfl, rfl, rfl, trivial⟩, wf_A, gr_A⟩
  clear wa ga ha
  rintro _ ha ⟨wa, ga⟩
  refine wc_mid (ι := Unit) (fun _ => [(0, .slice a n c), (1, .int .i64 x), (5, .slice i1.1 i1.2.1 i1.2.2), (6, .int .i64 (madeE B (ghoL (l.map smp) x.toNat))), (7, .slice i2.1 i2.2.1 i2.2.2), (8, .int .i64 (madeE B (dghL (l.map smp) x.toNat))), (9, .slice i3.1 i3.2.1 i3.2.2), (10, .int .i64 D), (11, .slice i4.1 i4.2.1 i4.2.2), (12, .int .i64 (madeE B (mulL (l.map smp) x.toNat))), (13, .int .i64 D), (14, .int .i64 B), (15, .int .i64 B), (16, .slice none 0 0), (17, .slice none 0 0), (18, .slice none 0 0), (19, .slice none 0 0)]) (fun _ h' => (Wf h' ∧ Grow g1 h')) ?_ ?_
  · repeat' (first | with_reducible refine wo_nil ?_ | ((with_reducible refine wo_any ?_); ((with_reducible refine ik_assign ?_); refine wo_op rfl (op_assign rfl) rfl rfl ?_)) | with_reducible refine wc_region ?_)
    exact ⟨rfl, (), within_lk ⟨rfl, rfl, rfl, rfl, rfl, rfl, rfl, rfl, rfl, rfl, rfl, rfl, rfl, rfl, rfl, rfl, rfl, trivial⟩, wf_A, gr_A⟩
  clear wa ga ha
  rintro _ g2 ⟨w2, gg2⟩
  have l2 := gg2.nx
  by_cases hB0 : B = 0
  · subst hB0
    have hz2 := firstNZ_zero hB
    have z1 : lchk l = 0 := hz2 _ (by simp)
    have z2 : rngE x 1 64 = 0 := hz2 _ (by simp)
    have hD0 : D = 0 := hD.symm.trans z2
    subst hD0
    obtain ⟨k1, k2⟩ := lchk_ok z1
    obtain ⟨d, rfl, d1, d2⟩ := rng_in z2
    rw [Int.toNat_natCast] at m1 m2 m4 ⊢
    have sb := smp_bound k2
    obtain ⟨P1, hP1⟩ : ∃ L, ghoL (l.map smp) d = L := ⟨_, rfl⟩
    obtain ⟨P2, hP2⟩ : ∃ L, dghL (l.map smp) d = L := ⟨_, rfl⟩
    obtain ⟨P4, hP4⟩ : ∃ L, mulL (l.map smp) d = L := ⟨_, rfl⟩
    rw [hP1] at m1
    rw [hP2] at m2
    rw [hP4] at m4
    rw [hP1, hP2, hP4]
    have q37 := fun (h' : H) (v : Value) (u : Sl G h' 1 v n ((l.map smp).map (.int .i64))) (w' : Wf h') => c37 (G := G) (h := h') (d := d) u hn6 sb w'
    have q38 := fun (h' : H) (v : Value) (u : Sl G h' 1 v n ((l.map smp).map (.int .i64))) (w' : Wf h') => c38 (G := G) (h := h') (d := d) u (by omega) d1 d2 sb w'
    have q39 := fun (h' : H) (v : Value) (u : Sl G h' 1 v n ((l.map smp).map (.int .i64))) (w' : Wf h') => c39s (G := G) (h := h') (d := d) u hn6 sb w' d1
    rw [hP1] at q37
    rw [hP4] at q38
    rw [hP2] at q39
    refine wc_mid (ι := ((Option Addr × Nat) × (Option Addr × Nat)) × ((Option Addr × Nat × Nat) × Int)) (fun i => [(0, .slice a n c), (1, .int .i64 (d : Int)), (5, .slice i1.1 i1.2.1 i1.2.2), (6, .int .i64 (madeE 0 P1)), (7, .slice i2.1 i2.2.1 i2.2.2), (8, .int .i64 (madeE 0 P2)), (9, .slice i3.1 i3.2.1 i3.2.2), (10, .int .i64 0), (11, .slice i4.1 i4.2.1 i4.2.2), (12, .int .i64 (madeE 0 P4)), (13, .int .i64 0), (14, .int .i64 0), (15, .int .i64 i.2.2), (16, .slice i.1.1.1 n i.1.1.2), (17, .slice i.2.1.1 i.2.1.2.1 i.2.1.2.2), (18, .slice none 0 0), (19, .slice i.1.2.1 n i.1.2.2)])
      (fun i h' => (Wf h' ∧ Grow g1 h') ∧ Sl G h' 1 (.slice i.1.1.1 n i.1.1.2) n (P1.map (.int .i64)) ∧ Sl G h' 1 (.slice i.1.2.1 n i.1.2.2) n (P4.map (.int .i64)) ∧ RefS G h' i.2.1 i.2.2 n P2) ?_ ?_
    · repeat' (first | with_reducible refine wo_nil ?_ | ((with_reducible refine wo_any ?_); first | ((with_reducible refine ik_move ?_); refine wo_op rfl (op_move rfl) rfl rfl ?_) | ((with_reducible refine ik_assign ?_); refine wo_op rfl (op_assign rfl) rfl rfl ?_) | ((with_reducible refine ik_extract ?_); refine wo_op rfl (op_extract rfl rfl) rfl rfl ?_) | ((with_reducible refine ik_bin ?_); refine wo_op rfl (op_eql rfl rfl) rfl rfl ?_) | ((with_reducible refine ik_callF (f := 25) ?_); (refine wo_call rfl rfl rfl rfl (c25 (s.grow gr_A) hn6 k2 wf_A) rfl rfl ?_; rintro _ _ ⟨⟨aw, cw, rfl, sw⟩, hq⟩; all_goals ((try (have hqn := hq.nx)); (try simp only [H.nx_push, H.nx_set, H.nx_bump] at hqn)))) | ((with_reducible refine ik_callv ?_); first | (refine wo_call rfl rfl rfl rfl (q37 _ _ (sw.grow gr_A) wf_A) rfl rfl ?_; rintro _ _ ⟨⟨a6, c6, rfl, s6⟩, hq⟩; all_goals ((try (have hqn := hq.nx)); (try simp only [H.nx_push, H.nx_set, H.nx_bump] at hqn))) | (refine wo_call rfl rfl rfl rfl (q38 _ _ (sw.grow gr_A) wf_A) rfl rfl ?_; rintro _ _ ⟨⟨a9, c9, rfl, s9⟩, hq⟩; all_goals ((try (have hqn := hq.nx)); (try simp only [H.nx_push, H.nx_set, H.nx_bump] at hqn))) | (refine wo_call rfl rfl rfl rfl (q39 _ _ (sw.grow gr_A) wf_A) rfl rfl ?_; rintro _ _ ⟨⟨i7, two, rfl, m7⟩, hq⟩; all_goals ((try (have hqn := hq.nx)); (try simp only [H.nx_push, H.nx_set, H.nx_bump] at hqn))))) | with_reducible refine sq_norm ?_ | with_reducible refine wc_seq ?_ | with_reducible refine wc_region ?_ | refine wc_ift rfl ?_)
      exact ⟨rfl, (((a6, c6), (a9, c9)), (i7, two)), within_lk ⟨rfl, rfl, rfl, rfl, rfl, rfl, rfl, rfl, rfl, rfl, rfl, rfl, rfl, rfl, rfl, rfl, rfl, trivial⟩, ⟨wf_A, gr_A⟩, s6.grow gr_A, s9.grow gr_A, m7.grow gr_A⟩
    clear w2 gg2 l2 g2 q37 q38 q39
    rintro ⟨⟨⟨a6, c6⟩, ⟨a9, c9⟩⟩, ⟨i7, two⟩⟩ g2 ⟨⟨w2, gg2⟩, s6, s9, m7⟩
    simp only at s6 s9 m7 ⊢
    have l2 := gg2.nx
    have q40 := fun (h' : H) (w' : Wf h') => c40 (G := G) (h := h') d1 d2 w'
    refine wc_mid (ι := Option Addr × Nat) (fun i => [(0, .slice a n c), (1, .int .i64 (d : Int)), (5, .slice i1.1 i1.2.1 i1.2.2), (6, .int .i64 (madeE 0 P1)), (7, .slice i2.1 i2.2.1 i2.2.2), (8, .int .i64 (madeE 0 P2)), (9, .slice i3.1 i3.2.1 i3.2.2), (10, .int .i64 0), (11, .slice i4.1 i4.2.1 i4.2.2), (12, .int .i64 (madeE 0 P4)), (13, .int .i64 0), (14, .int .i64 0), (15, .int .i64 two), (16, .slice a6 n c6), (17, .slice i7.1 i7.2.1 i7.2.2), (18, .slice i.1 (notN d 4).length i.2), (19, .slice a9 n c9)])
      (fun i h' => (Wf h' ∧ Grow g1 h') ∧ Sl G h' 1 (.slice a6 n c6) n (P1.map (.int .i64)) ∧ Sl G h' 1 (.slice a9 n c9) n (P4.map (.int .i64)) ∧ RefS G h' i7 two n P2 ∧ Sl G h' 1 (.slice i.1 (notN d 4).length i.2) (notN d 4).length ((notN d 4).map (.int .i64))) ?_ ?_
    · repeat' (first | with_reducible refine wo_nil ?_ | ((with_reducible refine wo_any ?_); first | ((with_reducible refine ik_move ?_); refine wo_op rfl (op_move rfl) rfl rfl ?_) | ((with_reducible refine ik_assign ?_); refine wo_op rfl (op_assign rfl) rfl rfl ?_) | ((with_reducible refine ik_bin ?_); refine wo_op rfl (op_eql rfl rfl) rfl rfl ?_) | ((with_reducible refine ik_callv ?_); (refine wo_call rfl rfl rfl rfl (q40 _ wf_A) rfl rfl ?_; rintro _ _ ⟨⟨a8, c8, rfl, s8⟩, hq⟩; all_goals ((try (have hqn := hq.nx)); (try simp only [H.nx_push, H.nx_set, H.nx_bump] at hqn))))) | with_reducible refine sq_norm ?_ | with_reducible refine wc_seq ?_ | with_reducible refine wc_region ?_ | refine wc_ift rfl ?_)
      exact ⟨rfl, (a8, c8), within_lk ⟨rfl, rfl, rfl, rfl, rfl, rfl, rfl, rfl, rfl, rfl, rfl, rfl, rfl, rfl, rfl, rfl, rfl, trivial⟩, ⟨wf_A, gr_A⟩, s6.grow gr_A, s9.grow gr_A, m7.grow gr_A, s8.grow gr_A⟩
    clear w2 gg2 l2 g2 s6 s9 m7 q40
    rintro ⟨a8, c8⟩ g2 ⟨⟨w2, gg2⟩, s6, s9, m7, s8⟩
    simp only at s8 ⊢
    have l2 := gg2.nx
    have H1 := heard_good hn6 s6 (m1.grow gg2)
    have H4 := heard_good hn6 s9 (m4.grow gg2)
    have H2 : HeardA G g2 i2.1 i2.2.1 i2.2.2 (madeE 0 P2) two (.slice i7.1 i7.2.1 i7.2.2) P2 := by
      rcases m7 with ⟨t1, t2⟩ | ⟨t1, t2, t3⟩
      · rw [t1]; exact heard_four t2 (m2.grow gg2)
      · rw [t1]; exact heard_good hn6 t3 (m2.grow gg2)
    have H3 := list_good z2 (by rw [Int.toNat_natCast]; exact s8) (m3.grow gg2)
    repeat' (first | with_reducible refine wo_nil ?_ | ((with_reducible refine wo_any ?_); first | ((with_reducible refine ik_move ?_); refine wo_op rfl (op_move rfl) rfl rfl ?_) | ((with_reducible refine ik_assign ?_); refine wo_op rfl (op_assign rfl) rfl rfl ?_) | ((with_reducible refine ik_pick ?_); refine wo_op rfl (op_pickt rfl rfl) rfl rfl ?_) | ((with_reducible refine ik_callF (f := 31) ?_); (refine wo_call rfl rfl rfl rfl (c31 (H1.grow gr_A) wf_A) rfl rfl ?_; rintro _ _ ⟨rfl, hq⟩; all_goals ((try (have hqn := hq.nx)); (try simp only [H.nx_push, H.nx_set, H.nx_bump] at hqn)))) | ((with_reducible refine ik_g ?_); first | ((with_reducible refine ig_move ?_); refine wo_grun rfl rfl rfl (op_move rfl) rfl rfl ?_) | ((with_reducible refine ig_callF (f := 31) ?_); first | (refine wo_gcall rfl rfl rfl rfl rfl rfl (c31 (H2.grow gr_A) wf_A) rfl rfl ?_; rintro _ _ ⟨rfl, hq⟩; all_goals ((try (have hqn := hq.nx)); (try simp only [H.nx_push, H.nx_set, H.nx_bump] at hqn))) | (refine wo_gcall rfl rfl rfl rfl rfl rfl (c31 (H4.grow gr_A) wf_A) rfl rfl ?_; rintro _ _ ⟨rfl, hq⟩; all_goals ((try (have hqn := hq.nx)); (try simp only [H.nx_push, H.nx_set, H.nx_bump] at hqn)))) | ((with_reducible refine ig_callF (f := 41) ?_); (refine wo_gcall rfl rfl rfl rfl rfl rfl (c41 (H3.grow gr_A) wf_A) rfl rfl ?_; rintro _ _ ⟨rfl, hq⟩; all_goals ((try (have hqn := hq.nx)); (try simp only [H.nx_push, H.nx_set, H.nx_bump] at hqn)))))) | with_reducible refine sq_norm ?_ | with_reducible refine wc_seq ?_ | with_reducible refine wc_region ?_ | with_reducible refine wc_ret ?_)
    exact rq1 rfl ⟨rfl, gr_A⟩
  · have H1 := fun w L' => heard_bad (w := w) (L' := L') hB0 (m1.grow gg2)
    have H2 := fun w L' => heard_bad (w := w) (L' := L') hB0 (m2.grow gg2)
    have H4 := fun w L' => heard_bad (w := w) (L' := L') hB0 (m4.grow gg2)
    by_cases hD0 : D = 0
    · subst hD0
      obtain ⟨d, rfl, d1, d2⟩ := rng_in hD
      have q40 := fun (h' : H) (w' : Wf h') => c40 (G := G) (h := h') d1 d2 w'
      refine wc_mid (ι := Unit) (fun _ => [(0, .slice a n c), (1, .int .i64 (d : Int)), (5, .slice i1.1 i1.2.1 i1.2.2), (6, .int .i64 (madeE B (ghoL (l.map smp) (d : Int).toNat))), (7, .slice i2.1 i2.2.1 i2.2.2), (8, .int .i64 (madeE B (dghL (l.map smp) (d : Int).toNat))), (9, .slice i3.1 i3.2.1 i3.2.2), (10, .int .i64 0), (11, .slice i4.1 i4.2.1 i4.2.2), (12, .int .i64 (madeE B (mulL (l.map smp) (d : Int).toNat))), (13, .int .i64 0), (14, .int .i64 B), (15, .int .i64 B), (16, .slice none 0 0), (17, .slice none 0 0), (18, .slice none 0 0), (19, .slice none 0 0)]) (fun _ h' => (Wf h' ∧ Grow g1 h')) ?_ ?_
      · repeat' (first | with_reducible refine wo_nil ?_ | ((with_reducible refine wo_any ?_); first | ((with_reducible refine ik_move ?_); refine wo_op rfl (op_move rfl) rfl rfl ?_) | ((with_reducible refine ik_bin ?_); refine wo_op rfl (op_eql rfl rfl) rfl rfl ?_)) | with_reducible refine sq_norm ?_ | with_reducible refine wc_seq ?_ | with_reducible refine wc_region ?_ | with_reducible refine wc_skip ?_ | (refine wc_if rfl (fun hb => dead_A hb) (fun hb => ?_); (try simp only [decide_eq_true_eq, decide_eq_false_iff_not, Bool.not_eq_true', Bool.not_eq_false', Int.not_lt, Int.not_le, Decidable.not_not, not_true_eq_false, not_false_eq_true, beq_self_eq_true, reduceCtorEq] at hb)))
        exact ⟨rfl, (), within_lk ⟨rfl, rfl, rfl, rfl, rfl, rfl, rfl, rfl, rfl, rfl, rfl, rfl, rfl, rfl, rfl, rfl, rfl, trivial⟩, wf_A, gr_A⟩
      clear H1 H2 H4 w2 gg2 l2 g2
      rintro _ g2 ⟨w2, gg2⟩
      have l2 := gg2.nx
      refine wc_mid (ι := Option Addr × Nat) (fun i => [(0, .slice a n c), (1, .int .i64 (d : Int)), (5, .slice i1.1 i1.2.1 i1.2.2), (6, .int .i64 (madeE B (ghoL (l.map smp) (d : Int).toNat))), (7, .slice i2.1 i2.2.1 i2.2.2), (8, .int .i64 (madeE B (dghL (l.map smp) (d : Int).toNat))), (9, .slice i3.1 i3.2.1 i3.2.2), (10, .int .i64 0), (11, .slice i4.1 i4.2.1 i4.2.2), (12, .int .i64 (madeE B (mulL (l.map smp) (d : Int).toNat))), (13, .int .i64 0), (14, .int .i64 B), (15, .int .i64 B), (16, .slice none 0 0), (17, .slice none 0 0), (18, .slice i.1 (notN d 4).length i.2), (19, .slice none 0 0)]) (fun i h' => (Wf h' ∧ Grow g1 h') ∧ Sl G h' 1 (.slice i.1 (notN d 4).length i.2) (notN d 4).length ((notN d 4).map (.int .i64))) ?_ ?_
      · repeat' (first | with_reducible refine wo_nil ?_ | ((with_reducible refine wo_any ?_); first | ((with_reducible refine ik_move ?_); refine wo_op rfl (op_move rfl) rfl rfl ?_) | ((with_reducible refine ik_assign ?_); refine wo_op rfl (op_assign rfl) rfl rfl ?_) | ((with_reducible refine ik_bin ?_); refine wo_op rfl (op_eql rfl rfl) rfl rfl ?_) | ((with_reducible refine ik_callv ?_); (refine wo_call rfl rfl rfl rfl (q40 _ wf_A) rfl rfl ?_; rintro _ _ ⟨⟨a8, c8, rfl, s8⟩, hq⟩; all_goals ((try (have hqn := hq.nx)); (try simp only [H.nx_push, H.nx_set, H.nx_bump] at hqn))))) | with_reducible refine sq_norm ?_ | with_reducible refine wc_seq ?_ | with_reducible refine wc_region ?_ | refine wc_ift rfl ?_)
        exact ⟨rfl, (a8, c8), within_lk ⟨rfl, rfl, rfl, rfl, rfl, rfl, rfl, rfl, rfl, rfl, rfl, rfl, rfl, rfl, rfl, rfl, rfl, trivial⟩, ⟨wf_A, gr_A⟩, s8.grow gr_A⟩
      clear w2 gg2 l2 g2 q40
      rintro ⟨a8, c8⟩ g2 ⟨⟨w2, gg2⟩, s8⟩
      simp only at s8 ⊢
      have l2 := gg2.nx
      have H1 := fun w L' => heard_bad (w := w) (L' := L') hB0 (m1.grow gg2)
      have H2 := fun w L' => heard_bad (w := w) (L' := L') hB0 (m2.grow gg2)
      have H4 := fun w L' => heard_bad (w := w) (L' := L') hB0 (m4.grow gg2)
      have H3 := list_good hD (by rw [Int.toNat_natCast]; exact s8) (m3.grow gg2)
      repeat' (first | with_reducible refine wo_nil ?_ | ((with_reducible refine wo_any ?_); first | ((with_reducible refine ik_move ?_); refine wo_op rfl (op_move rfl) rfl rfl ?_) | ((with_reducible refine ik_assign ?_); refine wo_op rfl (op_assign rfl) rfl rfl ?_) | ((with_reducible refine ik_pick ?_); refine wo_op rfl (op_pickt rfl rfl) rfl rfl ?_) | ((with_reducible refine ik_callF (f := 31) ?_); (refine wo_call rfl rfl rfl rfl (c31 ((H1 _ []).grow gr_A) wf_A) rfl rfl ?_; rintro _ _ ⟨rfl, hq⟩; all_goals ((try (have hqn := hq.nx)); (try simp only [H.nx_push, H.nx_set, H.nx_bump] at hqn)))) | ((with_reducible refine ik_g ?_); first | ((with_reducible refine ig_move ?_); refine wo_grun rfl rfl rfl (op_move rfl) rfl rfl ?_) | ((with_reducible refine ig_callF (f := 31) ?_); first | (refine wo_gcall rfl rfl rfl rfl rfl rfl (c31 ((H2 _ []).grow gr_A) wf_A) rfl rfl ?_; rintro _ _ ⟨rfl, hq⟩; all_goals ((try (have hqn := hq.nx)); (try simp only [H.nx_push, H.nx_set, H.nx_bump] at hqn))) | (refine wo_gcall rfl rfl rfl rfl rfl rfl (c31 ((H4 _ []).grow gr_A) wf_A) rfl rfl ?_; rintro _ _ ⟨rfl, hq⟩; all_goals ((try (have hqn := hq.nx)); (try simp only [H.nx_push, H.nx_set, H.nx_bump] at hqn)))) | ((with_reducible refine ig_callF (f := 41) ?_); (refine wo_gcall rfl rfl rfl rfl rfl rfl (c41 (H3.grow gr_A) wf_A) rfl rfl ?_; rintro _ _ ⟨rfl, hq⟩; all_goals ((try (have hqn := hq.nx)); (try simp only [H.nx_push, H.nx_set, H.nx_bump] at hqn)))))) | with_reducible refine sq_norm ?_ | with_reducible refine wc_seq ?_ | with_reducible refine wc_region ?_ | with_reducible refine wc_ret ?_)
      exact rq1 rfl ⟨rfl, gr_A⟩
    · have H3 := fun w L => list_bad (w := w) (L := L) (by rw [hD]; exact hD0) (m3.grow gg2)
      rw [hD] at H3
      repeat' (first | with_reducible refine wo_nil ?_ | ((with_reducible refine wo_any ?_); first | ((with_reducible refine ik_move ?_); refine wo_op rfl (op_move rfl) rfl rfl ?_) | ((with_reducible refine ik_assign ?_); refine wo_op rfl (op_assign rfl) rfl rfl ?_) | ((with_reducible refine ik_pick ?_); refine wo_op rfl (op_pickt rfl rfl) rfl rfl ?_) | ((with_reducible refine ik_bin ?_); refine wo_op rfl (op_eql rfl rfl) rfl rfl ?_) | ((with_reducible refine ik_callF (f := 31) ?_); (refine wo_call rfl rfl rfl rfl (c31 ((H1 _ []).grow gr_A) wf_A) rfl rfl ?_; rintro _ _ ⟨rfl, hq⟩; all_goals ((try (have hqn := hq.nx)); (try simp only [H.nx_push, H.nx_set, H.nx_bump] at hqn)))) | ((with_reducible refine ik_g ?_); first | ((with_reducible refine ig_move ?_); refine wo_grun rfl rfl rfl (op_move rfl) rfl rfl ?_) | ((with_reducible refine ig_callF (f := 31) ?_); first | (refine wo_gcall rfl rfl rfl rfl rfl rfl (c31 ((H2 _ []).grow gr_A) wf_A) rfl rfl ?_; rintro _ _ ⟨rfl, hq⟩; all_goals ((try (have hqn := hq.nx)); (try simp only [H.nx_push, H.nx_set, H.nx_bump] at hqn))) | (refine wo_gcall rfl rfl rfl rfl rfl rfl (c31 ((H4 _ []).grow gr_A) wf_A) rfl rfl ?_; rintro _ _ ⟨rfl, hq⟩; all_goals ((try (have hqn := hq.nx)); (try simp only [H.nx_push, H.nx_set, H.nx_bump] at hqn)))) | ((with_reducible refine ig_callF (f := 41) ?_); (refine wo_gcall rfl rfl rfl rfl rfl rfl (c41 ((H3 _ []).grow gr_A) wf_A) rfl rfl ?_; rintro _ _ ⟨rfl, hq⟩; all_goals ((try (have hqn := hq.nx)); (try simp only [H.nx_push, H.nx_set, H.nx_bump] at hqn)))))) | with_reducible refine sq_norm ?_ | with_reducible refine wc_seq ?_ | with_reducible refine wc_region ?_ | with_reducible refine wc_skip ?_ | with_reducible refine wc_ret ?_ | (refine wc_if rfl (fun hb => dead_A hb) (fun hb => ?_); (try simp only [decide_eq_true_eq, decide_eq_false_iff_not, Bool.not_eq_true', Bool.not_eq_false', Int.not_lt, Int.not_le, Decidable.not_not, not_true_eq_false, not_false_eq_true, beq_self_eq_true, reduceCtorEq] at hb)))
      exact rq1 rfl ⟨rfl, gr_A⟩
theorem c5 {a : Option Addr} {n c : Nat} {x : Int} {l : List Nat} (s : Sl G h 1 (.slice a n c) n (l.map (.float .f32))) (hw : Wf h) (hG : ∀ a v, laidBase a = some v → G a = some v) : Cf (mz G) (.func (.func 5) #[] #[]) [.slice a n c, .int .i64 x] h fun r h' => r = .bool true ∧ Grow h h' := by
  by_cases hS : n ≤ 32 ∨ n = 1025
  · exact c5m s hS hw hG
  · exact c5n hS hw
end Go.Proofs.YtdfpadokepmknaaGreatDoor
