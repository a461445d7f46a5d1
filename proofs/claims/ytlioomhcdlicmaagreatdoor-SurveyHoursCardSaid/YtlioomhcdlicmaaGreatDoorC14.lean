/- Survey: the downtime both ways; entries converted. -/
import Derived.Test.YtlioomhcdlicmaaGreatDoorC13
set_option linter.all false
/- Survey: the downtime, both ways. -/
namespace Go.Proofs.YtlioomhcdlicmaaGreatDoor
open Go Go.Ab Go.Fl
attribute [local irreducible] SeqQ BlkQ LpQ RetQ Wc Wo WD WX Op1 Op1q Op1a Cf Cl From
attribute [local irreducible] Ieee.Format.order Ieee.Format.read Ieee.Format.nearest Ieee.Format.write Ieee.Format.mul Ieee.Format.div Ieee.Format.sqrt Ieee.Datum.order Ieee.Datum.integral K U rngE errN ptE firstNZ vesE watE sgE sgsE allE hitB sqD insB qsL lvl rn rl altB
set_option maxRecDepth 10000
variable {G : Base} {h : H}

attribute [local irreducible] spE numM cauW cnum cauN enE hrK
theorem six_sum {z0 z1 z2 z3 z4 z5 d : Int} {j : Nat} {y0 y1 y2 y3 y4 y5 : Int} (hj : j < 6) (hh : addH [z0, z1, z2, z3, z4, z5] j d = [y0, y1, y2, y3, y4, y5]) : y0 + y1 + y2 + y3 + y4 + y5 = (z0 + z1 + z2 + z3 + z4 + z5) + d := by
  unfold addH at hh
  match j, hj with
  | 0, _ | 1, _ | 2, _ | 3, _ | 4, _ | 5, _ =>
    simp only [List.set, List.getD, List.getElem?_cons_zero, List.getElem?_cons_succ, Option.getD_some, List.cons.injEq, and_true] at hh
    omega
theorem tot_ge {l : List En} (hv : ∀ e ∈ l, enE e = 0) : ∀ (k : Nat), k ≤ l.length → ∀ {z0 z1 z2 z3 z4 z5 : Int}, hrK l k = [z0, z1, z2, z3, z4, z5] → (k : Int) ≤ (z0 + z1 + z2 + z3 + z4 + z5)
  | 0, _, z0, z1, z2, z3, z4, z5, hz => by
    rw [hrK_zero] at hz
    simp only [List.cons.injEq, and_true] at hz
    omega
  | k + 1, hk, z0, z1, z2, z3, z4, z5, hz => by
    obtain ⟨y0, y1, y2, y3, y4, y5, hy⟩ := six (hrK_len (l := l) k)
    have ih := tot_ge hv k (by omega) hy
    rw [hrK_next (by omega), hy] at hz
    have hm : l.getD k ⟨0, 0, .empty⟩ ∈ l := by simp [List.getD, List.getElem?_eq_getElem (show k < l.length by omega)]
    obtain ⟨⟨a, b, c⟩, d⟩ := enE_ok (hv _ hm)
    have := cauN_lt (s := (l.getD k ⟨0, 0, .empty⟩).c)
    have s := six_sum (by omega) hz
    omega
theorem six_bd {l : List En} (hv : ∀ e ∈ l, enE e = 0) {n : Nat} (hn : n ≤ 64) {z0 z1 z2 z3 z4 z5 : Int} (hz : hrK l n = [z0, z1, z2, z3, z4, z5]) : (0 ≤ z0 ∧ z0 ≤ 6400000) ∧ (0 ≤ z1 ∧ z1 ≤ 6400000) ∧ (0 ≤ z2 ∧ z2 ≤ 6400000) ∧ (0 ≤ z3 ∧ z3 ≤ 6400000) ∧ (0 ≤ z4 ∧ z4 ≤ 6400000) ∧ (0 ≤ z5 ∧ z5 ≤ 6400000) := by
  have b := hrK_bd hv n
  rw [hz] at b
  have b0 := b 0
  have b1 := b 1
  have b2 := b 2
  have b3 := b 3
  have b4 := b 4
  have b5 := b 5
  simp only [List.getD, List.getElem?_cons_zero, List.getElem?_cons_succ, Option.getD_some] at b0 b1 b2 b3 b4 b5
  omega
theorem eg22 : Tryz.prog.eqGuardType Tryz.prog.depth 22 = false := by kernel_rfl
theorem eqv22 (a0 a1 a2 a3 a4 a5 b0 b1 b2 b3 b4 b5 : Int) : eqV Tryz.prog 3 22 [.int .i64 a0, .int .i64 a1, .int .i64 a2, .int .i64 a3, .int .i64 a4, .int .i64 a5] [.int .i64 b0, .int .i64 b1, .int .i64 b2, .int .i64 b3, .int .i64 b4, .int .i64 b5] = some (decide (a0 = b0) && (decide (a1 = b1) && (decide (a2 = b2) && (decide (a3 = b3) && (decide (a4 = b4) && (decide (a5 = b5) && true)))))) := by kernel_rfl
theorem eqv22_no {z0 z1 z2 z3 z4 z5 : Int} (hh : 0 < (z0 + z1 + z2 + z3 + z4 + z5)) : eqV Tryz.prog 3 22 [.int .i64 z0, .int .i64 z1, .int .i64 z2, .int .i64 z3, .int .i64 z4, .int .i64 z5] [.int .i64 0, .int .i64 0, .int .i64 0, .int .i64 0, .int .i64 0, .int .i64 0] = some false := by
  rw [eqv22]
  congr 1
  have e : ∀ z : Int, (decide (z = 0)) = true ↔ z = 0 := fun z => decide_eq_true_iff
  rw [← Bool.not_eq_true]
  simp only [Bool.and_eq_true, decide_eq_true_eq, and_true]
  omega
/-- The downtime with its error. -/
def dtE (l : List En) : Int := if ensE l ≠ 0 then ensE l else if l.length = 0 then 12 else 0
def dwS (H : List Int) : Int := H.getD 2 0 + H.getD 3 0 + H.getD 4 0 + H.getD 5 0
def dwA (H : List Int) : Int := H.getD 0 0 + H.getD 1 0 + dwS H
def dtN (l : List En) : Int := if dtE l ≠ 0 then 0 else lowN (dwS (hrK l l.length)) (dwA (hrK l l.length))
def dtD (l : List En) : Int := if dtE l ≠ 0 then 0 else lowD (dwS (hrK l l.length)) (dwA (hrK l l.length))
attribute [local irreducible] lowN lowD
set_option maxHeartbeats 16000000 in
theorem c42 {v : Value} {n : Nat} {l : List En} (s : Sl G h 3 v n (l.flatMap En.cells)) (hl : l.length = n) (hn : n < 1000000) (hw : Wf h) : Cf (mz G) (.func (.func 42) #[] #[]) [v] h fun r h' => r = .tuple #[.agg ⟨[.int .i64 (dtN l), .int .i64 (dtD l)]⟩, .int .i64 (dtE l)] ∧ Grow h h' := by
  have q41 := fun (h' : H) (g : Grow h h') (w' : Wf h') => c41 (s.grow g) hl hn w'
  by_cases he : ensE l = 0
  · obtain ⟨h64, hv⟩ := ens_ok he
    have hE : hrE l n = hrK l n := by unfold hrE; rw [if_neg (by simpa using he)]
    rw [hE, he] at q41
    obtain ⟨z0, z1, z2, z3, z4, z5, hz⟩ := six (hrK_len (l := l) n)
    by_cases hn0 : n = 0
    · have e0 : dtE l = 12 := by unfold dtE; rw [if_neg (by simpa using he), if_pos (by omega)]
      have e1 : dtN l = 0 := by unfold dtN; rw [if_pos (by rw [e0]; decide)]
      have e2 : dtD l = 0 := by unfold dtD; rw [if_pos (by rw [e0]; decide)]
      rw [e0, e1, e2]
      subst hn0
      rw [hrK_zero] at q41
      dsimp only [List.map] at q41
      have hq0 : eqV Tryz.prog 3 22 [.int .i64 0, .int .i64 0, .int .i64 0, .int .i64 0, .int .i64 0, .int .i64 0] [.int .i64 0, .int .i64 0, .int .i64 0, .int .i64 0, .int .i64 0, .int .i64 0] = some true := by rw [eqv22]; rfl
      clear hz hE he hv e0 e1 e2
      obtain ⟨a, c, rfl⟩ := s.form
      refine cf_enter0 46 [.cell 2 92, .tmp 3] Tryz.func42 rfl rfl rfl rfl ?_
      repeat' (first | with_reducible refine wo_nil ?_ | ((with_reducible refine wo_any ?_); first | ((with_reducible refine ik_move ?_); refine wo_op rfl (op_move rfl) rfl rfl ?_) | ((with_reducible refine ik_assign ?_); refine wo_op rfl (op_assign rfl) rfl rfl ?_) | ((with_reducible refine ik_bin ?_); first | refine wo_op rfl (op_eqT 3 rfl rfl rfl Tryz.underlying22 rfl eg22 hq0) rfl rfl ?_ | refine wo_op rfl (op_neq rfl rfl) rfl rfl ?_) | ((with_reducible refine ik_alloc ?_); first | refine wo_op rfl (op_alloc zz92 zs92 rfl rfl rfl) rfl rfl ?_ | refine wo_op rfl (op_alloc zz22 zs22 rfl rfl rfl) rfl rfl ?_) | ((with_reducible refine ik_extract ?_); refine wo_op rfl (op_extract rfl rfl) rfl rfl ?_) | ((with_reducible refine ik_store ?_); first | refine wo_op0 rfl (op_stAgg rfl rfl at_A zs22 rfl rfl rfl rfl) rfl ?_ | refine wo_op0 rfl (op_stAgg rfl rfl at_A zs92 rfl rfl rfl rfl) rfl ?_) | ((with_reducible refine ik_build ?_); first | refine wo_op rfl (op_buildT rfl zz92 zp92 rfl rfl) rfl rfl ?_ | refine wo_op rfl (op_buildT rfl zz22 zp22 rfl rfl) rfl rfl ?_) | ((with_reducible refine ik_load ?_); refine wo_op rfl (op_ldAgg rfl at_A Tryz.underlying22 rfl zs22 rfl rfl) rfl rfl ?_) | ((with_reducible refine ik_callv ?_); (refine wo_call rfl rfl rfl rfl (q41 _ gr_A wf_A) rfl rfl ?_; rintro _ _ ⟨rfl, hq⟩; all_goals ((try (have hqn := hq.nx)); (try simp only [H.nx_push, H.nx_set, H.nx_bump] at hqn))))) | with_reducible refine sq_norm ?_ | with_reducible refine wc_seq ?_ | with_reducible refine wc_region ?_ | with_reducible refine wc_skip ?_ | with_reducible refine wc_ret ?_ | with_reducible refine sq_ret ?_ | refine wc_ift rfl ?_ | refine wc_iff rfl ?_)
      exact rqc2 rfl (ldAgg at_A Tryz.underlying92 rfl zs92 rfl rfl) rfl ⟨rfl, gr_A⟩
    · have e0 : dtE l = 0 := by unfold dtE; rw [if_neg (by simpa using he), if_neg (by omega)]
      have e1 : dtN l = lowN (dwS (hrK l n)) (dwA (hrK l n)) := by unfold dtN; rw [if_neg (by rw [e0]; decide), hl]
      have e2 : dtD l = lowD (dwS (hrK l n)) (dwA (hrK l n)) := by unfold dtD; rw [if_neg (by rw [e0]; decide), hl]
      have tg := tot_ge hv n (by omega) hz
      obtain ⟨⟨p0, q0⟩, ⟨p1, q1⟩, ⟨p2, q2⟩, ⟨p3, q3⟩, ⟨p4, q4⟩, p5, q5⟩ := six_bd hv (by omega) hz
      have hne := eqv22_no (z0 := z0) (z1 := z1) (z2 := z2) (z3 := z3) (z4 := z4) (z5 := z5) (by omega)
      rw [hz] at q41 e1 e2
      have d1 : dwS [z0, z1, z2, z3, z4, z5] = 0 + z2 + z3 + z4 + z5 := by unfold dwS; simp [List.getD]
      have d2 : dwA [z0, z1, z2, z3, z4, z5] = 0 + z0 + z1 + z2 + z3 + z4 + z5 := by unfold dwA; rw [d1]; simp only [List.getD, List.getElem?_cons_zero, List.getElem?_cons_succ, Option.getD_some]; omega
      rw [d1, d2] at e1 e2
      rw [e0, e1, e2]
      have q110 := fun (h' : H) (w' : Wf h') => c110 (G := G) (h := h') (a := 0 + z2 + z3 + z4 + z5) (b := 0 + z0 + z1 + z2 + z3 + z4 + z5) (by omega) (by omega) (by omega) w'
      have q109 := fun (h' : H) (w' : Wf h') => c109v (G := G) (h := h') w'
      dsimp only [List.map] at q41
      clear hz hE he hv e0 e1 e2 d1 d2
      obtain ⟨a, c, rfl⟩ := s.form
      refine cf_enter0 46 [.cell 2 92, .tmp 3] Tryz.func42 rfl rfl rfl rfl ?_
      refine wc_mid (ι := Unit) (fun _ => [(0, .slice a n c), (2, .pointer (some ⟨h.nx, 0, some 0⟩)), (3, .int .i64 0)]) (fun _ h' => (Wf h' ∧ Grow h h') ∧ At h' h.nx (.cells [.int .i64 0, .int .i64 0] 92 2 false)) ?_ ?_
      · repeat' (first | with_reducible refine wo_nil ?_ | ((with_reducible refine wo_any ?_); first | ((with_reducible refine ik_assign ?_); refine wo_op rfl (op_assign rfl) rfl rfl ?_) | ((with_reducible refine ik_alloc ?_); refine wo_op rfl (op_alloc zz92 zs92 rfl rfl rfl) rfl rfl ?_)) | with_reducible refine wc_region ?_)
        exact ⟨rfl, (), within_lk ⟨rfl, rfl, rfl, trivial⟩, ⟨wf_A, gr_A⟩, at_A⟩
      rintro _ h1 ⟨⟨w1, g1⟩, a2⟩
      refine wc_mid (ι := Nat) (fun b4 => [(2, .pointer (some ⟨h.nx, 0, some 0⟩)), (4, .pointer (some ⟨b4, 0, some 0⟩)), (5, .int .i64 0)]) (fun b4 h' => (Wf h' ∧ Grow h1 h') ∧ h1.nx ≤ b4 ∧ At h' b4 (.cells [.int .i64 z0, .int .i64 z1, .int .i64 z2, .int .i64 z3, .int .i64 z4, .int .i64 z5] 22 6 false)) ?_ ?_
      · repeat' (first | with_reducible refine wo_nil ?_ | ((with_reducible refine wo_any ?_); first | ((with_reducible refine ik_move ?_); refine wo_op rfl (op_move rfl) rfl rfl ?_) | ((with_reducible refine ik_assign ?_); refine wo_op rfl (op_assign rfl) rfl rfl ?_) | ((with_reducible refine ik_alloc ?_); refine wo_op rfl (op_alloc zz22 zs22 rfl rfl rfl) rfl rfl ?_) | ((with_reducible refine ik_extract ?_); refine wo_op rfl (op_extract rfl rfl) rfl rfl ?_) | ((with_reducible refine ik_store ?_); refine wo_op0 rfl (op_stAgg rfl rfl at_A zs22 rfl rfl rfl rfl) rfl ?_) | ((with_reducible refine ik_callv ?_); (refine wo_call rfl rfl rfl rfl (q41 _ (g1.trans gr_A) wf_A) rfl rfl ?_; rintro _ _ ⟨rfl, hq⟩; all_goals ((try (have hqn := hq.nx)); (try simp only [H.nx_push, H.nx_set, H.nx_bump] at hqn))))) | with_reducible refine wc_region ?_)
        refine ⟨rfl, _, within_lk ⟨rfl, rfl, rfl, trivial⟩, ⟨wf_A, gr_A⟩, ?_, at_A⟩
        first | omega | (simp only [H.nx_push, H.nx_set, H.nx_bump] at *; omega)
      clear w1 q41
      rintro b4 h2 ⟨⟨w1, g2⟩, hge, at4⟩
      have a2 := a2.grow g2
      have g3 := g1.trans g2
      have l2 := a2.lt
      have l4 := at4.lt
      clear g1 g2
      refine wc_mid (ι := Unit) (fun _ => [(2, .pointer (some ⟨h.nx, 0, some 0⟩)), (4, .pointer (some ⟨b4, 0, some 0⟩))]) (fun _ h' => h2 = h') ?_ ?_
      · repeat' (first | with_reducible refine wo_nil ?_ | ((with_reducible refine wo_any ?_); first | ((with_reducible refine ik_move ?_); refine wo_op rfl (op_move rfl) rfl rfl ?_) | ((with_reducible refine ik_bin ?_); refine wo_op rfl (op_neq rfl rfl) rfl rfl ?_)) | with_reducible refine sq_norm ?_ | with_reducible refine wc_seq ?_ | with_reducible refine wc_region ?_ | with_reducible refine wc_skip ?_ | refine wc_iff rfl ?_)
        exact ⟨rfl, (), within_lk ⟨rfl, rfl, trivial⟩, rfl⟩
      rintro _ h1' e
      subst e
      refine wc_mid (ι := Unit) (fun _ => [(2, .pointer (some ⟨h.nx, 0, some 0⟩)), (4, .pointer (some ⟨b4, 0, some 0⟩))]) (fun _ h' => h2 = h') ?_ ?_
      · repeat' (first | with_reducible refine wo_nil ?_ | ((with_reducible refine wo_any ?_); first | ((with_reducible refine ik_load ?_); refine wo_op rfl (op_ldAgg (b := b4) (off := 0) rfl at_A Tryz.underlying22 rfl zs22 rfl rfl) rfl rfl ?_) | ((with_reducible refine ik_bin ?_); refine wo_op rfl (op_eqT 3 rfl rfl rfl Tryz.underlying22 rfl eg22 hne) rfl rfl ?_) | ((with_reducible refine ik_build ?_); refine wo_op rfl (op_buildT rfl zz22 zp22 rfl rfl) rfl rfl ?_)) | with_reducible refine sq_norm ?_ | with_reducible refine wc_seq ?_ | with_reducible refine wc_region ?_ | with_reducible refine wc_skip ?_ | refine wc_iff rfl ?_)
        exact ⟨rfl, (), within_lk ⟨rfl, rfl, trivial⟩, rfl⟩
      rintro _ h1' e
      subst e
      clear hne
      refine wc_mid (ι := Nat) (fun b6 => [(2, .pointer (some ⟨h.nx, 0, some 0⟩)), (4, .pointer (some ⟨b4, 0, some 0⟩)), (6, .pointer (some ⟨b6, 0, some 0⟩))]) (fun b6 h' => (Wf h' ∧ Grow h2 h') ∧ h2.nx ≤ b6 ∧ At h' b6 (.cells [.int .i64 0, .int .i64 0] 92 2 false)) ?_ ?_
      · repeat' (first | with_reducible refine wo_nil ?_ | ((with_reducible refine wo_any ?_); ((with_reducible refine ik_alloc ?_); refine wo_op rfl (op_alloc zz92 zs92 rfl rfl rfl) rfl rfl ?_)) | with_reducible refine wc_region ?_)
        exact ⟨rfl, h2.nx, within_lk ⟨rfl, rfl, rfl, trivial⟩, ⟨wf_A, gr_A⟩, Nat.le_refl _, at_A⟩
      clear w1
      rintro b6 h3 ⟨⟨w1, g4⟩, hge6, at6⟩
      have n3 := g3.nx
      refine wc_mid (ι := Unit) (fun _ => [(2, .pointer (some ⟨h.nx, 0, some 0⟩)), (4, .pointer (some ⟨b4, 0, some 0⟩)), (6, .pointer (some ⟨b6, 0, some 0⟩))]) (fun _ h' => (Wf h' ∧ Grow h2 h') ∧ At h' b6 (.cells [.int .i64 (0 + z2 + z3 + z4 + z5), .int .i64 (0 + z0 + z1 + z2 + z3 + z4 + z5)] 92 2 false)) ?_ ?_
      · refine wc_mid (ι := Unit) (fun _ => [(2, .pointer (some ⟨h.nx, 0, some 0⟩)), (4, .pointer (some ⟨b4, 0, some 0⟩)), (6, .pointer (some ⟨b6, 0, some 0⟩)), (22, .agg ⟨[.string ⟨⟨[115, 104, 111, 111, 116]⟩⟩, .bool false, .func (.func 156) #[] #[], .string ⟨⟨[116, 117, 114, 110]⟩⟩, .bool false, .func (.func 157) #[] #[], .string ⟨⟨[119, 101, 97, 116, 104, 101, 114]⟩⟩, .bool true, .func (.func 158) #[] #[], .string ⟨⟨[97, 110, 105, 109, 97, 108]⟩⟩, .bool true, .func (.func 159) #[] #[], .string ⟨⟨[103, 101, 97, 114]⟩⟩, .bool true, .func (.func 160) #[] #[], .string ⟨⟨[115, 104, 97, 114, 101]⟩⟩, .bool true, .func (.func 161) #[] #[]]⟩), (23, .int .i64 (0 : Nat))]) (fun _ h' => (Wf h' ∧ Grow h2 h') ∧ At h' b6 (.cells [.int .i64 0, .int .i64 0] 92 2 false)) ?_ ?_
        · have l6 := at6.lt
          repeat' (first | with_reducible refine wo_nil ?_ | ((with_reducible refine wo_any ?_); first | ((with_reducible refine ik_move ?_); refine wo_op rfl (op_move rfl) rfl rfl ?_) | ((with_reducible refine ik_callv ?_); (refine wo_call rfl rfl rfl rfl (q109 _ wf_A) rfl rfl ?_; rintro _ _ ⟨rfl, hq⟩; all_goals ((try (have hqn := hq.nx)); (try simp only [H.nx_push, H.nx_set, H.nx_bump] at hqn))))) | with_reducible refine wc_region ?_)
          exact ⟨rfl, (), within_lk ⟨rfl, rfl, rfl, rfl, rfl, trivial⟩, ⟨wf_A, g4.trans gr_A⟩, at_A⟩
        clear w1 g4 at6
        rintro _ h4 ⟨⟨w1, g4⟩, at6⟩
        refine wc_block ?_
        refine wc_loop (fun k => 6 - k) (fun k : Nat => [(2, .pointer (some ⟨h.nx, 0, some 0⟩)), (4, .pointer (some ⟨b4, 0, some 0⟩)), (6, .pointer (some ⟨b6, 0, some 0⟩)), (22, .agg ⟨[.string ⟨⟨[115, 104, 111, 111, 116]⟩⟩, .bool false, .func (.func 156) #[] #[], .string ⟨⟨[116, 117, 114, 110]⟩⟩, .bool false, .func (.func 157) #[] #[], .string ⟨⟨[119, 101, 97, 116, 104, 101, 114]⟩⟩, .bool true, .func (.func 158) #[] #[], .string ⟨⟨[97, 110, 105, 109, 97, 108]⟩⟩, .bool true, .func (.func 159) #[] #[], .string ⟨⟨[103, 101, 97, 114]⟩⟩, .bool true, .func (.func 160) #[] #[], .string ⟨⟨[115, 104, 97, 114, 101]⟩⟩, .bool true, .func (.func 161) #[] #[]]⟩), (23, .int .i64 (k : Nat))]) (fun k h' => (Wf h' ∧ Grow h2 h') ∧ k ≤ 6 ∧ At h' b6 (.cells [.int .i64 (dwN z0 z1 z2 z3 z4 z5 k), .int .i64 (dwT z0 z1 z2 z3 z4 z5 k)] 92 2 false)) 0 (within_lk ⟨rfl, rfl, rfl, rfl, rfl, trivial⟩) ⟨⟨w1, g4⟩, by omega, at6⟩ ?_
        clear w1 g4 at6
        rintro k h5 ⟨⟨w1, g4⟩, hk, at6⟩
        have n5 := g4.nx
        have l6 := at6.lt
        have at4 := at4.grow g4
        by_cases hlt : k < 6
        · match k, hlt with
          | 0, _ =>
            have at6 : At h5 b6 (.cells [.int .i64 (0), .int .i64 (0)] 92 2 false) := at6
            repeat' (first | with_reducible refine wo_nil ?_ | ((with_reducible refine wo_any ?_); first | ((with_reducible refine ik_move ?_); refine wo_op rfl (op_move rfl) rfl rfl ?_) | ((with_reducible refine ik_assign ?_); refine wo_op rfl (op_assign rfl) rfl rfl ?_) | ((with_reducible refine ik_index ?_); refine wo_op rfl (op_idxVA (v := .agg ⟨[.string ⟨⟨[115, 104, 111, 111, 116]⟩⟩, .bool false, .func (.func 156) #[] #[]]⟩) rfl rfl Tryz.underlying192 zs191 (by decide) (by decide) rfl) rfl rfl ?_) | ((with_reducible refine ik_load ?_); refine wo_op rfl (op_ldAt rfl at_A Tryz.underlying4 rfl rfl) rfl rfl ?_) | ((with_reducible refine ik_store ?_); refine wo_op0 rfl (op_stAgg rfl rfl at_A zs191 rfl rfl rfl rfl) rfl ?_) | ((with_reducible refine ik_alloc ?_); refine wo_op rfl (op_alloc zz191 zs191 rfl rfl rfl) rfl rfl ?_) | ((with_reducible refine ik_bin ?_); first | refine wo_op rfl (op_lss rfl rfl) rfl rfl ?_ | refine wo_op rfl (op_add' rfl rfl (w64 (by omega) (by omega))) rfl rfl ?_) | ((with_reducible refine ik_fieldAddr ?_); refine wo_op rfl (op_fieldAddr (o := 1) rfl Tryz.underlying191 rfl zs4 rfl) rfl rfl ?_)) | ((with_reducible refine xk_any ?_); ((with_reducible refine xk_as0 ?_); first | ((with_reducible refine xk_move ?_); refine wx_q (wt_none rfl) rfl rfl (op_q rfl (op_move rfl)) rfl rfl rfl ?_) | ((with_reducible refine xk_indexAddr ?_); refine wx_q (wt_none rfl) rfl rfl (op_q rfl (op_idxArrK rfl rfl (k := 0) rfl Tryz.underlying22 zs3 (by omega))) rfl rfl rfl ?_) | ((with_reducible refine xk_load ?_); first | refine wx_h0 (wt_none rfl) rfl (op_q rfl (op_ldAt (b := b4) (off := 0) rfl at_A Tryz.underlying3 rfl rfl)) rfl rfl rfl ?_ | refine wx_h0 (wt_none rfl) rfl (op_q rfl (op_ldAt (b := b6) (off := 1) rfl at_A Tryz.underlying3 rfl rfl)) rfl rfl rfl ?_) | ((with_reducible refine xk_store ?_); refine wx_ee0 (wt_none rfl) rfl rfl (op_stIdx (b := b6) (o := 1) (cs := [.int .i64 (0), .int .i64 (0 + z0)]) rfl rfl at_A rfl zs3 (Nat.le_of_ble_eq_true rfl) rfl rfl) rfl ?_) | ((with_reducible refine xk_bin ?_); refine wx_q (wt_none rfl) rfl rfl (op_q rfl (op_add' rfl rfl (w64 (by omega) (by omega)))) rfl rfl rfl ?_) | ((with_reducible refine xk_fieldAddr ?_); refine wx_q (wt_none rfl) rfl rfl (op_q rfl (op_fieldAddr (o := 1) rfl Tryz.underlying92 rfl zs3 rfl)) rfl rfl rfl ?_) | with_reducible refine wx_nil0 ?_ ?_)) | with_reducible exact obl_nil | with_reducible refine obl_cons ?_ ?_ | ((with_reducible refine ik_obs ?_); first | exact obs_nil | refine obs_skip rfl ?_ | refine obs_chkn rfl rfl (op_q rfl (op_ldAt (b := b4) (off := 0) rfl at_A Tryz.underlying3 rfl (by rfl))) ?_ | refine obs_chkn rfl rfl (op_q rfl (op_ldAt (b := b6) (off := 1) rfl at_A Tryz.underlying3 rfl (by rfl))) ?_) | with_reducible refine sq_norm ?_ | with_reducible refine wc_seq ?_ | with_reducible refine wc_region ?_ | with_reducible refine wc_skip ?_ | with_reducible refine wc_block ?_ | with_reducible refine bq_norm ?_ | refine wc_ift rfl ?_ | refine wc_iff rfl ?_ | refine wc_drawB (id := 10) 8 [0, 1, 0, 4, 12, 31, 63, 127] [0, 1, 2, 3, 4, 5, 6, 7] (by kernel_rfl) (by kernel_rfl) rfl rfl ?_)
            exact lq_norm (0 + 1) (by omega) (within_lk ⟨rfl, rfl, rfl, rfl, rfl, trivial⟩) ⟨⟨wf_A, gr_A⟩, by omega, (show At _ b6 (.cells [.int .i64 (0), .int .i64 (0 + z0)] 92 2 false) from at_A)⟩
          | 1, _ =>
            have at6 : At h5 b6 (.cells [.int .i64 (0), .int .i64 (0 + z0)] 92 2 false) := at6
            repeat' (first | with_reducible refine wo_nil ?_ | ((with_reducible refine wo_any ?_); first | ((with_reducible refine ik_move ?_); refine wo_op rfl (op_move rfl) rfl rfl ?_) | ((with_reducible refine ik_assign ?_); refine wo_op rfl (op_assign rfl) rfl rfl ?_) | ((with_reducible refine ik_index ?_); refine wo_op rfl (op_idxVA (v := .agg ⟨[.string ⟨⟨[116, 117, 114, 110]⟩⟩, .bool false, .func (.func 157) #[] #[]]⟩) rfl rfl Tryz.underlying192 zs191 (by decide) (by decide) rfl) rfl rfl ?_) | ((with_reducible refine ik_load ?_); refine wo_op rfl (op_ldAt rfl at_A Tryz.underlying4 rfl rfl) rfl rfl ?_) | ((with_reducible refine ik_store ?_); refine wo_op0 rfl (op_stAgg rfl rfl at_A zs191 rfl rfl rfl rfl) rfl ?_) | ((with_reducible refine ik_alloc ?_); refine wo_op rfl (op_alloc zz191 zs191 rfl rfl rfl) rfl rfl ?_) | ((with_reducible refine ik_bin ?_); first | refine wo_op rfl (op_lss rfl rfl) rfl rfl ?_ | refine wo_op rfl (op_add' rfl rfl (w64 (by omega) (by omega))) rfl rfl ?_) | ((with_reducible refine ik_fieldAddr ?_); refine wo_op rfl (op_fieldAddr (o := 1) rfl Tryz.underlying191 rfl zs4 rfl) rfl rfl ?_)) | ((with_reducible refine xk_any ?_); ((with_reducible refine xk_as0 ?_); first | ((with_reducible refine xk_move ?_); refine wx_q (wt_none rfl) rfl rfl (op_q rfl (op_move rfl)) rfl rfl rfl ?_) | ((with_reducible refine xk_indexAddr ?_); refine wx_q (wt_none rfl) rfl rfl (op_q rfl (op_idxArrK rfl rfl (k := 1) rfl Tryz.underlying22 zs3 (by omega))) rfl rfl rfl ?_) | ((with_reducible refine xk_load ?_); first | refine wx_h0 (wt_none rfl) rfl (op_q rfl (op_ldAt (b := b4) (off := 1) rfl at_A Tryz.underlying3 rfl rfl)) rfl rfl rfl ?_ | refine wx_h0 (wt_none rfl) rfl (op_q rfl (op_ldAt (b := b6) (off := 1) rfl at_A Tryz.underlying3 rfl rfl)) rfl rfl rfl ?_) | ((with_reducible refine xk_store ?_); refine wx_ee0 (wt_none rfl) rfl rfl (op_stIdx (b := b6) (o := 1) (cs := [.int .i64 (0), .int .i64 (0 + z0 + z1)]) rfl rfl at_A rfl zs3 (Nat.le_of_ble_eq_true rfl) rfl rfl) rfl ?_) | ((with_reducible refine xk_bin ?_); refine wx_q (wt_none rfl) rfl rfl (op_q rfl (op_add' rfl rfl (w64 (by omega) (by omega)))) rfl rfl rfl ?_) | ((with_reducible refine xk_fieldAddr ?_); refine wx_q (wt_none rfl) rfl rfl (op_q rfl (op_fieldAddr (o := 1) rfl Tryz.underlying92 rfl zs3 rfl)) rfl rfl rfl ?_) | with_reducible refine wx_nil0 ?_ ?_)) | with_reducible exact obl_nil | with_reducible refine obl_cons ?_ ?_ | ((with_reducible refine ik_obs ?_); first | exact obs_nil | refine obs_skip rfl ?_ | refine obs_chkn rfl rfl (op_q rfl (op_ldAt (b := b4) (off := 1) rfl at_A Tryz.underlying3 rfl (by rfl))) ?_ | refine obs_chkn rfl rfl (op_q rfl (op_ldAt (b := b6) (off := 1) rfl at_A Tryz.underlying3 rfl (by rfl))) ?_) | with_reducible refine sq_norm ?_ | with_reducible refine wc_seq ?_ | with_reducible refine wc_region ?_ | with_reducible refine wc_skip ?_ | with_reducible refine wc_block ?_ | with_reducible refine bq_norm ?_ | refine wc_ift rfl ?_ | refine wc_iff rfl ?_ | refine wc_drawB (id := 10) 8 [0, 1, 0, 4, 12, 31, 63, 127] [0, 1, 2, 3, 4, 5, 6, 7] (by kernel_rfl) (by kernel_rfl) rfl rfl ?_)
            exact lq_norm (1 + 1) (by omega) (within_lk ⟨rfl, rfl, rfl, rfl, rfl, trivial⟩) ⟨⟨wf_A, gr_A⟩, by omega, (show At _ b6 (.cells [.int .i64 (0), .int .i64 (0 + z0 + z1)] 92 2 false) from at_A)⟩
          | 2, _ =>
            have at6 : At h5 b6 (.cells [.int .i64 (0), .int .i64 (0 + z0 + z1)] 92 2 false) := at6
            repeat' (first | with_reducible refine wo_nil ?_ | ((with_reducible refine wo_any ?_); first | ((with_reducible refine ik_move ?_); refine wo_op rfl (op_move rfl) rfl rfl ?_) | ((with_reducible refine ik_assign ?_); refine wo_op rfl (op_assign rfl) rfl rfl ?_) | ((with_reducible refine ik_index ?_); refine wo_op rfl (op_idxVA (v := .agg ⟨[.string ⟨⟨[119, 101, 97, 116, 104, 101, 114]⟩⟩, .bool true, .func (.func 158) #[] #[]]⟩) rfl rfl Tryz.underlying192 zs191 (by decide) (by decide) rfl) rfl rfl ?_) | ((with_reducible refine ik_load ?_); refine wo_op rfl (op_ldAt rfl at_A Tryz.underlying4 rfl rfl) rfl rfl ?_) | ((with_reducible refine ik_store ?_); refine wo_op0 rfl (op_stAgg rfl rfl at_A zs191 rfl rfl rfl rfl) rfl ?_) | ((with_reducible refine ik_alloc ?_); refine wo_op rfl (op_alloc zz191 zs191 rfl rfl rfl) rfl rfl ?_) | ((with_reducible refine ik_bin ?_); first | refine wo_op rfl (op_lss rfl rfl) rfl rfl ?_ | refine wo_op rfl (op_add' rfl rfl (w64 (by omega) (by omega))) rfl rfl ?_) | ((with_reducible refine ik_fieldAddr ?_); refine wo_op rfl (op_fieldAddr (o := 1) rfl Tryz.underlying191 rfl zs4 rfl) rfl rfl ?_)) | ((with_reducible refine xk_any ?_); ((with_reducible refine xk_as0 ?_); first | ((with_reducible refine xk_move ?_); refine wx_q (wt_none rfl) rfl rfl (op_q rfl (op_move rfl)) rfl rfl rfl ?_) | ((with_reducible refine xk_indexAddr ?_); refine wx_q (wt_none rfl) rfl rfl (op_q rfl (op_idxArrK rfl rfl (k := 2) rfl Tryz.underlying22 zs3 (by omega))) rfl rfl rfl ?_) | ((with_reducible refine xk_load ?_); first | refine wx_h0 (wt_none rfl) rfl (op_q rfl (op_ldAt (b := b4) (off := 2) rfl at_A Tryz.underlying3 rfl rfl)) rfl rfl rfl ?_ | refine wx_h0 (wt_none rfl) rfl (op_q rfl (op_ldAt (b := b6) (off := 0) rfl at_A Tryz.underlying3 rfl rfl)) rfl rfl rfl ?_ | refine wx_h0 (wt_none rfl) rfl (op_q rfl (op_ldAt (b := b6) (off := 1) rfl at_A Tryz.underlying3 rfl rfl)) rfl rfl rfl ?_) | ((with_reducible refine xk_store ?_); first | refine wx_ee0 (wt_none rfl) rfl rfl (op_stIdx (b := b6) (o := 1) (cs := [.int .i64 (0), .int .i64 (0 + z0 + z1 + z2)]) rfl rfl at_A rfl zs3 (Nat.le_of_ble_eq_true rfl) rfl rfl) rfl ?_ | refine wx_ee0 (wt_none rfl) rfl rfl (op_stIdx (b := b6) (o := 0) (cs := [.int .i64 (0 + z2), .int .i64 (0 + z0 + z1 + z2)]) rfl rfl at_A rfl zs3 (Nat.le_of_ble_eq_true rfl) rfl rfl) rfl ?_) | ((with_reducible refine xk_bin ?_); refine wx_q (wt_none rfl) rfl rfl (op_q rfl (op_add' rfl rfl (w64 (by omega) (by omega)))) rfl rfl rfl ?_) | ((with_reducible refine xk_fieldAddr ?_); first | refine wx_q (wt_none rfl) rfl rfl (op_q rfl (op_fieldAddr (o := 1) rfl Tryz.underlying92 rfl zs3 rfl)) rfl rfl rfl ?_ | refine wx_q (wt_none rfl) rfl rfl (op_q rfl (op_fieldAddr (o := 0) rfl Tryz.underlying92 rfl zs3 rfl)) rfl rfl rfl ?_) | with_reducible refine wx_nil0 ?_ ?_)) | with_reducible exact obl_nil | with_reducible refine obl_cons ?_ ?_ | ((with_reducible refine ik_obs ?_); first | exact obs_nil | refine obs_skip rfl ?_ | refine obs_chkn rfl rfl (op_q rfl (op_ldAt (b := b4) (off := 2) rfl at_A Tryz.underlying3 rfl (by rfl))) ?_ | refine obs_chkn rfl rfl (op_q rfl (op_ldAt (b := b6) (off := 0) rfl at_A Tryz.underlying3 rfl (by rfl))) ?_ | refine obs_chkn rfl rfl (op_q rfl (op_ldAt (b := b6) (off := 1) rfl at_A Tryz.underlying3 rfl (by rfl))) ?_) | with_reducible refine sq_norm ?_ | with_reducible refine wc_seq ?_ | with_reducible refine wc_region ?_ | with_reducible refine wc_skip ?_ | with_reducible refine wc_block ?_ | with_reducible refine bq_norm ?_ | refine wc_ift rfl ?_ | refine wc_drawB (id := 10) 8 [0, 1, 0, 4, 12, 31, 63, 127] [0, 1, 2, 3, 4, 5, 6, 7] (by kernel_rfl) (by kernel_rfl) rfl rfl ?_ | refine wc_drawB (id := 12) 8 [0, 1, 0, 4, 12, 31, 63, 127] [0, 1, 2, 3, 4, 5, 6, 7] (by kernel_rfl) (by kernel_rfl) rfl rfl ?_)
            exact lq_norm (2 + 1) (by omega) (within_lk ⟨rfl, rfl, rfl, rfl, rfl, trivial⟩) ⟨⟨wf_A, gr_A⟩, by omega, (show At _ b6 (.cells [.int .i64 (0 + z2), .int .i64 (0 + z0 + z1 + z2)] 92 2 false) from at_A)⟩
          | 3, _ =>
            have at6 : At h5 b6 (.cells [.int .i64 (0 + z2), .int .i64 (0 + z0 + z1 + z2)] 92 2 false) := at6
            repeat' (first | with_reducible refine wo_nil ?_ | ((with_reducible refine wo_any ?_); first | ((with_reducible refine ik_move ?_); refine wo_op rfl (op_move rfl) rfl rfl ?_) | ((with_reducible refine ik_assign ?_); refine wo_op rfl (op_assign rfl) rfl rfl ?_) | ((with_reducible refine ik_index ?_); refine wo_op rfl (op_idxVA (v := .agg ⟨[.string ⟨⟨[97, 110, 105, 109, 97, 108]⟩⟩, .bool true, .func (.func 159) #[] #[]]⟩) rfl rfl Tryz.underlying192 zs191 (by decide) (by decide) rfl) rfl rfl ?_) | ((with_reducible refine ik_load ?_); refine wo_op rfl (op_ldAt rfl at_A Tryz.underlying4 rfl rfl) rfl rfl ?_) | ((with_reducible refine ik_store ?_); refine wo_op0 rfl (op_stAgg rfl rfl at_A zs191 rfl rfl rfl rfl) rfl ?_) | ((with_reducible refine ik_alloc ?_); refine wo_op rfl (op_alloc zz191 zs191 rfl rfl rfl) rfl rfl ?_) | ((with_reducible refine ik_bin ?_); first | refine wo_op rfl (op_lss rfl rfl) rfl rfl ?_ | refine wo_op rfl (op_add' rfl rfl (w64 (by omega) (by omega))) rfl rfl ?_) | ((with_reducible refine ik_fieldAddr ?_); refine wo_op rfl (op_fieldAddr (o := 1) rfl Tryz.underlying191 rfl zs4 rfl) rfl rfl ?_)) | ((with_reducible refine xk_any ?_); ((with_reducible refine xk_as0 ?_); first | ((with_reducible refine xk_move ?_); refine wx_q (wt_none rfl) rfl rfl (op_q rfl (op_move rfl)) rfl rfl rfl ?_) | ((with_reducible refine xk_indexAddr ?_); refine wx_q (wt_none rfl) rfl rfl (op_q rfl (op_idxArrK rfl rfl (k := 3) rfl Tryz.underlying22 zs3 (by omega))) rfl rfl rfl ?_) | ((with_reducible refine xk_load ?_); first | refine wx_h0 (wt_none rfl) rfl (op_q rfl (op_ldAt (b := b4) (off := 3) rfl at_A Tryz.underlying3 rfl rfl)) rfl rfl rfl ?_ | refine wx_h0 (wt_none rfl) rfl (op_q rfl (op_ldAt (b := b6) (off := 0) rfl at_A Tryz.underlying3 rfl rfl)) rfl rfl rfl ?_ | refine wx_h0 (wt_none rfl) rfl (op_q rfl (op_ldAt (b := b6) (off := 1) rfl at_A Tryz.underlying3 rfl rfl)) rfl rfl rfl ?_) | ((with_reducible refine xk_store ?_); first | refine wx_ee0 (wt_none rfl) rfl rfl (op_stIdx (b := b6) (o := 1) (cs := [.int .i64 (0 + z2), .int .i64 (0 + z0 + z1 + z2 + z3)]) rfl rfl at_A rfl zs3 (Nat.le_of_ble_eq_true rfl) rfl rfl) rfl ?_ | refine wx_ee0 (wt_none rfl) rfl rfl (op_stIdx (b := b6) (o := 0) (cs := [.int .i64 (0 + z2 + z3), .int .i64 (0 + z0 + z1 + z2 + z3)]) rfl rfl at_A rfl zs3 (Nat.le_of_ble_eq_true rfl) rfl rfl) rfl ?_) | ((with_reducible refine xk_bin ?_); refine wx_q (wt_none rfl) rfl rfl (op_q rfl (op_add' rfl rfl (w64 (by omega) (by omega)))) rfl rfl rfl ?_) | ((with_reducible refine xk_fieldAddr ?_); first | refine wx_q (wt_none rfl) rfl rfl (op_q rfl (op_fieldAddr (o := 1) rfl Tryz.underlying92 rfl zs3 rfl)) rfl rfl rfl ?_ | refine wx_q (wt_none rfl) rfl rfl (op_q rfl (op_fieldAddr (o := 0) rfl Tryz.underlying92 rfl zs3 rfl)) rfl rfl rfl ?_) | with_reducible refine wx_nil0 ?_ ?_)) | with_reducible exact obl_nil | with_reducible refine obl_cons ?_ ?_ | ((with_reducible refine ik_obs ?_); first | exact obs_nil | refine obs_skip rfl ?_ | refine obs_chkn rfl rfl (op_q rfl (op_ldAt (b := b4) (off := 3) rfl at_A Tryz.underlying3 rfl (by rfl))) ?_ | refine obs_chkn rfl rfl (op_q rfl (op_ldAt (b := b6) (off := 0) rfl at_A Tryz.underlying3 rfl (by rfl))) ?_ | refine obs_chkn rfl rfl (op_q rfl (op_ldAt (b := b6) (off := 1) rfl at_A Tryz.underlying3 rfl (by rfl))) ?_) | with_reducible refine sq_norm ?_ | with_reducible refine wc_seq ?_ | with_reducible refine wc_region ?_ | with_reducible refine wc_skip ?_ | with_reducible refine wc_block ?_ | with_reducible refine bq_norm ?_ | refine wc_ift rfl ?_ | refine wc_drawB (id := 10) 8 [0, 1, 0, 4, 12, 31, 63, 127] [0, 1, 2, 3, 4, 5, 6, 7] (by kernel_rfl) (by kernel_rfl) rfl rfl ?_ | refine wc_drawB (id := 12) 8 [0, 1, 0, 4, 12, 31, 63, 127] [0, 1, 2, 3, 4, 5, 6, 7] (by kernel_rfl) (by kernel_rfl) rfl rfl ?_)
            exact lq_norm (3 + 1) (by omega) (within_lk ⟨rfl, rfl, rfl, rfl, rfl, trivial⟩) ⟨⟨wf_A, gr_A⟩, by omega, (show At _ b6 (.cells [.int .i64 (0 + z2 + z3), .int .i64 (0 + z0 + z1 + z2 + z3)] 92 2 false) from at_A)⟩
          | 4, _ =>
            have at6 : At h5 b6 (.cells [.int .i64 (0 + z2 + z3), .int .i64 (0 + z0 + z1 + z2 + z3)] 92 2 false) := at6
            repeat' (first | with_reducible refine wo_nil ?_ | ((with_reducible refine wo_any ?_); first | ((with_reducible refine ik_move ?_); refine wo_op rfl (op_move rfl) rfl rfl ?_) | ((with_reducible refine ik_assign ?_); refine wo_op rfl (op_assign rfl) rfl rfl ?_) | ((with_reducible refine ik_index ?_); refine wo_op rfl (op_idxVA (v := .agg ⟨[.string ⟨⟨[103, 101, 97, 114]⟩⟩, .bool true, .func (.func 160) #[] #[]]⟩) rfl rfl Tryz.underlying192 zs191 (by decide) (by decide) rfl) rfl rfl ?_) | ((with_reducible refine ik_load ?_); refine wo_op rfl (op_ldAt rfl at_A Tryz.underlying4 rfl rfl) rfl rfl ?_) | ((with_reducible refine ik_store ?_); refine wo_op0 rfl (op_stAgg rfl rfl at_A zs191 rfl rfl rfl rfl) rfl ?_) | ((with_reducible refine ik_alloc ?_); refine wo_op rfl (op_alloc zz191 zs191 rfl rfl rfl) rfl rfl ?_) | ((with_reducible refine ik_bin ?_); first | refine wo_op rfl (op_lss rfl rfl) rfl rfl ?_ | refine wo_op rfl (op_add' rfl rfl (w64 (by omega) (by omega))) rfl rfl ?_) | ((with_reducible refine ik_fieldAddr ?_); refine wo_op rfl (op_fieldAddr (o := 1) rfl Tryz.underlying191 rfl zs4 rfl) rfl rfl ?_)) | ((with_reducible refine xk_any ?_); ((with_reducible refine xk_as0 ?_); first | ((with_reducible refine xk_move ?_); refine wx_q (wt_none rfl) rfl rfl (op_q rfl (op_move rfl)) rfl rfl rfl ?_) | ((with_reducible refine xk_indexAddr ?_); refine wx_q (wt_none rfl) rfl rfl (op_q rfl (op_idxArrK rfl rfl (k := 4) rfl Tryz.underlying22 zs3 (by omega))) rfl rfl rfl ?_) | ((with_reducible refine xk_load ?_); first | refine wx_h0 (wt_none rfl) rfl (op_q rfl (op_ldAt (b := b4) (off := 4) rfl at_A Tryz.underlying3 rfl rfl)) rfl rfl rfl ?_ | refine wx_h0 (wt_none rfl) rfl (op_q rfl (op_ldAt (b := b6) (off := 0) rfl at_A Tryz.underlying3 rfl rfl)) rfl rfl rfl ?_ | refine wx_h0 (wt_none rfl) rfl (op_q rfl (op_ldAt (b := b6) (off := 1) rfl at_A Tryz.underlying3 rfl rfl)) rfl rfl rfl ?_) | ((with_reducible refine xk_store ?_); first | refine wx_ee0 (wt_none rfl) rfl rfl (op_stIdx (b := b6) (o := 1) (cs := [.int .i64 (0 + z2 + z3), .int .i64 (0 + z0 + z1 + z2 + z3 + z4)]) rfl rfl at_A rfl zs3 (Nat.le_of_ble_eq_true rfl) rfl rfl) rfl ?_ | refine wx_ee0 (wt_none rfl) rfl rfl (op_stIdx (b := b6) (o := 0) (cs := [.int .i64 (0 + z2 + z3 + z4), .int .i64 (0 + z0 + z1 + z2 + z3 + z4)]) rfl rfl at_A rfl zs3 (Nat.le_of_ble_eq_true rfl) rfl rfl) rfl ?_) | ((with_reducible refine xk_bin ?_); refine wx_q (wt_none rfl) rfl rfl (op_q rfl (op_add' rfl rfl (w64 (by omega) (by omega)))) rfl rfl rfl ?_) | ((with_reducible refine xk_fieldAddr ?_); first | refine wx_q (wt_none rfl) rfl rfl (op_q rfl (op_fieldAddr (o := 1) rfl Tryz.underlying92 rfl zs3 rfl)) rfl rfl rfl ?_ | refine wx_q (wt_none rfl) rfl rfl (op_q rfl (op_fieldAddr (o := 0) rfl Tryz.underlying92 rfl zs3 rfl)) rfl rfl rfl ?_) | with_reducible refine wx_nil0 ?_ ?_)) | with_reducible exact obl_nil | with_reducible refine obl_cons ?_ ?_ | ((with_reducible refine ik_obs ?_); first | exact obs_nil | refine obs_skip rfl ?_ | refine obs_chkn rfl rfl (op_q rfl (op_ldAt (b := b4) (off := 4) rfl at_A Tryz.underlying3 rfl (by rfl))) ?_ | refine obs_chkn rfl rfl (op_q rfl (op_ldAt (b := b6) (off := 0) rfl at_A Tryz.underlying3 rfl (by rfl))) ?_ | refine obs_chkn rfl rfl (op_q rfl (op_ldAt (b := b6) (off := 1) rfl at_A Tryz.underlying3 rfl (by rfl))) ?_) | with_reducible refine sq_norm ?_ | with_reducible refine wc_seq ?_ | with_reducible refine wc_region ?_ | with_reducible refine wc_skip ?_ | with_reducible refine wc_block ?_ | with_reducible refine bq_norm ?_ | refine wc_ift rfl ?_ | refine wc_drawB (id := 10) 8 [0, 1, 0, 4, 12, 31, 63, 127] [0, 1, 2, 3, 4, 5, 6, 7] (by kernel_rfl) (by kernel_rfl) rfl rfl ?_ | refine wc_drawB (id := 12) 8 [0, 1, 0, 4, 12, 31, 63, 127] [0, 1, 2, 3, 4, 5, 6, 7] (by kernel_rfl) (by kernel_rfl) rfl rfl ?_)
            exact lq_norm (4 + 1) (by omega) (within_lk ⟨rfl, rfl, rfl, rfl, rfl, trivial⟩) ⟨⟨wf_A, gr_A⟩, by omega, (show At _ b6 (.cells [.int .i64 (0 + z2 + z3 + z4), .int .i64 (0 + z0 + z1 + z2 + z3 + z4)] 92 2 false) from at_A)⟩
          | 5, _ =>
            have at6 : At h5 b6 (.cells [.int .i64 (0 + z2 + z3 + z4), .int .i64 (0 + z0 + z1 + z2 + z3 + z4)] 92 2 false) := at6
            repeat' (first | with_reducible refine wo_nil ?_ | ((with_reducible refine wo_any ?_); first | ((with_reducible refine ik_move ?_); refine wo_op rfl (op_move rfl) rfl rfl ?_) | ((with_reducible refine ik_assign ?_); refine wo_op rfl (op_assign rfl) rfl rfl ?_) | ((with_reducible refine ik_index ?_); refine wo_op rfl (op_idxVA (v := .agg ⟨[.string ⟨⟨[115, 104, 97, 114, 101]⟩⟩, .bool true, .func (.func 161) #[] #[]]⟩) rfl rfl Tryz.underlying192 zs191 (by decide) (by decide) rfl) rfl rfl ?_) | ((with_reducible refine ik_load ?_); refine wo_op rfl (op_ldAt rfl at_A Tryz.underlying4 rfl rfl) rfl rfl ?_) | ((with_reducible refine ik_store ?_); refine wo_op0 rfl (op_stAgg rfl rfl at_A zs191 rfl rfl rfl rfl) rfl ?_) | ((with_reducible refine ik_alloc ?_); refine wo_op rfl (op_alloc zz191 zs191 rfl rfl rfl) rfl rfl ?_) | ((with_reducible refine ik_bin ?_); first | refine wo_op rfl (op_lss rfl rfl) rfl rfl ?_ | refine wo_op rfl (op_add' rfl rfl (w64 (by omega) (by omega))) rfl rfl ?_) | ((with_reducible refine ik_fieldAddr ?_); refine wo_op rfl (op_fieldAddr (o := 1) rfl Tryz.underlying191 rfl zs4 rfl) rfl rfl ?_)) | ((with_reducible refine xk_any ?_); ((with_reducible refine xk_as0 ?_); first | ((with_reducible refine xk_move ?_); refine wx_q (wt_none rfl) rfl rfl (op_q rfl (op_move rfl)) rfl rfl rfl ?_) | ((with_reducible refine xk_indexAddr ?_); refine wx_q (wt_none rfl) rfl rfl (op_q rfl (op_idxArrK rfl rfl (k := 5) rfl Tryz.underlying22 zs3 (by omega))) rfl rfl rfl ?_) | ((with_reducible refine xk_load ?_); first | refine wx_h0 (wt_none rfl) rfl (op_q rfl (op_ldAt (b := b4) (off := 5) rfl at_A Tryz.underlying3 rfl rfl)) rfl rfl rfl ?_ | refine wx_h0 (wt_none rfl) rfl (op_q rfl (op_ldAt (b := b6) (off := 0) rfl at_A Tryz.underlying3 rfl rfl)) rfl rfl rfl ?_ | refine wx_h0 (wt_none rfl) rfl (op_q rfl (op_ldAt (b := b6) (off := 1) rfl at_A Tryz.underlying3 rfl rfl)) rfl rfl rfl ?_) | ((with_reducible refine xk_store ?_); first | refine wx_ee0 (wt_none rfl) rfl rfl (op_stIdx (b := b6) (o := 1) (cs := [.int .i64 (0 + z2 + z3 + z4), .int .i64 (0 + z0 + z1 + z2 + z3 + z4 + z5)]) rfl rfl at_A rfl zs3 (Nat.le_of_ble_eq_true rfl) rfl rfl) rfl ?_ | refine wx_ee0 (wt_none rfl) rfl rfl (op_stIdx (b := b6) (o := 0) (cs := [.int .i64 (0 + z2 + z3 + z4 + z5), .int .i64 (0 + z0 + z1 + z2 + z3 + z4 + z5)]) rfl rfl at_A rfl zs3 (Nat.le_of_ble_eq_true rfl) rfl rfl) rfl ?_) | ((with_reducible refine xk_bin ?_); refine wx_q (wt_none rfl) rfl rfl (op_q rfl (op_add' rfl rfl (w64 (by omega) (by omega)))) rfl rfl rfl ?_) | ((with_reducible refine xk_fieldAddr ?_); first | refine wx_q (wt_none rfl) rfl rfl (op_q rfl (op_fieldAddr (o := 1) rfl Tryz.underlying92 rfl zs3 rfl)) rfl rfl rfl ?_ | refine wx_q (wt_none rfl) rfl rfl (op_q rfl (op_fieldAddr (o := 0) rfl Tryz.underlying92 rfl zs3 rfl)) rfl rfl rfl ?_) | with_reducible refine wx_nil0 ?_ ?_)) | with_reducible exact obl_nil | with_reducible refine obl_cons ?_ ?_ | ((with_reducible refine ik_obs ?_); first | exact obs_nil | refine obs_skip rfl ?_ | refine obs_chkn rfl rfl (op_q rfl (op_ldAt (b := b4) (off := 5) rfl at_A Tryz.underlying3 rfl (by rfl))) ?_ | refine obs_chkn rfl rfl (op_q rfl (op_ldAt (b := b6) (off := 0) rfl at_A Tryz.underlying3 rfl (by rfl))) ?_ | refine obs_chkn rfl rfl (op_q rfl (op_ldAt (b := b6) (off := 1) rfl at_A Tryz.underlying3 rfl (by rfl))) ?_) | with_reducible refine sq_norm ?_ | with_reducible refine wc_seq ?_ | with_reducible refine wc_region ?_ | with_reducible refine wc_skip ?_ | with_reducible refine wc_block ?_ | with_reducible refine bq_norm ?_ | refine wc_ift rfl ?_ | refine wc_drawB (id := 10) 8 [0, 1, 0, 4, 12, 31, 63, 127] [0, 1, 2, 3, 4, 5, 6, 7] (by kernel_rfl) (by kernel_rfl) rfl rfl ?_ | refine wc_drawB (id := 12) 8 [0, 1, 0, 4, 12, 31, 63, 127] [0, 1, 2, 3, 4, 5, 6, 7] (by kernel_rfl) (by kernel_rfl) rfl rfl ?_)
            exact lq_norm (5 + 1) (by omega) (within_lk ⟨rfl, rfl, rfl, rfl, rfl, trivial⟩) ⟨⟨wf_A, gr_A⟩, by omega, (show At _ b6 (.cells [.int .i64 (0 + z2 + z3 + z4 + z5), .int .i64 (0 + z0 + z1 + z2 + z3 + z4 + z5)] 92 2 false) from at_A)⟩
        · have e : k = 6 := by omega
          subst e
          repeat' (first | with_reducible refine wo_nil ?_ | ((with_reducible refine wo_any ?_); ((with_reducible refine ik_bin ?_); refine wo_op rfl (op_lss rfl rfl) rfl rfl ?_)) | with_reducible refine sq_norm ?_ | with_reducible refine wc_seq ?_ | with_reducible refine wc_region ?_ | with_reducible refine wc_exit ?_ | with_reducible refine sq_exit ?_ | with_reducible refine lq_exit ?_ | refine bq_eq rfl ?_ | refine wc_iff rfl ?_)
          exact ⟨rfl, (), within_lk ⟨rfl, rfl, rfl, trivial⟩, ⟨w1, g4⟩, at6⟩
      clear w1 g4 at6 hge6
      rintro _ h4 ⟨⟨w1, g4⟩, at6⟩
      have l6 := at6.lt
      have a2 := a2.grow g4
      have gg := g3.trans g4
      have n5 := g4.nx
      repeat' (first | with_reducible refine wo_nil ?_ | ((with_reducible refine wo_any ?_); first | ((with_reducible refine ik_assign ?_); refine wo_op rfl (op_assign rfl) rfl rfl ?_) | ((with_reducible refine ik_load ?_); refine wo_op rfl (op_ldAgg (b := b6) (off := 0) rfl at_A Tryz.underlying92 rfl zs92 rfl rfl) rfl rfl ?_) | ((with_reducible refine ik_store ?_); refine wo_op0 rfl (op_stAgg rfl rfl at_A zs92 rfl rfl rfl rfl) rfl ?_) | ((with_reducible refine ik_callv ?_); (refine wo_call rfl rfl rfl rfl (q110 _ wf_A) rfl rfl ?_; rintro _ _ ⟨rfl, hq⟩; all_goals ((try (have hqn := hq.nx)); (try simp only [H.nx_push, H.nx_set, H.nx_bump] at hqn))))) | with_reducible refine sq_norm ?_ | with_reducible refine wc_seq ?_ | with_reducible refine wc_region ?_ | with_reducible refine wc_ret ?_)
      exact rqc2 rfl (ldAgg at_A Tryz.underlying92 rfl zs92 rfl rfl) rfl ⟨rfl, gr_A⟩
  · have e0 : dtE l = ensE l := by unfold dtE; rw [if_pos he]
    have e1 : dtN l = 0 := by unfold dtN; rw [if_pos (by rw [e0]; exact he)]
    have e2 : dtD l = 0 := by unfold dtD; rw [if_pos (by rw [e0]; exact he)]
    have hE : hrE l n = [0, 0, 0, 0, 0, 0] := by unfold hrE; rw [if_pos he]
    rw [e0, e1, e2]
    rw [hE] at q41
    dsimp only [List.map] at q41
    clear e0 e1 e2 hE
    generalize ensE l = E at q41 he ⊢
    obtain ⟨a, c, rfl⟩ := s.form
    refine cf_enter0 46 [.cell 2 92, .tmp 3] Tryz.func42 rfl rfl rfl rfl ?_
    repeat' (first | with_reducible refine wo_nil ?_ | ((with_reducible refine wo_any ?_); first | ((with_reducible refine ik_move ?_); refine wo_op rfl (op_move rfl) rfl rfl ?_) | ((with_reducible refine ik_assign ?_); refine wo_op rfl (op_assign rfl) rfl rfl ?_) | ((with_reducible refine ik_alloc ?_); first | refine wo_op rfl (op_alloc zz92 zs92 rfl rfl rfl) rfl rfl ?_ | refine wo_op rfl (op_alloc zz22 zs22 rfl rfl rfl) rfl rfl ?_) | ((with_reducible refine ik_extract ?_); refine wo_op rfl (op_extract rfl rfl) rfl rfl ?_) | ((with_reducible refine ik_store ?_); first | refine wo_op0 rfl (op_stAgg rfl rfl at_A zs22 rfl rfl rfl rfl) rfl ?_ | refine wo_op0 rfl (op_stAgg rfl rfl at_A zs92 rfl rfl rfl rfl) rfl ?_) | ((with_reducible refine ik_bin ?_); refine wo_op rfl (op_neq rfl rfl) rfl rfl ?_) | ((with_reducible refine ik_build ?_); refine wo_op rfl (op_buildT rfl zz92 zp92 rfl rfl) rfl rfl ?_) | ((with_reducible refine ik_callv ?_); (refine wo_call rfl rfl rfl rfl (q41 _ gr_A wf_A) rfl rfl ?_; rintro _ _ ⟨rfl, hq⟩; all_goals ((try (have hqn := hq.nx)); (try simp only [H.nx_push, H.nx_set, H.nx_bump] at hqn))))) | with_reducible refine sq_norm ?_ | with_reducible refine wc_seq ?_ | with_reducible refine wc_region ?_ | with_reducible refine wc_ret ?_ | with_reducible refine sq_ret ?_ | (refine wc_if rfl (fun hb => ?_) (fun hb => dead_A hb); (try simp only [decide_eq_true_eq, decide_eq_false_iff_not, Bool.not_eq_true', Bool.not_eq_false', Int.not_lt, Int.not_le, Decidable.not_not, not_true_eq_false, not_false_eq_true, beq_self_eq_true, reduceCtorEq] at hb)))
    exact rqc2 rfl (ldAgg at_A Tryz.underlying92 rfl zs92 rfl rfl) rfl ⟨rfl, gr_A⟩
end Go.Proofs.YtlioomhcdlicmaaGreatDoor

/- Survey: the downtime by the reference; entries converted. -/
namespace Go.Proofs.YtlioomhcdlicmaaGreatDoor
open Go Go.Ab Go.Fl
attribute [local irreducible] SeqQ BlkQ LpQ RetQ Wc Wo WD WX Op1 Op1q Op1a Cf Cl From
attribute [local irreducible] Ieee.Format.order Ieee.Format.read Ieee.Format.nearest Ieee.Format.write Ieee.Format.mul Ieee.Format.div Ieee.Format.sqrt Ieee.Datum.order Ieee.Datum.integral K U rngE errN ptE firstNZ vesE watE sgE sgsE allE hitB sqD insB qsL lvl rn rl altB
set_option maxRecDepth 10000
variable {G : Base} {h : H}

attribute [local irreducible] spE numM cauW cnum cauN enE hrK lowN lowD
set_option maxHeartbeats 4000000 in
theorem c40 {v : Value} {n : Nat} {l : List En} (s : Sl G h 3 v n (l.flatMap En.cells)) (hl : l.length = n) (hn : n < 1000000) (hw : Wf h) : Cf (mz G) (.func (.func 40) #[] #[]) [v] h fun r h' => Sl G h' 3 r n (l.flatMap En.cells) ∧ Grow h h' := by
  obtain ⟨a, c, rfl⟩ := s.form
  refine cf_enter0 18 [.tmp 2] Tryz.func40 rfl rfl rfl rfl ?_
  repeat' (first | with_reducible refine wo_nil ?_ | ((with_reducible refine wo_any ?_); first | ((with_reducible refine ik_move ?_); refine wo_op rfl (op_move rfl) rfl rfl ?_) | ((with_reducible refine ik_assign ?_); refine wo_op rfl (op_assign rfl) rfl rfl ?_) | ((with_reducible refine ik_callb ?_); refine wo_op rfl (op_lenSl rfl Tryz.underlying83) rfl rfl ?_)) | with_reducible refine sq_norm ?_ | with_reducible refine wc_seq ?_ | with_reducible refine wc_region ?_ | with_reducible refine wc_block ?_)
  refine wc_loop (fun p : Nat × Value => n - p.1) (fun p => [(3, p.2), (6, .slice a n c), (7, .int .i64 n), (8, .int .i64 (p.1 : Nat))]) (fun p h' => (Wf h' ∧ Grow h h') ∧ p.1 ≤ n ∧ ((p.2 = .slice none 0 0 ∧ p.1 = 0) ∨ ∃ e, h.nx ≤ e ∧ p.2 = .slice (some ⟨e, 0, some 0⟩) p.1 p.1 ∧ At h' e (.cells ((l.take p.1).flatMap En.cells) 133 3 true))) (0, .slice none 0 0) (within_lk ⟨rfl, rfl, rfl, rfl, trivial⟩) ⟨⟨wf_A, gr_A⟩, Nat.zero_le _, .inl ⟨rfl, rfl⟩⟩ ?_
  rintro ⟨k, v⟩ h1 ⟨⟨w1, g1⟩, hk, hv⟩
  simp only at hk hv ⊢
  have n1 := g1.nx
  by_cases hlt : k < n
  · obtain ⟨id, i1, i3⟩ := rl_at En.len ⟨0, 0, .empty⟩ (s.grow g1) hl Tryz.underlying83 zs184 (i := (k : Int)) hlt rfl
    obtain ⟨p, hp⟩ : ∃ p, l.getD k ⟨0, 0, .empty⟩ = p := ⟨_, rfl⟩
    have e1 : (l.take (k + 1)).flatMap En.cells = (l.take k).flatMap En.cells ++ p.cells := by
      rw [take_next ⟨0, 0, .empty⟩ (by omega), hp, List.flatMap_append]; simp
    rw [hp] at i3
    obtain ⟨f, t, cz⟩ := p
    dsimp only [En.cells] at i3
    rcases hv with ⟨rfl, rfl⟩ | ⟨e, hb, rfl, hat⟩
    · repeat' (first | with_reducible refine wo_nil ?_ | ((with_reducible refine wo_any ?_); first | ((with_reducible refine ik_move ?_); refine wo_op rfl (op_move rfl) rfl rfl ?_) | ((with_reducible refine ik_assign ?_); refine wo_op rfl (op_assign rfl) rfl rfl ?_) | ((with_reducible refine ik_indexAddr ?_); refine wo_op rfl (op_indexAddr rfl rfl i1) rfl rfl ?_) | ((with_reducible refine ik_load ?_); first | refine wo_op rfl (op_ldLn rfl Tryz.underlying184 rfl zs184 (i3 _ gr_A).all) rfl rfl ?_ | refine wo_op rfl (op_ldAgg rfl at_A Tryz.underlying184 rfl zs184 rfl rfl) rfl rfl ?_) | ((with_reducible refine ik_callb ?_); refine wo_op rfl (op_append rfl rfl (append_nil_eq (M := mz G) (st := 85) (xt := 85) (m := 1) Tryz.underlying85 Tryz.underlying85 rfl zs133 zb133 zz133 rfl (Sl.ofAt at_A rfl (Nat.le_refl _)) rfl (by omega) (by omega))) rfl rfl ?_) | ((with_reducible refine ik_bin ?_); first | refine wo_op rfl (op_lss rfl rfl) rfl rfl ?_ | refine wo_op rfl (op_add' rfl rfl (w64 (by omega) (by omega))) rfl rfl ?_) | ((with_reducible refine ik_alloc ?_); refine wo_op rfl (op_alloc zz184 zs184 rfl rfl rfl) rfl rfl ?_) | ((with_reducible refine ik_store ?_); refine wo_op0 rfl (op_stAgg rfl rfl at_A zs184 rfl rfl rfl rfl) rfl ?_) | ((with_reducible refine ik_buildSlice ?_); refine wo_op rfl (op_buildSl rfl Tryz.underlying85 zs133 zz133 rfl rfl) rfl rfl ?_)) | with_reducible refine sq_norm ?_ | with_reducible refine wc_seq ?_ | with_reducible refine wc_region ?_ | with_reducible refine wc_skip ?_ | with_reducible refine wc_block ?_ | with_reducible refine bq_norm ?_ | (refine wc_if rfl (fun hb => ?_) (fun hb => dead_A hb); (try simp only [decide_eq_true_eq, decide_eq_false_iff_not, Bool.not_eq_true', Bool.not_eq_false', Int.not_lt, Int.not_le, Decidable.not_not, not_true_eq_false, not_false_eq_true, beq_self_eq_true, reduceCtorEq] at hb)))
      exact lq_norm (0 + 1, .slice (some ⟨_, 0, some 0⟩) (0 + 1) (0 + 1)) (by simp only; omega) (within_lk ⟨rfl, rfl, rfl, rfl, trivial⟩) ⟨⟨wf_A, gr_A⟩, by simp only; omega, .inr ⟨_, by simp only [H.nx_push, H.nx_set, H.nx_bump, H.nx_kill]; omega, rfl, by simp only; rw [e1]; exact at_A⟩⟩
    · have l1 := hat.lt
      repeat' (first | with_reducible refine wo_nil ?_ | ((with_reducible refine wo_any ?_); first | ((with_reducible refine ik_move ?_); refine wo_op rfl (op_move rfl) rfl rfl ?_) | ((with_reducible refine ik_assign ?_); refine wo_op rfl (op_assign rfl) rfl rfl ?_) | ((with_reducible refine ik_indexAddr ?_); refine wo_op rfl (op_indexAddr rfl rfl i1) rfl rfl ?_) | ((with_reducible refine ik_load ?_); first | refine wo_op rfl (op_ldLn rfl Tryz.underlying184 rfl zs184 (i3 _ gr_A).all) rfl rfl ?_ | refine wo_op rfl (op_ldAgg rfl at_A Tryz.underlying184 rfl zs184 rfl rfl) rfl rfl ?_) | ((with_reducible refine ik_callb ?_); refine wo_op rfl (op_append rfl rfl (append_own_eq (M := mz G) (st := 85) (xt := 85) (m := 1) Tryz.underlying85 Tryz.underlying85 rfl zs133 zb133 zz133 rfl (Sl.ofAt at_A rfl (Nat.le_refl _)) rfl (b := e) (c := (l.take k).flatMap En.cells) at_A (by rw [En.flat, List.length_take]; omega) (by omega) (by omega))) rfl rfl ?_) | ((with_reducible refine ik_bin ?_); first | refine wo_op rfl (op_lss rfl rfl) rfl rfl ?_ | refine wo_op rfl (op_add' rfl rfl (w64 (by omega) (by omega))) rfl rfl ?_) | ((with_reducible refine ik_alloc ?_); refine wo_op rfl (op_alloc zz184 zs184 rfl rfl rfl) rfl rfl ?_) | ((with_reducible refine ik_store ?_); refine wo_op0 rfl (op_stAgg rfl rfl at_A zs184 rfl rfl rfl rfl) rfl ?_) | ((with_reducible refine ik_buildSlice ?_); refine wo_op rfl (op_buildSl rfl Tryz.underlying85 zs133 zz133 rfl rfl) rfl rfl ?_)) | with_reducible refine sq_norm ?_ | with_reducible refine wc_seq ?_ | with_reducible refine wc_region ?_ | with_reducible refine wc_skip ?_ | with_reducible refine wc_block ?_ | with_reducible refine bq_norm ?_ | (refine wc_if rfl (fun hb => ?_) (fun hb => dead_A hb); (try simp only [decide_eq_true_eq, decide_eq_false_iff_not, Bool.not_eq_true', Bool.not_eq_false', Int.not_lt, Int.not_le, Decidable.not_not, not_true_eq_false, not_false_eq_true, beq_self_eq_true, reduceCtorEq] at hb)))
      exact lq_norm (k + 1, .slice (some ⟨_, 0, some 0⟩) (k + 1) (k + 1)) (by simp only; omega) (within_lk ⟨rfl, rfl, rfl, rfl, trivial⟩) ⟨⟨wf_A, gr_A⟩, by simp only; omega, .inr ⟨_, by simp only [H.nx_push, H.nx_set, H.nx_bump, H.nx_kill]; omega, rfl, by simp only; rw [e1]; exact at_A⟩⟩
  · have hkn : k = n := by omega
    subst hkn
    rw [show l.take k = l by rw [List.take_of_length_le (by omega)]] at hv
    repeat' (first | with_reducible refine wo_nil ?_ | ((with_reducible refine wo_any ?_); first | ((with_reducible refine ik_move ?_); refine wo_op rfl (op_move rfl) rfl rfl ?_) | ((with_reducible refine ik_assign ?_); refine wo_op rfl (op_assign rfl) rfl rfl ?_) | ((with_reducible refine ik_bin ?_); refine wo_op rfl (op_lss rfl rfl) rfl rfl ?_)) | with_reducible refine sq_norm ?_ | with_reducible refine wc_seq ?_ | with_reducible refine wc_region ?_ | with_reducible refine wc_ret ?_ | with_reducible refine wc_exit ?_ | with_reducible refine sq_exit ?_ | with_reducible refine lq_exit ?_ | refine bq_eq rfl ?_ | (refine wc_if rfl (fun hb => ?_) (fun hb => ?_) <;> (try simp only [decide_eq_true_eq, decide_eq_false_iff_not, Bool.not_eq_true', Bool.not_eq_false', Int.not_lt, Int.not_le, Decidable.not_not, not_true_eq_false, not_false_eq_true, beq_self_eq_true, reduceCtorEq] at hb) <;> (try (exfalso; omega))))
    refine rq1 rfl ⟨?_, gr_A⟩
    rcases hv with ⟨rfl, rfl⟩ | ⟨e, hb, rfl, hat⟩
    · have htn : l = [] := by simpa using hl
      subst htn
      exact .nil
    · exact Sl.ofAt hat (by rw [En.flat, hl]) (Nat.le_refl _)

def shoE (l : List En) : Bool := l.all (fun e => decide (e.c.size ≤ 40)) && decide (l.length ≤ 10 ∨ l.length = 65)
set_option maxHeartbeats 4000000 in
theorem c38 {v : Value} {n : Nat} {l : List En} (s : Sl G h 3 v n (l.flatMap En.cells)) (hl : l.length = n) (hn : n ≤ maxLen) (hw : Wf h) : Cf (mz G) (.func (.func 38) #[] #[]) [v] h fun r h' => r = .bool (shoE l) ∧ Grow h h' := by
  obtain ⟨a, c, rfl⟩ := s.form
  have hml : maxLen = 9223372036854775807 := rfl
  refine cf_enter0 25 [.tmp 2] Tryz.func38 rfl rfl rfl rfl ?_
  repeat' (first | with_reducible refine wo_nil ?_ | ((with_reducible refine wo_any ?_); ((with_reducible refine ik_assign ?_); refine wo_op rfl (op_assign rfl) rfl rfl ?_)) | with_reducible refine sq_norm ?_ | with_reducible refine wc_seq ?_ | with_reducible refine wc_region ?_ | with_reducible refine wc_block ?_)
  refine wc_loop (fun i => n - i) (fun i : Nat => [(0, .slice a n c), (3, .int .i64 (i : Nat))]) (fun i h' => (Wf h' ∧ Grow h h') ∧ i ≤ n ∧ (l.take i).all (fun e => decide (e.c.size ≤ 40)) = true) 0 (within_lk ⟨rfl, rfl, trivial⟩) ⟨⟨wf_A, gr_A⟩, Nat.zero_le _, rfl⟩ ?_
  rintro i h1 ⟨⟨w1, g1⟩, hi, hp⟩
  have n1 := g1.nx
  by_cases hlt : i < n
  · obtain ⟨id, i1, i3⟩ := rl_at En.len ⟨0, 0, .empty⟩ (s.grow g1) hl Tryz.underlying83 zs184 (i := (i : Int)) hlt rfl
    have nx : (l.take (i + 1)).all (fun e => decide (e.c.size ≤ 40)) = ((l.take i).all (fun e => decide (e.c.size ≤ 40)) && decide ((l.getD i ⟨0, 0, .empty⟩).c.size ≤ 40)) := by
      rw [take_next ⟨0, 0, .empty⟩ (by omega), List.all_append]; simp
    have hm : l.getD i ⟨0, 0, .empty⟩ ∈ l := by simp [List.getD, List.getElem?_eq_getElem (show i < l.length by omega)]
    rw [hp, Bool.true_and] at nx
    obtain ⟨x0, hx⟩ : ∃ x, l.getD i ⟨0, 0, .empty⟩ = x := ⟨_, rfl⟩
    rw [hx] at i3 nx hm
    obtain ⟨f, t, cz⟩ := x0
    have ic := fun (h' : H) (g' : Grow h1 h') => (show acell G h' (aadd id 2) = some (.string cz) from (i3 h' g').get 2 _ rfl)
    dsimp only at nx
    by_cases h40 : cz.size ≤ 40
    · rw [decide_eq_true h40] at nx
      repeat' (first | with_reducible refine wo_nil ?_ | ((with_reducible refine wo_any ?_); first | ((with_reducible refine ik_move ?_); refine wo_op rfl (op_move rfl) rfl rfl ?_) | ((with_reducible refine ik_assign ?_); refine wo_op rfl (op_assign rfl) rfl rfl ?_) | ((with_reducible refine ik_indexAddr ?_); refine wo_op rfl (op_indexAddr rfl rfl i1) rfl rfl ?_) | ((with_reducible refine ik_load ?_); refine wo_op rfl (op_ldCell rfl Tryz.underlying9 rfl (ic _ gr_A)) rfl rfl ?_) | ((with_reducible refine ik_callb ?_); first | refine wo_op rfl (op_lenSl rfl Tryz.underlying83) rfl rfl ?_ | refine wo_op rfl (op_lenStr rfl Tryz.underlying9) rfl rfl ?_) | ((with_reducible refine ik_bin ?_); first | refine wo_op rfl (op_lss rfl rfl) rfl rfl ?_ | refine wo_op rfl (op_gtr rfl rfl) rfl rfl ?_ | refine wo_op rfl (op_add' rfl rfl (w64 (by omega) (by omega))) rfl rfl ?_) | ((with_reducible refine ik_fieldAddr ?_); refine wo_op rfl (op_fieldAddr (o := 2) rfl Tryz.underlying184 rfl zs9 rfl) rfl rfl ?_)) | with_reducible refine sq_norm ?_ | with_reducible refine wc_seq ?_ | with_reducible refine wc_region ?_ | with_reducible refine wc_skip ?_ | with_reducible refine wc_block ?_ | with_reducible refine bq_norm ?_ | (refine wc_if rfl (fun hb => dead_A hb) (fun hb => ?_); (try simp only [decide_eq_true_eq, decide_eq_false_iff_not, Bool.not_eq_true', Bool.not_eq_false', Int.not_lt, Int.not_le, Decidable.not_not, not_true_eq_false, not_false_eq_true, beq_self_eq_true, reduceCtorEq] at hb)) | (refine wc_if rfl (fun hb => ?_) (fun hb => dead_A hb); (try simp only [decide_eq_true_eq, decide_eq_false_iff_not, Bool.not_eq_true', Bool.not_eq_false', Int.not_lt, Int.not_le, Decidable.not_not, not_true_eq_false, not_false_eq_true, beq_self_eq_true, reduceCtorEq] at hb)))
      exact lq_norm (i + 1) (by omega) (within_lk ⟨rfl, rfl, trivial⟩) ⟨⟨wf_A, gr_A⟩, by omega, nx⟩
    · have hf : shoE l = false := by
        unfold shoE
        have : l.all (fun e => decide (e.c.size ≤ 40)) = false := by
          rw [← Bool.not_eq_true, List.all_eq_true]
          exact fun q => h40 (of_decide_eq_true (q _ hm))
        rw [this, Bool.false_and]
      rw [hf]
      repeat' (first | with_reducible refine wo_nil ?_ | ((with_reducible refine wo_any ?_); first | ((with_reducible refine ik_move ?_); refine wo_op rfl (op_move rfl) rfl rfl ?_) | ((with_reducible refine ik_assign ?_); refine wo_op rfl (op_assign rfl) rfl rfl ?_) | ((with_reducible refine ik_indexAddr ?_); refine wo_op rfl (op_indexAddr rfl rfl i1) rfl rfl ?_) | ((with_reducible refine ik_load ?_); refine wo_op rfl (op_ldCell rfl Tryz.underlying9 rfl (ic _ gr_A)) rfl rfl ?_) | ((with_reducible refine ik_callb ?_); first | refine wo_op rfl (op_lenSl rfl Tryz.underlying83) rfl rfl ?_ | refine wo_op rfl (op_lenStr rfl Tryz.underlying9) rfl rfl ?_) | ((with_reducible refine ik_bin ?_); first | refine wo_op rfl (op_lss rfl rfl) rfl rfl ?_ | refine wo_op rfl (op_gtr rfl rfl) rfl rfl ?_) | ((with_reducible refine ik_fieldAddr ?_); refine wo_op rfl (op_fieldAddr (o := 2) rfl Tryz.underlying184 rfl zs9 rfl) rfl rfl ?_)) | with_reducible refine sq_norm ?_ | with_reducible refine wc_seq ?_ | with_reducible refine wc_region ?_ | with_reducible refine wc_skip ?_ | with_reducible refine wc_ret ?_ | with_reducible refine wc_block ?_ | with_reducible refine bq_ret ?_ | with_reducible refine sq_ret ?_ | with_reducible refine lq_ret ?_ | (refine wc_if rfl (fun hb => ?_) (fun hb => dead_A hb); (try simp only [decide_eq_true_eq, decide_eq_false_iff_not, Bool.not_eq_true', Bool.not_eq_false', Int.not_lt, Int.not_le, Decidable.not_not, not_true_eq_false, not_false_eq_true, beq_self_eq_true, reduceCtorEq] at hb)))
      exact rq1 rfl ⟨rfl, gr_A⟩
  · rw [List.take_of_length_le (by omega)] at hp
    have hf : shoE l = decide (n ≤ 10 ∨ n = 65) := by unfold shoE; rw [hp, Bool.true_and, hl]
    rw [hf]
    repeat' (first | with_reducible refine wo_nil ?_ | ((with_reducible refine wo_any ?_); first | ((with_reducible refine ik_move ?_); refine wo_op rfl (op_move rfl) rfl rfl ?_) | ((with_reducible refine ik_assign ?_); refine wo_op rfl (op_assign rfl) rfl rfl ?_) | ((with_reducible refine ik_callb ?_); refine wo_op rfl (op_lenSl rfl Tryz.underlying83) rfl rfl ?_) | ((with_reducible refine ik_bin ?_); first | refine wo_op rfl (op_lss rfl rfl) rfl rfl ?_ | refine wo_op rfl (op_leq rfl rfl) rfl rfl ?_) | ((with_reducible refine ik_pick ?_); first | refine wo_op rfl (op_pickt rfl rfl) rfl rfl ?_ | refine wo_op rfl (op_pickf rfl rfl) rfl rfl ?_) | ((with_reducible refine ik_g ?_); first | refine wo_gskip rfl rfl rfl rfl rfl rfl ?_ | ((with_reducible refine ig_move ?_); refine wo_grun rfl rfl rfl (op_move rfl) rfl rfl ?_) | ((with_reducible refine ig_callb ?_); refine wo_grun rfl rfl rfl (op_lenSl rfl Tryz.underlying83) rfl rfl ?_) | ((with_reducible refine ig_bin ?_); refine wo_grun rfl rfl rfl (op_eql rfl rfl) rfl rfl ?_) | (refine wo_gsplit rfl rfl rfl (fun hb => ?_) (fun hb => ?_) <;> (try simp only [decide_eq_true_eq, decide_eq_false_iff_not, Bool.not_eq_true', Bool.not_eq_false', Int.not_lt, Int.not_le, Decidable.not_not, not_true_eq_false, not_false_eq_true, beq_self_eq_true, reduceCtorEq] at hb) <;> (try (exfalso; omega))))) | with_reducible refine sq_norm ?_ | with_reducible refine wc_seq ?_ | with_reducible refine wc_region ?_ | with_reducible refine wc_ret ?_ | with_reducible refine wc_exit ?_ | with_reducible refine sq_exit ?_ | with_reducible refine lq_exit ?_ | refine bq_eq rfl ?_ | (refine wc_if rfl (fun hb => ?_) (fun hb => ?_) <;> (try simp only [decide_eq_true_eq, decide_eq_false_iff_not, Bool.not_eq_true', Bool.not_eq_false', Int.not_lt, Int.not_le, Decidable.not_not, not_true_eq_false, not_false_eq_true, beq_self_eq_true, reduceCtorEq] at hb) <;> (try (exfalso; omega))))
    all_goals refine rq1 rfl ⟨?_, gr_A⟩
    all_goals first
      | (congr 1; exact (decide_eq_true (by omega)).symm)
      | (congr 1; exact (decide_eq_false (by omega)).symm)
      | (congr 1; rw [decide_eq_decide]; omega)
set_option maxHeartbeats 8000000 in
theorem c46 {v : Value} {n : Nat} {l : List En} (s : Sl G h 3 v n (l.flatMap En.cells)) (hl : l.length = n) (hn : n < 1000000) (hw : Wf h) : Cf (mz G) (.func (.func 46) #[] #[]) [v] h fun r h' => r = .tuple #[.agg ⟨[.int .i64 (dtN l), .int .i64 (dtD l)]⟩, .int .i64 (dtE l)] ∧ Grow h h' := by
  have q43 := fun (h' : H) (g : Grow h h') (w' : Wf h') => c43 (s.grow g) hl hn w'
  by_cases he : ensE l = 0
  · obtain ⟨h64, hv⟩ := ens_ok he
    rw [he] at q43
    have q45 := fun (h' : H) (g : Grow h h') (w' : Wf h') => c45 (s.grow g) hl (by omega) hv w'
    obtain ⟨z0, z1, z2, z3, z4, z5, hz⟩ := six (hrK_len (l := l) n)
    by_cases hn0 : n = 0
    · have e0 : dtE l = 12 := by unfold dtE; rw [if_neg (by simpa using he), if_pos (by omega)]
      have e1 : dtN l = 0 := by unfold dtN; rw [if_pos (by rw [e0]; decide)]
      have e2 : dtD l = 0 := by unfold dtD; rw [if_pos (by rw [e0]; decide)]
      rw [e0, e1, e2]
      subst hn0
      clear hz he hv e0 e1 e2 q45
      obtain ⟨a, c, rfl⟩ := s.form
      refine cf_enter0 39 [.cell 2 92, .tmp 3] Tryz.func46 rfl rfl rfl rfl ?_
      repeat' (first | with_reducible refine wo_nil ?_ | ((with_reducible refine wo_any ?_); first | ((with_reducible refine ik_move ?_); refine wo_op rfl (op_move rfl) rfl rfl ?_) | ((with_reducible refine ik_assign ?_); refine wo_op rfl (op_assign rfl) rfl rfl ?_) | ((with_reducible refine ik_alloc ?_); refine wo_op rfl (op_alloc zz92 zs92 rfl rfl rfl) rfl rfl ?_) | ((with_reducible refine ik_bin ?_); first | refine wo_op rfl (op_neq rfl rfl) rfl rfl ?_ | refine wo_op rfl (op_eql rfl rfl) rfl rfl ?_) | ((with_reducible refine ik_build ?_); refine wo_op rfl (op_buildT rfl zz92 zp92 rfl rfl) rfl rfl ?_) | ((with_reducible refine ik_store ?_); refine wo_op0 rfl (op_stAgg rfl rfl at_A zs92 rfl rfl rfl rfl) rfl ?_) | ((with_reducible refine ik_callb ?_); refine wo_op rfl (op_lenSl rfl Tryz.underlying83) rfl rfl ?_) | ((with_reducible refine ik_callv ?_); (refine wo_call rfl rfl rfl rfl (q43 _ gr_A wf_A) rfl rfl ?_; rintro _ _ ⟨rfl, hq⟩; all_goals ((try (have hqn := hq.nx)); (try simp only [H.nx_push, H.nx_set, H.nx_bump] at hqn))))) | with_reducible refine sq_norm ?_ | with_reducible refine wc_seq ?_ | with_reducible refine wc_region ?_ | with_reducible refine wc_skip ?_ | with_reducible refine wc_ret ?_ | with_reducible refine sq_ret ?_ | refine wc_ift rfl ?_ | refine wc_iff rfl ?_)
      exact rqc2 rfl (ldAgg at_A Tryz.underlying92 rfl zs92 rfl rfl) rfl ⟨rfl, gr_A⟩
    · have e0 : dtE l = 0 := by unfold dtE; rw [if_neg (by simpa using he), if_neg (by omega)]
      have e1 : dtN l = lowN (dwS (hrK l n)) (dwA (hrK l n)) := by unfold dtN; rw [if_neg (by rw [e0]; decide), hl]
      have e2 : dtD l = lowD (dwS (hrK l n)) (dwA (hrK l n)) := by unfold dtD; rw [if_neg (by rw [e0]; decide), hl]
      have tg := tot_ge hv n (by omega) hz
      obtain ⟨⟨p0, q0⟩, ⟨p1, q1⟩, ⟨p2, q2⟩, ⟨p3, q3⟩, ⟨p4, q4⟩, p5, q5⟩ := six_bd hv (by omega) hz
      rw [hz] at q45 e1 e2
      have d1 : dwS [z0, z1, z2, z3, z4, z5] = z2 + z3 + z4 + z5 := by unfold dwS; simp [List.getD]
      have d2 : dwA [z0, z1, z2, z3, z4, z5] = z2 + z3 + z4 + z5 + z0 + z1 := by unfold dwA; rw [d1]; simp only [List.getD, List.getElem?_cons_zero, List.getElem?_cons_succ, Option.getD_some]; omega
      rw [d1, d2] at e1 e2
      rw [e0, e1, e2]
      have q113 := fun (h' : H) (w' : Wf h') => c113 (G := G) (h := h') (a := z2 + z3 + z4 + z5) (b := z2 + z3 + z4 + z5 + z0 + z1) (by omega) (by omega) (by omega) w'
      dsimp only [List.map] at q45
      clear hz he hv e0 e1 e2 d1 d2
      obtain ⟨a, c, rfl⟩ := s.form
      refine cf_enter0 39 [.cell 2 92, .tmp 3] Tryz.func46 rfl rfl rfl rfl ?_
      refine wc_mid (ι := Unit) (fun _ => [(0, .slice a n c), (2, .pointer (some ⟨h.nx, 0, some 0⟩))]) (fun _ h' => (Wf h' ∧ Grow h h') ∧ At h' h.nx (.cells [.int .i64 0, .int .i64 0] 92 2 false)) ?_ ?_
      · repeat' (first | with_reducible refine wo_nil ?_ | ((with_reducible refine wo_any ?_); first | ((with_reducible refine ik_assign ?_); refine wo_op rfl (op_assign rfl) rfl rfl ?_) | ((with_reducible refine ik_alloc ?_); refine wo_op rfl (op_alloc zz92 zs92 rfl rfl rfl) rfl rfl ?_)) | with_reducible refine wc_region ?_)
        exact ⟨rfl, (), within_lk ⟨rfl, rfl, trivial⟩, ⟨wf_A, gr_A⟩, at_A⟩
      rintro _ h1 ⟨⟨w1, g1⟩, a2⟩
      refine wc_mid (ι := Unit) (fun _ => [(0, .slice a n c), (2, .pointer (some ⟨h.nx, 0, some 0⟩)), (4, .int .i64 0)]) (fun _ h' => Wf h' ∧ Grow h1 h') ?_ ?_
      · repeat' (first | with_reducible refine wo_nil ?_ | ((with_reducible refine wo_any ?_); first | ((with_reducible refine ik_move ?_); refine wo_op rfl (op_move rfl) rfl rfl ?_) | ((with_reducible refine ik_assign ?_); refine wo_op rfl (op_assign rfl) rfl rfl ?_) | ((with_reducible refine ik_bin ?_); refine wo_op rfl (op_neq rfl rfl) rfl rfl ?_) | ((with_reducible refine ik_callv ?_); (refine wo_call rfl rfl rfl rfl (q43 _ (g1.trans gr_A) wf_A) rfl rfl ?_; rintro _ _ ⟨rfl, hq⟩; all_goals ((try (have hqn := hq.nx)); (try simp only [H.nx_push, H.nx_set, H.nx_bump] at hqn))))) | with_reducible refine sq_norm ?_ | with_reducible refine wc_seq ?_ | with_reducible refine wc_region ?_ | with_reducible refine wc_skip ?_ | refine wc_iff rfl ?_)
        exact ⟨rfl, (), within_lk ⟨rfl, rfl, rfl, trivial⟩, wf_A, gr_A⟩
      clear w1 q43
      rintro _ h2 ⟨w1, g2⟩
      refine wc_mid (ι := Unit) (fun _ => [(0, .slice a n c), (2, .pointer (some ⟨h.nx, 0, some 0⟩))]) (fun _ h' => h2 = h') ?_ ?_
      · repeat' (first | with_reducible refine wo_nil ?_ | ((with_reducible refine wo_any ?_); first | ((with_reducible refine ik_move ?_); refine wo_op rfl (op_move rfl) rfl rfl ?_) | ((with_reducible refine ik_bin ?_); refine wo_op rfl (op_eql rfl rfl) rfl rfl ?_) | ((with_reducible refine ik_callb ?_); refine wo_op rfl (op_lenSl rfl Tryz.underlying83) rfl rfl ?_)) | with_reducible refine sq_norm ?_ | with_reducible refine wc_seq ?_ | with_reducible refine wc_region ?_ | with_reducible refine wc_skip ?_ | (refine wc_if rfl (fun hb => dead_A hb) (fun hb => ?_); (try simp only [decide_eq_true_eq, decide_eq_false_iff_not, Bool.not_eq_true', Bool.not_eq_false', Int.not_lt, Int.not_le, Decidable.not_not, not_true_eq_false, not_false_eq_true, beq_self_eq_true, reduceCtorEq] at hb)))
        exact ⟨rfl, (), within_lk ⟨rfl, rfl, trivial⟩, rfl⟩
      rintro _ h1' e
      subst e
      have a2 := a2.grow g2
      have g3 := g1.trans g2
      have l2 := a2.lt
      clear g1 g2
      refine wc_mid (ι := Nat) (fun b5 => [(2, .pointer (some ⟨h.nx, 0, some 0⟩)), (5, .pointer (some ⟨b5, 0, some 0⟩))]) (fun b5 h' => (Wf h' ∧ Grow h2 h') ∧ h2.nx ≤ b5 ∧ At h' b5 (.cells [.int .i64 z0, .int .i64 z1, .int .i64 z2, .int .i64 z3, .int .i64 z4, .int .i64 z5] 22 6 false)) ?_ ?_
      · repeat' (first | with_reducible refine wo_nil ?_ | ((with_reducible refine wo_any ?_); first | ((with_reducible refine ik_move ?_); refine wo_op rfl (op_move rfl) rfl rfl ?_) | ((with_reducible refine ik_alloc ?_); refine wo_op rfl (op_alloc zz22 zs22 rfl rfl rfl) rfl rfl ?_) | ((with_reducible refine ik_store ?_); refine wo_op0 rfl (op_stAgg rfl rfl at_A zs22 rfl rfl rfl rfl) rfl ?_) | ((with_reducible refine ik_callv ?_); (refine wo_call rfl rfl rfl rfl (q45 _ (g3.trans gr_A) wf_A) rfl rfl ?_; rintro _ _ ⟨rfl, hq⟩; all_goals ((try (have hqn := hq.nx)); (try simp only [H.nx_push, H.nx_set, H.nx_bump] at hqn))))) | with_reducible refine wc_region ?_)
        refine ⟨rfl, _, within_lk ⟨rfl, rfl, trivial⟩, ⟨wf_A, gr_A⟩, ?_, at_A⟩
        omega
      clear w1 q45
      rintro b5 h4 ⟨⟨w1, g4⟩, hge, at5⟩
      have a2 := a2.grow g4
      have g5 := g3.trans g4
      have n5 := g4.nx
      have l5 := at5.lt
      repeat' (first | with_reducible refine wo_nil ?_ | ((with_reducible refine wo_any ?_); first | ((with_reducible refine ik_move ?_); refine wo_op rfl (op_move rfl) rfl rfl ?_) | ((with_reducible refine ik_assign ?_); refine wo_op rfl (op_assign rfl) rfl rfl ?_) | ((with_reducible refine ik_load ?_); first | refine wo_op rfl (op_ldAt (b := b5) (off := 0) rfl at_A Tryz.underlying3 rfl rfl) rfl rfl ?_ | refine wo_op rfl (op_ldAt (b := b5) (off := 1) rfl at_A Tryz.underlying3 rfl rfl) rfl rfl ?_ | refine wo_op rfl (op_ldAt (b := b5) (off := 2) rfl at_A Tryz.underlying3 rfl rfl) rfl rfl ?_ | refine wo_op rfl (op_ldAt (b := b5) (off := 3) rfl at_A Tryz.underlying3 rfl rfl) rfl rfl ?_ | refine wo_op rfl (op_ldAt (b := b5) (off := 4) rfl at_A Tryz.underlying3 rfl rfl) rfl rfl ?_ | refine wo_op rfl (op_ldAt (b := b5) (off := 5) rfl at_A Tryz.underlying3 rfl rfl) rfl rfl ?_) | ((with_reducible refine ik_bin ?_); refine wo_op rfl (op_add' rfl rfl (w64 (by omega) (by omega))) rfl rfl ?_) | ((with_reducible refine ik_store ?_); refine wo_op0 rfl (op_stAgg rfl rfl at_A zs92 rfl rfl rfl rfl) rfl ?_) | ((with_reducible refine ik_indexAddr ?_); refine wo_op rfl (op_idxArr' rfl rfl Tryz.underlying22 zs3 (by omega) (by omega)) rfl rfl ?_) | ((with_reducible refine ik_callv ?_); (refine wo_call rfl rfl rfl rfl (q113 _ wf_A) rfl rfl ?_; rintro _ _ ⟨rfl, hq⟩; all_goals ((try (have hqn := hq.nx)); (try simp only [H.nx_push, H.nx_set, H.nx_bump] at hqn))))) | with_reducible refine sq_norm ?_ | with_reducible refine wc_seq ?_ | with_reducible refine wc_region ?_ | with_reducible refine wc_ret ?_)
      exact rqc2 rfl (ldAgg at_A Tryz.underlying92 rfl zs92 rfl rfl) rfl ⟨rfl, gr_A⟩
  · have e0 : dtE l = ensE l := by unfold dtE; rw [if_pos he]
    have e1 : dtN l = 0 := by unfold dtN; rw [if_pos (by rw [e0]; exact he)]
    have e2 : dtD l = 0 := by unfold dtD; rw [if_pos (by rw [e0]; exact he)]
    rw [e0, e1, e2]
    clear e0 e1 e2
    generalize ensE l = E at q43 he ⊢
    obtain ⟨a, c, rfl⟩ := s.form
    refine cf_enter0 39 [.cell 2 92, .tmp 3] Tryz.func46 rfl rfl rfl rfl ?_
    repeat' (first | with_reducible refine wo_nil ?_ | ((with_reducible refine wo_any ?_); first | ((with_reducible refine ik_move ?_); refine wo_op rfl (op_move rfl) rfl rfl ?_) | ((with_reducible refine ik_assign ?_); refine wo_op rfl (op_assign rfl) rfl rfl ?_) | ((with_reducible refine ik_alloc ?_); refine wo_op rfl (op_alloc zz92 zs92 rfl rfl rfl) rfl rfl ?_) | ((with_reducible refine ik_bin ?_); refine wo_op rfl (op_neq rfl rfl) rfl rfl ?_) | ((with_reducible refine ik_build ?_); refine wo_op rfl (op_buildT rfl zz92 zp92 rfl rfl) rfl rfl ?_) | ((with_reducible refine ik_store ?_); refine wo_op0 rfl (op_stAgg rfl rfl at_A zs92 rfl rfl rfl rfl) rfl ?_) | ((with_reducible refine ik_callv ?_); (refine wo_call rfl rfl rfl rfl (q43 _ gr_A wf_A) rfl rfl ?_; rintro _ _ ⟨rfl, hq⟩; all_goals ((try (have hqn := hq.nx)); (try simp only [H.nx_push, H.nx_set, H.nx_bump] at hqn))))) | with_reducible refine sq_norm ?_ | with_reducible refine wc_seq ?_ | with_reducible refine wc_region ?_ | with_reducible refine wc_ret ?_ | with_reducible refine sq_ret ?_ | (refine wc_if rfl (fun hb => ?_) (fun hb => dead_A hb); (try simp only [decide_eq_true_eq, decide_eq_false_iff_not, Bool.not_eq_true', Bool.not_eq_false', Int.not_lt, Int.not_le, Decidable.not_not, not_true_eq_false, not_false_eq_true, beq_self_eq_true, reduceCtorEq] at hb)))
    exact rqc2 rfl (ldAgg at_A Tryz.underlying92 rfl zs92 rfl rfl) rfl ⟨rfl, gr_A⟩
end Go.Proofs.YtlioomhcdlicmaaGreatDoor
