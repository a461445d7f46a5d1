/- The law SurveyMore: levels, and milder watches. -/
import Derived.Test.YtlioomhcdlicmaaGreatDoorC8
import Derived.Test.YtlioomhcdlicmaaGreatDoorL0
set_option linter.all false
/- The law SurveyMore: levels. -/
namespace Go.Proofs.YtlioomhcdlicmaaGreatDoor
open Go Go.Ab Go.Fl
attribute [local irreducible] SeqQ BlkQ LpQ RetQ Wc Wo WD WX Op1 Op1q Op1a Cf Cl From
attribute [local irreducible] Ieee.Format.order Ieee.Format.read Ieee.Format.nearest Ieee.Format.write Ieee.Format.mul Ieee.Format.div Ieee.Format.sqrt Ieee.Datum.order Ieee.Datum.integral K U rngE errN ptE firstNZ vesE watE sgE sgsE allE hitB sqD insB qsL lvl rn rl
set_option maxRecDepth 10000
variable {G : Base} {h : H}

attribute [local irreducible] fl silN insN levN inL leL
theorem sl_has {es n : Nat} {v : Value} {l : List Value} {a : Option Addr} {c : Nat} (s : Sl G h es v n l) (hv : v = .slice a n c) (hn : 0 < n) : ∃ ad, a = some ad := by
  cases s with
  | nil => omega
  | end' => omega
  | mem ad => cases hv; exact ⟨_, rfl⟩
set_option maxHeartbeats 8000000 in
theorem c73 {x y u v r sp lo cl so : Int} {T : Nat} {a : Option Addr} {n c : Nat} {l : List Sg} (s : Sl G h 3 (.slice a n c) n (l.flatMap Sg.cells)) (hl : l.length = n) (hn : n < 1000000) (he : allE x y u v (T : Nat) r sp lo cl so l = 0) (hw : Wf h) :
    Cf (mz G) (.func (.func 73) #[] #[]) [.agg ⟨[.int .i64 x, .int .i64 y, .int .i64 u, .int .i64 v, .int .i64 (T : Nat)]⟩, .agg ⟨[.int .i64 r, .int .i64 sp, .int .i64 lo, .int .i64 cl, .int .i64 so]⟩, .slice a n c] h fun r' h' => (∃ ad c', r' = .slice (some ad) T c' ∧ Sl G h' 1 (.slice (some ad) T c') T ((leL cl so (insB x y u v r sp lo l) T).map (.int .i64))) ∧ Grow h h' := by
  have q18 := fun (h' : H) (g : Grow h h') (w' : Wf h') => cf_formW (c18 (s.grow g) hl hn w')
  have q19 := fun (h' : H) (w1 : Value) (s1 : Sl G h' 3 w1 n (l.flatMap Sg.cells)) (w' : Wf h') => tup_form (c19 (x := x) (y := y) (u := u) (v := v) (t := (T : Nat)) (r := r) (sp := sp) (lo := lo) (cl := cl) (so := so) s1 hl hn w')
  have hN2 : levN x y u v (T : Nat) r sp lo cl so l = leL cl so (insB x y u v r sp lo l) T := by unfold levN; rw [if_pos he]; simp
  obtain ⟨_, _, ⟨bt, bT⟩, _⟩ := all_ok he
  rw [hN2, leL_len, he] at q19
  have hT : 0 < T := by omega
  clear hN2 he
  obtain ⟨L, hL⟩ : ∃ L, leL cl so (insB x y u v r sp lo l) T = L := ⟨_, rfl⟩
  rw [hL] at q19 ⊢
  clear hL
  refine cf_enter0 27 [.tmp 6] Tryz.func73 rfl rfl rfl rfl ?_
  repeat' (first | with_reducible refine wo_nil ?_ | ((with_reducible refine wo_any ?_); first | ((with_reducible refine ik_move ?_); refine wo_op rfl (op_move rfl) rfl rfl ?_) | ((with_reducible refine ik_assign ?_); refine wo_op rfl (op_assign rfl) rfl rfl ?_) | ((with_reducible refine ik_box ?_); refine wo_op rfl (op_boxAgg rfl zs37 rfl) rfl rfl ?_) | ((with_reducible refine ik_bin ?_); refine wo_op rfl (op_neq rfl rfl) rfl rfl ?_) | ((with_reducible refine ik_pick ?_); refine wo_op rfl (op_pickf rfl rfl) rfl rfl ?_) | ((with_reducible refine ik_g ?_); first | ((with_reducible refine ig_move ?_); refine wo_grun rfl rfl rfl (op_move rfl) rfl rfl ?_) | ((with_reducible refine ig_load ?_); refine wo_grun rfl rfl rfl (op_ldAt rfl at_A Tryz.underlying3 rfl rfl) rfl rfl ?_) | ((with_reducible refine ig_bin ?_); refine wo_grun rfl rfl rfl (op_neq rfl rfl) rfl rfl ?_) | ((with_reducible refine ig_callb ?_); refine wo_grun rfl rfl rfl (op_lenSl rfl Tryz.underlying49) rfl rfl ?_) | ((with_reducible refine ig_fieldAddr ?_); refine wo_grun rfl rfl rfl (op_fieldAddr (o := 4) rfl Tryz.underlying37 rfl zs3 rfl) rfl rfl ?_))) | ((with_reducible refine xk_any ?_); ((with_reducible refine xk_as0 ?_); first | ((with_reducible refine xk_move ?_); refine wx_q (wt_none rfl) rfl rfl (op_q rfl (op_move rfl)) rfl rfl rfl ?_) | ((with_reducible refine xk_assign ?_); refine wx_q (wt_none rfl) rfl rfl (op_q rfl (op_assign rfl)) rfl rfl rfl ?_) | ((with_reducible refine xk_load ?_); first | refine wx_h0 (wt_none rfl) rfl (op_q rfl (op_ldAgg rfl at_A Tryz.underlying37 rfl zs37 rfl rfl)) rfl rfl rfl ?_ | refine wx_h0 (wt_none rfl) rfl (op_q rfl (op_ldAgg rfl at_A Tryz.underlying39 rfl zs39 rfl rfl)) rfl rfl rfl ?_) | ((with_reducible refine xk_extract ?_); refine wx_q (wt_none rfl) rfl rfl (op_q rfl (op_extract rfl rfl)) rfl rfl rfl ?_) | ((with_reducible refine xk_callv ?_); first | (refine wx_call0 (wt_none rfl) rfl rfl rfl rfl (q18 _ gr_A wf_A) rfl rfl ?_; rintro _ _ ⟨⟨a1, c1, rfl, s1⟩, hq⟩; all_goals ((try (have hqn := hq.nx)); (try simp only [H.nx_push, H.nx_set, H.nx_bump] at hqn))) | (refine wx_call0 (wt_none rfl) rfl rfl rfl rfl (q19 _ _ (s1.grow gr_A) wf_A) rfl rfl ?_; rintro _ _ ⟨⟨a3, c3, rfl, s3⟩, hq⟩; all_goals ((try (have hqn := hq.nx)); (try simp only [H.nx_push, H.nx_set, H.nx_bump] at hqn)))) | with_reducible refine wx_nil0 ?_ ?_)) | with_reducible exact obl_nil | with_reducible refine obl_cons ?_ ?_ | ((with_reducible refine ik_obs ?_); first | exact obs_nil | refine obs_skip rfl ?_ | refine obs_chkn rfl rfl (op_q rfl (op_ldAgg rfl at_A Tryz.underlying37 rfl zs37 (by rfl) rfl)) ?_ | refine obs_chkn rfl rfl (op_q rfl (op_ldAgg rfl at_A Tryz.underlying39 rfl zs39 (by rfl) rfl)) ?_) | with_reducible refine sq_norm ?_ | with_reducible refine wc_seq ?_ | with_reducible refine wc_region ?_ | with_reducible refine wc_skip ?_ | with_reducible refine wc_ret ?_ | (refine wc_if rfl (fun hb => (of_decide_eq_true hb rfl).elim) (fun hb => ?_); (try simp only [decide_eq_true_eq, decide_eq_false_iff_not, Bool.not_eq_true', Bool.not_eq_false', Int.not_lt, Int.not_le, Decidable.not_not, not_true_eq_false, not_false_eq_true, beq_self_eq_true, reduceCtorEq] at hb)) | refine wc_drawB (id := 1) 10 [0, 0, 0, 4, 15, 31, 63, 63, 127, 511] [0, 1, 2, 3, 4, 5, 6, 7, 8, 9] (by kernel_rfl) (by kernel_rfl) rfl rfl ?_)
  obtain ⟨ad, rfl⟩ := sl_has s3 rfl hT
  exact rq1 rfl ⟨⟨ad, c3, rfl, s3.grow gr_A⟩, gr_A⟩
end Go.Proofs.YtlioomhcdlicmaaGreatDoor

/- The law SurveyMore: milder watches. -/
namespace Go.Proofs.YtlioomhcdlicmaaGreatDoor
open Go Go.Ab Go.Fl
attribute [local irreducible] SeqQ BlkQ LpQ RetQ Wc Wo WD WX Op1 Op1q Op1a Cf Cl From
attribute [local irreducible] Ieee.Format.order Ieee.Format.read Ieee.Format.nearest Ieee.Format.write Ieee.Format.mul Ieee.Format.div Ieee.Format.sqrt Ieee.Datum.order Ieee.Datum.integral K U rngE errN ptE firstNZ vesE watE sgE sgsE allE hitB sqD insB qsL lvl rn rl
set_option maxRecDepth 10000
variable {G : Base} {h : H}

attribute [local irreducible] fl silN insN levN inL leL
/-- A part of a body: at each step the first (false) or the second (true) of two parts, or what a block or a loop has in it. -/
def subc : List Bool → Code → Code
  | [], c => c
  | true :: p, .seq _ b => subc p b
  | false :: p, .seq a _ => subc p a
  | _ :: p, .block _ c => subc p c
  | _ :: p, .loop c => subc p c
  | _ :: _, c => c
theorem op_idxVA {M : Mc} {l : KL} {h : H} {x y : Operand} {t : TypeId} {v : Value} {cs : Array Value} {i : Int} {k : IntKind} {len m : Nat} {et : TypeId} (hx : val l x = some (.agg cs)) (hy : val l y = some (.int k i)) (hu : M.P.underlying t = some (.array len et)) (hn : tsz M.P et = some m) (h0 : 0 ≤ i) (h1 : i < len) (hv : apart M.P et cs (i.toNat * m) = some v) : Op1 M (.index t x y) l h v h := op_idxArr hx hy hu hn h0 h1 hv
theorem op_slcHiG {M : Mc} {l : KL} {h : H} {x : Operand} {t e : TypeId} {n es : Nat} {a : Option Addr} {c : Nat} {L : List Value} {hi : Nat} {k : IntKind} {A : Int} {xa : Operand} (hx : val l x = some (.slice a n c)) (hxa : val l xa = some (.int k A)) (sl : Sl M.G h es (.slice a n c) n L) (hu : M.P.underlying t = some (.slice e)) (hn : tsz M.P e = some es) (h1 : hi ≤ n) (hA : A = (hi : Int)) :
    Op1 M (.slice t x none (some xa) none) l h (.slice (cutA es a c 0) (hi - 0) (c - 0)) h :=
  op_slice (a := none) (b := some (.int k A)) hx rfl (by simp only [optV, hxa]) rfl (by
    have := sl.slice hu hn (Nat.zero_le hi) h1 (k := .i64) (k' := k) rfl hA
    rw [← this]; unfold aslice; rw [hu]; rfl)
theorem flat_take {α : Type} {f : α → List Value} {w : Nat} (hf : ∀ a, (f a).length = w) : ∀ (l : List α) (k : Nat), (l.flatMap f).take (k * w) = (l.take k).flatMap f
  | [], k => by simp
  | x :: l, 0 => by simp
  | x :: l, k + 1 => by
    rw [List.take_succ_cons, List.flatMap_cons, List.flatMap_cons, ← flat_take hf l k, List.take_append, List.take_of_length_le (by rw [hf]; exact Nat.le_mul_of_pos_left _ (by omega)), hf, Nat.succ_mul, Nat.add_sub_cancel]
theorem sg_part {a : Option Addr} {c n k : Nat} {l : List Sg} (s : Sl G h 3 (.slice a n c) n (l.flatMap Sg.cells)) (hk : k ≤ n) : Sl G h 3 (.slice (cutA 3 a c 0) (k - 0) (c - 0)) (k - 0) ((l.take k).flatMap Sg.cells) := by
  have := s.part (Nat.zero_le k) hk
  simp only [Nat.zero_mul, List.drop_zero] at this
  rw [flat_take Sg.len] at this
  exact this
theorem errN_of {f : Nat → Int} : ∀ {n : Nat}, (∀ i, i < n → f i = 0) → errN f n = 0
  | 0, _ => errN_zero _
  | n + 1, hh => by rw [errN_next (errN_of fun i hi => hh i (by omega))]; exact hh n (by omega)
theorem nz_of : ∀ {l : List Int}, (∀ x ∈ l, x = 0) → firstNZ l = 0
  | [], _ => by unfold firstNZ; rfl
  | x :: l, hh => by
    have hx := hh x (by simp)
    subst hx
    rw [firstNZ_skip]
    exact nz_of fun y hy => hh y (by simp [hy])
theorem sgs_take {l : List Sg} {k : Nat} (hh : sgsE l = 0) : sgsE (l.take k) = 0 := by
  have h64 := (sgs_ok hh).1
  unfold sgsE at hh ⊢
  rw [if_neg (by omega)] at hh
  rw [if_neg (by rw [List.length_take]; omega)]
  refine errN_of fun i hi => ?_
  rw [List.length_take] at hi
  have := errN_all hh (k := i) (by omega)
  unfold sucA at this ⊢
  have e : ∀ j, j < k → (l.take k).getD j ⟨0, 0, 0⟩ = l.getD j ⟨0, 0, 0⟩ := fun j hj => by
    simp only [List.getD, List.getElem?_take]; rw [if_pos hj]
  rw [e i (by omega)]
  by_cases h0 : 0 < i
  · rw [e (i - 1) (by omega)]; exact this
  · simp only [h0, false_and, if_false] at this ⊢; exact this
theorem all_mild {x y u v t r sp lo cl so r1 s1 l1 c1 : Int} {l : List Sg} {k : Nat} (hh : allE x y u v t r sp lo cl so l = 0) (h1 : 0 ≤ r1 ∧ r1 ≤ r) (h2 : 0 ≤ s1 ∧ s1 ≤ sp) (h3 : 0 ≤ l1 ∧ l1 ≤ lo) (h4 : 0 ≤ c1 ∧ c1 ≤ cl) : allE x y u v t r1 s1 l1 c1 so (l.take k) = 0 := by
  obtain ⟨_, _, _, hr, hs, hlo, hcl, hso, _⟩ := all_ok hh
  unfold allE at hh ⊢
  have a := firstNZ_zero hh
  refine nz_of fun z hz => ?_
  simp only [List.mem_cons, List.not_mem_nil, or_false] at hz
  rcases hz with rfl | rfl | rfl
  · exact a _ (by simp)
  · unfold watE
    refine nz_of fun z hz => ?_
    simp only [List.mem_cons, List.not_mem_nil, or_false] at hz
    rcases hz with rfl | rfl | rfl | rfl | rfl
    · exact rng_of (by omega) (by omega)
    · exact rng_of (by omega) (by omega)
    · exact rng_of (by omega) (by omega)
    · exact rng_of (by omega) (by omega)
    · exact rng_of (by omega) (by omega)
  · exact sgs_take (a _ (by simp))
set_option maxHeartbeats 16000000 in
theorem c11a {x y u v r sp lo cl so : Int} {T N : Nat} {a : Option Addr} {n c : Nat} {l : List Sg} (s : Sl G h 3 (.slice a n c) n (l.flatMap Sg.cells)) (hl : l.length = n) (hn : n < 1000000) (he : allE x y u v (T : Nat) r sp lo cl so l = 0)
    {h0 : H} {ad : Addr} {sa wa : Option Addr} {m sc wn wc c8 wb : Nat} (g0 : Grow h h0) (aV : At h0 h.nx (.cells [.int .i64 x, .int .i64 y, .int .i64 u, .int .i64 v, .int .i64 (T : Nat)] 37 5 false)) (aX : At h0 (h.nx + 1) (.cells [.int .i64 r, .int .i64 sp, .int .i64 lo, .int .i64 cl, .int .i64 so, .slice a n c] 70 6 false)) (aS : At h0 (h.nx + 2) (.cells [.slice sa m sc, .slice wa wn wc, .int .i64 (N : Nat)] 125 3 false)) (aW : At h0 wb (.cells [.int .i64 r, .int .i64 sp, .int .i64 lo, .int .i64 cl, .int .i64 so] 39 5 false)) (s3 : Sl G h0 1 (.slice (some ad) T c8) T ((leL cl so (insB x y u v r sp lo l) T).map (Value.int .i64))) {h1 : H} {mb : Nat} {r3 p1 o1 k1 : Int} (f1 : 0 ≤ r3 ∧ r3 ≤ r) (f2 : 0 ≤ p1 ∧ p1 ≤ sp) (f3 : 0 ≤ o1 ∧ o1 ≤ lo) (f4 : 0 ≤ k1 ∧ k1 ≤ cl) (w1 : Wf h1) (g1 : Grow h0 h1) (aM : At h1 mb (.cells [.int .i64 r3, .int .i64 sp, .int .i64 lo, .int .i64 cl, .int .i64 so, .int .i64 r, .int .i64 p1, .int .i64 lo, .int .i64 cl, .int .i64 so, .int .i64 r, .int .i64 sp, .int .i64 o1, .int .i64 cl, .int .i64 so, .int .i64 r, .int .i64 sp, .int .i64 lo, .int .i64 k1, .int .i64 so] 143 20 false)) :
    Wc (mz G) none (subc [true, true, true, true, true, true, true, true, true, true, true, false] (Tryz.f11.body.getD .skip)) 308 [(3, .pointer (some ⟨h.nx, 0, some 0⟩)), (4, .pointer (some ⟨h.nx + 1, 0, some 0⟩)), (5, .pointer (some ⟨h.nx + 2, 0, some 0⟩)), (7, .func (.func 73) #[] #[]), (8, .slice (some ad) T c8), (9, .pointer (some ⟨wb, 0, some 0⟩)), (10, .pointer (some ⟨mb, 0, some 0⟩))] h1 (fun X0 l' h' => X0 = .norm ∧ ∃ i : Unit, (∀ t1 v1, lk ((fun _ => [(3, .pointer (some ⟨h.nx, 0, some 0⟩)), (4, .pointer (some ⟨h.nx + 1, 0, some 0⟩)), (5, .pointer (some ⟨h.nx + 2, 0, some 0⟩)), (7, .func (.func 73) #[] #[]), (8, .slice (some ad) T c8), (9, .pointer (some ⟨wb, 0, some 0⟩))]) i) t1 = some v1 → lk l' t1 = some v1) ∧ (Wf h' ∧ Grow h0 h')) := by
  obtain ⟨_, _, ⟨bt, bT⟩, hr, hs, hlo, hcl, hso, hlen, hall⟩ := all_ok he
  have n0 := g0.nx
  have lS := aS.lt
  have lW := aW.lt
  show Wc (mz G) none (.seq _ (.block _ (.loop _))) _ _ _ _
  refine wc_mid (ι := Unit) (fun _ => [(3, .pointer (some ⟨h.nx, 0, some 0⟩)), (4, .pointer (some ⟨h.nx + 1, 0, some 0⟩)), (5, .pointer (some ⟨h.nx + 2, 0, some 0⟩)), (7, .func (.func 73) #[] #[]), (8, .slice (some ad) T c8), (9, .pointer (some ⟨wb, 0, some 0⟩)), (101, .agg ⟨[.int .i64 r3, .int .i64 sp, .int .i64 lo, .int .i64 cl, .int .i64 so, .int .i64 r, .int .i64 p1, .int .i64 lo, .int .i64 cl, .int .i64 so, .int .i64 r, .int .i64 sp, .int .i64 o1, .int .i64 cl, .int .i64 so, .int .i64 r, .int .i64 sp, .int .i64 lo, .int .i64 k1, .int .i64 so]⟩), (102, .int .i64 0)]) (fun _ h' => Wf h' ∧ Grow h0 h') ?_ ?_
  · have lM := aM.lt
    repeat' (first | with_reducible refine wo_nil ?_ | ((with_reducible refine wo_any ?_); first | ((with_reducible refine ik_move ?_); refine wo_op rfl (op_move rfl) rfl rfl ?_) | ((with_reducible refine ik_load ?_); refine wo_op rfl (op_ldAgg (b := mb) (off := 0) rfl at_A Tryz.underlying143 rfl zs143 rfl rfl) rfl rfl ?_)) | with_reducible refine wc_region ?_)
    exact ⟨rfl, (), within_lk ⟨rfl, rfl, rfl, rfl, rfl, rfl, rfl, rfl, trivial⟩, wf_A, gr_A⟩
  clear w1 g1 aM
  rintro _ h1 ⟨w1, g1⟩
  refine wc_block ?_
  refine wc_loop (fun i => 4 - i) (fun i : Nat => [(3, .pointer (some ⟨h.nx, 0, some 0⟩)), (4, .pointer (some ⟨h.nx + 1, 0, some 0⟩)), (5, .pointer (some ⟨h.nx + 2, 0, some 0⟩)), (7, .func (.func 73) #[] #[]), (8, .slice (some ad) T c8), (9, .pointer (some ⟨wb, 0, some 0⟩)), (101, .agg ⟨[.int .i64 r3, .int .i64 sp, .int .i64 lo, .int .i64 cl, .int .i64 so, .int .i64 r, .int .i64 p1, .int .i64 lo, .int .i64 cl, .int .i64 so, .int .i64 r, .int .i64 sp, .int .i64 o1, .int .i64 cl, .int .i64 so, .int .i64 r, .int .i64 sp, .int .i64 lo, .int .i64 k1, .int .i64 so]⟩), (102, .int .i64 (i : Nat))]) (fun i h' => (Wf h' ∧ Grow h0 h') ∧ i ≤ 4) 0 (within_lk ⟨rfl, rfl, rfl, rfl, rfl, rfl, rfl, rfl, trivial⟩) ⟨⟨w1, g1⟩, by omega⟩ ?_
  clear w1 g1
  rintro i h1 ⟨⟨w1, g1⟩, hi⟩
  by_cases hlt : i < 4
  · refine wc_mid (ι := Unit) (fun _ => [(3, .pointer (some ⟨h.nx, 0, some 0⟩)), (4, .pointer (some ⟨h.nx + 1, 0, some 0⟩)), (5, .pointer (some ⟨h.nx + 2, 0, some 0⟩)), (7, .func (.func 73) #[] #[]), (8, .slice (some ad) T c8), (9, .pointer (some ⟨wb, 0, some 0⟩)), (101, .agg ⟨[.int .i64 r3, .int .i64 sp, .int .i64 lo, .int .i64 cl, .int .i64 so, .int .i64 r, .int .i64 p1, .int .i64 lo, .int .i64 cl, .int .i64 so, .int .i64 r, .int .i64 sp, .int .i64 o1, .int .i64 cl, .int .i64 so, .int .i64 r, .int .i64 sp, .int .i64 lo, .int .i64 k1, .int .i64 so]⟩), (102, .int .i64 (i : Nat)), (103, .bool (decide ((i : Int) < 4)))]) (fun _ h' => h1 = h') ?_ ?_
    · repeat' (first | with_reducible refine wo_nil ?_ | ((with_reducible refine wo_any ?_); ((with_reducible refine ik_bin ?_); refine wo_op rfl (op_lss rfl rfl) rfl rfl ?_)) | with_reducible refine wc_region ?_)
      exact ⟨rfl, (), within_lk ⟨rfl, rfl, rfl, rfl, rfl, rfl, rfl, rfl, rfl, trivial⟩, rfl⟩
    rintro _ h1' e
    subst e
    refine wc_seq (wc_if rfl (fun _ => wc_skip (sq_norm ?_)) (fun e => absurd (of_decide_eq_false e) (by omega)))
    refine wc_mid (ι := Unit) (fun _ => [(3, .pointer (some ⟨h.nx, 0, some 0⟩)), (4, .pointer (some ⟨h.nx + 1, 0, some 0⟩)), (5, .pointer (some ⟨h.nx + 2, 0, some 0⟩)), (7, .func (.func 73) #[] #[]), (8, .slice (some ad) T c8), (9, .pointer (some ⟨wb, 0, some 0⟩)), (101, .agg ⟨[.int .i64 r3, .int .i64 sp, .int .i64 lo, .int .i64 cl, .int .i64 so, .int .i64 r, .int .i64 p1, .int .i64 lo, .int .i64 cl, .int .i64 so, .int .i64 r, .int .i64 sp, .int .i64 o1, .int .i64 cl, .int .i64 so, .int .i64 r, .int .i64 sp, .int .i64 lo, .int .i64 k1, .int .i64 so]⟩), (102, .int .i64 (i : Nat))]) (fun _ h' => Wf h' ∧ Grow h0 h') ?_ ?_
    · refine wc_block ?_
      refine wc_mid (ι := Nat × Int × Int × Int × Int) (fun z => [(3, .pointer (some ⟨h.nx, 0, some 0⟩)), (4, .pointer (some ⟨h.nx + 1, 0, some 0⟩)), (5, .pointer (some ⟨h.nx + 2, 0, some 0⟩)), (7, .func (.func 73) #[] #[]), (8, .slice (some ad) T c8), (9, .pointer (some ⟨wb, 0, some 0⟩)), (101, .agg ⟨[.int .i64 r3, .int .i64 sp, .int .i64 lo, .int .i64 cl, .int .i64 so, .int .i64 r, .int .i64 p1, .int .i64 lo, .int .i64 cl, .int .i64 so, .int .i64 r, .int .i64 sp, .int .i64 o1, .int .i64 cl, .int .i64 so, .int .i64 r, .int .i64 sp, .int .i64 lo, .int .i64 k1, .int .i64 so]⟩), (102, .int .i64 (i : Nat)), (12, .pointer (some ⟨z.1, 0, some 0⟩))]) (fun z h' => ((0 ≤ z.2.1 ∧ z.2.1 ≤ r) ∧ (0 ≤ z.2.2.1 ∧ z.2.2.1 ≤ sp) ∧ (0 ≤ z.2.2.2.1 ∧ z.2.2.2.1 ≤ lo) ∧ (0 ≤ z.2.2.2.2 ∧ z.2.2.2.2 ≤ cl)) ∧ (Wf h' ∧ Grow h0 h') ∧ At h' z.1 (.cells [.int .i64 z.2.1, .int .i64 z.2.2.1, .int .i64 z.2.2.2.1, .int .i64 z.2.2.2.2, .int .i64 so] 39 5 false)) ?_ ?_
      · have aV := aV.grow g1
        have aX := aX.grow g1
        have aS := aS.grow g1
        have aW := aW.grow g1
        have nn := g1.nx
        have gg := g0.trans g1
        match i, hlt with
        | 0, _ =>
          repeat' (first | with_reducible refine wo_nil ?_ | ((with_reducible refine wo_any ?_); first | ((with_reducible refine ik_index ?_); refine wo_op rfl (op_idxVA (v := .agg ⟨[.int .i64 r3, .int .i64 sp, .int .i64 lo, .int .i64 cl, .int .i64 so]⟩) rfl rfl Tryz.underlying143 zs39 (by decide) (by decide) rfl) rfl rfl ?_) | ((with_reducible refine ik_alloc ?_); refine wo_op rfl (op_alloc zz39 zs39 rfl rfl rfl) rfl rfl ?_) | ((with_reducible refine ik_store ?_); refine wo_op0 rfl (op_stAgg rfl rfl at_A zs39 rfl rfl rfl rfl) rfl ?_)) | with_reducible refine wc_region ?_)
          exact ⟨rfl, (h1.nx, r3, sp, lo, cl), within_lk ⟨rfl, rfl, rfl, rfl, rfl, rfl, rfl, rfl, rfl, trivial⟩, ⟨f1, ⟨hs.1, Int.le_refl _⟩, ⟨hlo.1, Int.le_refl _⟩, ⟨hcl.1, Int.le_refl _⟩⟩, ⟨wf_A, gr_A⟩, at_A⟩
        | 1, _ =>
          repeat' (first | with_reducible refine wo_nil ?_ | ((with_reducible refine wo_any ?_); first | ((with_reducible refine ik_index ?_); refine wo_op rfl (op_idxVA (v := .agg ⟨[.int .i64 r, .int .i64 p1, .int .i64 lo, .int .i64 cl, .int .i64 so]⟩) rfl rfl Tryz.underlying143 zs39 (by decide) (by decide) rfl) rfl rfl ?_) | ((with_reducible refine ik_alloc ?_); refine wo_op rfl (op_alloc zz39 zs39 rfl rfl rfl) rfl rfl ?_) | ((with_reducible refine ik_store ?_); refine wo_op0 rfl (op_stAgg rfl rfl at_A zs39 rfl rfl rfl rfl) rfl ?_)) | with_reducible refine wc_region ?_)
          exact ⟨rfl, (h1.nx, r, p1, lo, cl), within_lk ⟨rfl, rfl, rfl, rfl, rfl, rfl, rfl, rfl, rfl, trivial⟩, ⟨⟨hr.1, Int.le_refl _⟩, f2, ⟨hlo.1, Int.le_refl _⟩, ⟨hcl.1, Int.le_refl _⟩⟩, ⟨wf_A, gr_A⟩, at_A⟩
        | 2, _ =>
          repeat' (first | with_reducible refine wo_nil ?_ | ((with_reducible refine wo_any ?_); first | ((with_reducible refine ik_index ?_); refine wo_op rfl (op_idxVA (v := .agg ⟨[.int .i64 r, .int .i64 sp, .int .i64 o1, .int .i64 cl, .int .i64 so]⟩) rfl rfl Tryz.underlying143 zs39 (by decide) (by decide) rfl) rfl rfl ?_) | ((with_reducible refine ik_alloc ?_); refine wo_op rfl (op_alloc zz39 zs39 rfl rfl rfl) rfl rfl ?_) | ((with_reducible refine ik_store ?_); refine wo_op0 rfl (op_stAgg rfl rfl at_A zs39 rfl rfl rfl rfl) rfl ?_)) | with_reducible refine wc_region ?_)
          exact ⟨rfl, (h1.nx, r, sp, o1, cl), within_lk ⟨rfl, rfl, rfl, rfl, rfl, rfl, rfl, rfl, rfl, trivial⟩, ⟨⟨hr.1, Int.le_refl _⟩, ⟨hs.1, Int.le_refl _⟩, f3, ⟨hcl.1, Int.le_refl _⟩⟩, ⟨wf_A, gr_A⟩, at_A⟩
        | 3, _ =>
          repeat' (first | with_reducible refine wo_nil ?_ | ((with_reducible refine wo_any ?_); first | ((with_reducible refine ik_index ?_); refine wo_op rfl (op_idxVA (v := .agg ⟨[.int .i64 r, .int .i64 sp, .int .i64 lo, .int .i64 k1, .int .i64 so]⟩) rfl rfl Tryz.underlying143 zs39 (by decide) (by decide) rfl) rfl rfl ?_) | ((with_reducible refine ik_alloc ?_); refine wo_op rfl (op_alloc zz39 zs39 rfl rfl rfl) rfl rfl ?_) | ((with_reducible refine ik_store ?_); refine wo_op0 rfl (op_stAgg rfl rfl at_A zs39 rfl rfl rfl rfl) rfl ?_)) | with_reducible refine wc_region ?_)
          exact ⟨rfl, (h1.nx, r, sp, lo, k1), within_lk ⟨rfl, rfl, rfl, rfl, rfl, rfl, rfl, rfl, rfl, trivial⟩, ⟨⟨hr.1, Int.le_refl _⟩, ⟨hs.1, Int.le_refl _⟩, ⟨hlo.1, Int.le_refl _⟩, f4⟩, ⟨wf_A, gr_A⟩, at_A⟩
      clear w1 g1 f1 f2 f3 f4
      rintro ⟨zb, r1, s1, l1, c1⟩ h1 ⟨⟨f1, f2, f3, f4⟩, ⟨w1, g1⟩, aZ⟩
      dsimp only at f1 f2 f3 f4 aZ ⊢
      have he1 := all_mild (k := l.length) he f1 f2 f3 f4
      rw [List.take_of_length_le (Nat.le_refl _)] at he1
      have he2 := all_mild (k := n - 1) he f1 f2 f3 f4
      have mI1 : ∀ k, (insB x y u v r1 s1 l1 l) k = true → (insB x y u v r sp lo l) k = true := fun k => ins_mono f1 f2 f3.2 (fun s hs => hs)
      have mI2 : ∀ k, (insB x y u v r1 s1 l1 (l.take (n - 1))) k = true → (insB x y u v r1 s1 l1 l) k = true := fun k => ins_mono ⟨f1.1, Int.le_refl _⟩ ⟨f2.1, Int.le_refl _⟩ (Int.le_refl _) (fun s hs => List.mem_of_mem_take hs)
      have m1 := fun (j : Nat) (hj : j < T) => le_mono (so := so) f4.2 mI1 hj
      have m2 := fun (j : Nat) (hj : j < T) => le_mono (so := so) (Int.le_refl c1) mI2 hj
      have qS := fun (h' : H) (g : Grow h h') (w' : Wf h') => c73 (s.grow g) hl hn he1 w'
      have qM := fun (h' : H) (g : Grow h h') (w' : Wf h') => c73 (sg_part (s.grow g) (by omega : n - 1 ≤ n)) (by rw [List.length_take]; omega) (by omega) he2 w'
      have lZ := aZ.lt
      have aV1 := aV.grow g1
      have aX1 := aX.grow g1
      have aS1 := aS.grow g1
      have aW1 := aW.grow g1
      have nn1 := g1.nx
      have gg1 := g0.trans g1
      clear mI1 mI2 he1 he2 hall hlen
      obtain ⟨L1, hL1⟩ : ∃ L, leL cl so (insB x y u v r sp lo l) T = L := ⟨_, rfl⟩
      rw [hL1] at s3 m1
      obtain ⟨L2, hL2⟩ : ∃ L, leL c1 so (insB x y u v r1 s1 l1 l) T = L := ⟨_, rfl⟩
      rw [hL2] at qS m1 m2
      obtain ⟨L4, hL4⟩ : ∃ L, leL c1 so (insB x y u v r1 s1 l1 (l.take (n - 1))) T = L := ⟨_, rfl⟩
      rw [hL4] at qM m2
      refine wc_mid (ι := Addr × Nat) (fun z => [(3, .pointer (some ⟨h.nx, 0, some 0⟩)), (4, .pointer (some ⟨h.nx + 1, 0, some 0⟩)), (5, .pointer (some ⟨h.nx + 2, 0, some 0⟩)), (7, .func (.func 73) #[] #[]), (8, .slice (some ad) T c8), (9, .pointer (some ⟨wb, 0, some 0⟩)), (101, .agg ⟨[.int .i64 r3, .int .i64 sp, .int .i64 lo, .int .i64 cl, .int .i64 so, .int .i64 r, .int .i64 p1, .int .i64 lo, .int .i64 cl, .int .i64 so, .int .i64 r, .int .i64 sp, .int .i64 o1, .int .i64 cl, .int .i64 so, .int .i64 r, .int .i64 sp, .int .i64 lo, .int .i64 k1, .int .i64 so]⟩), (102, .int .i64 (i : Nat)), (12, .pointer (some ⟨zb, 0, some 0⟩)), (13, .slice (some z.1) T z.2)]) (fun z h' => (Wf h' ∧ Grow h1 h') ∧ Sl G h' 1 (.slice (some z.1) T z.2) T (L4.map (Value.int .i64))) ?_ ?_
      · repeat' (first | ((with_reducible refine xk_any ?_); ((with_reducible refine xk_as0 ?_); first | ((with_reducible refine xk_move ?_); refine wx_q (wt_none rfl) rfl rfl (op_q rfl (op_move rfl)) rfl rfl rfl ?_) | ((with_reducible refine xk_assign ?_); refine wx_q (wt_none rfl) rfl rfl (op_q rfl (op_assign rfl)) rfl rfl rfl ?_) | ((with_reducible refine xk_slice ?_); refine wx_h0 (wt_none rfl) rfl (op_q rfl (op_slcHiG (hi := n - 1) rfl rfl (s.grow (gg1.trans gr_A)) Tryz.underlying40 zs145 (by omega) (by omega))) rfl rfl rfl ?_) | ((with_reducible refine xk_load ?_); first | refine wx_h0 (wt_none rfl) rfl (op_q rfl (op_ldAgg rfl at_A Tryz.underlying37 rfl zs37 rfl rfl)) rfl rfl rfl ?_ | refine wx_h0 (wt_none rfl) rfl (op_q rfl (op_ldAt rfl at_A Tryz.underlying40 rfl rfl)) rfl rfl rfl ?_ | refine wx_h0 (wt_none rfl) rfl (op_q rfl (op_ldAgg rfl at_A Tryz.underlying39 rfl zs39 rfl rfl)) rfl rfl rfl ?_) | ((with_reducible refine xk_fieldAddr ?_); refine wx_q (wt_none rfl) rfl rfl (op_q rfl (op_fieldAddr (o := 5) rfl Tryz.underlying70 rfl zs40 rfl)) rfl rfl rfl ?_) | ((with_reducible refine xk_bin ?_); refine wx_q (wt_none rfl) rfl rfl (op_q rfl (op_sub' rfl rfl (w64 (by omega) (by omega)))) rfl rfl rfl ?_) | ((with_reducible refine xk_callb ?_); first | refine wx_q (wt_none rfl) rfl rfl (op_q rfl (op_max rfl rfl)) rfl rfl rfl ?_ | refine wx_q (wt_none rfl) rfl rfl (op_q rfl (op_lenSl rfl Tryz.underlying40)) rfl rfl rfl ?_) | ((with_reducible refine xk_callv ?_); (refine wx_call0 (wt_none rfl) rfl rfl rfl rfl (qM _ (gg1.trans gr_A) wf_A) rfl rfl ?_; rintro _ _ ⟨⟨ad1, c13, rfl, s13⟩, hq⟩; all_goals ((try (have hqn := hq.nx)); (try simp only [H.nx_push, H.nx_set, H.nx_bump] at hqn)))) | with_reducible refine wx_nil0 ?_ ?_)) | with_reducible exact obl_nil | with_reducible refine obl_cons ?_ ?_ | ((with_reducible refine ik_obs ?_); first | exact obs_nil | refine obs_skip rfl ?_ | refine obs_chkn rfl rfl (op_q rfl (op_slcHiG (hi := n - 1) rfl rfl (s.grow (gg1.trans gr_A)) Tryz.underlying40 zs145 (by omega) (by omega))) ?_ | refine obs_chkn rfl rfl (op_q rfl (op_ldAgg rfl at_A Tryz.underlying37 rfl zs37 (by rfl) rfl)) ?_ | refine obs_chkn rfl rfl (op_q rfl (op_ldAt rfl at_A Tryz.underlying40 rfl (by rfl))) ?_ | refine obs_chkn rfl rfl (op_q rfl (op_ldAgg rfl at_A Tryz.underlying39 rfl zs39 (by rfl) rfl)) ?_) | refine wc_drawB (id := 16) 13 [0, 0, 0, 0, 8, 0, 32, 96, 224, 480, 1016, 2047, 4095] [0, 1, 2, 3, 4, 5, 6, 7, 8, 9, 10, 11, 12] (by kernel_rfl) (by kernel_rfl) rfl rfl ?_)
        exact ⟨rfl, (ad1, c13), within_lk ⟨rfl, rfl, rfl, rfl, rfl, rfl, rfl, rfl, rfl, rfl, trivial⟩, ⟨wf_A, gr_A⟩, s13.grow gr_A⟩
      clear w1 qM
      rintro ⟨ad1, c13⟩ h2 ⟨⟨w1, g2⟩, s13⟩
      dsimp only at s13 ⊢
      have aZ2 := aZ.grow g2
      have nn2 := g2.nx
      refine wc_mid (ι := Addr × Nat) (fun z => [(3, .pointer (some ⟨h.nx, 0, some 0⟩)), (4, .pointer (some ⟨h.nx + 1, 0, some 0⟩)), (5, .pointer (some ⟨h.nx + 2, 0, some 0⟩)), (7, .func (.func 73) #[] #[]), (8, .slice (some ad) T c8), (9, .pointer (some ⟨wb, 0, some 0⟩)), (101, .agg ⟨[.int .i64 r3, .int .i64 sp, .int .i64 lo, .int .i64 cl, .int .i64 so, .int .i64 r, .int .i64 p1, .int .i64 lo, .int .i64 cl, .int .i64 so, .int .i64 r, .int .i64 sp, .int .i64 o1, .int .i64 cl, .int .i64 so, .int .i64 r, .int .i64 sp, .int .i64 lo, .int .i64 k1, .int .i64 so]⟩), (102, .int .i64 (i : Nat)), (13, .slice (some ad1) T c13), (14, .slice (some z.1) T z.2)]) (fun z h' => (Wf h' ∧ Grow h2 h') ∧ Sl G h' 1 (.slice (some z.1) T z.2) T (L2.map (Value.int .i64))) ?_ ?_
      · have aV2 := aV1.grow g2
        have aX2 := aX1.grow g2
        have gg2 := gg1.trans g2
        repeat' (first | with_reducible refine wo_nil ?_ | ((with_reducible refine wo_any ?_); first | ((with_reducible refine ik_move ?_); refine wo_op rfl (op_move rfl) rfl rfl ?_) | ((with_reducible refine ik_assign ?_); refine wo_op rfl (op_assign rfl) rfl rfl ?_) | ((with_reducible refine ik_load ?_); first | refine wo_op rfl (op_ldAgg rfl at_A Tryz.underlying37 rfl zs37 rfl rfl) rfl rfl ?_ | refine wo_op rfl (op_ldAt rfl at_A Tryz.underlying40 rfl rfl) rfl rfl ?_ | refine wo_op rfl (op_ldAgg rfl at_A Tryz.underlying39 rfl zs39 rfl rfl) rfl rfl ?_) | ((with_reducible refine ik_fieldAddr ?_); refine wo_op rfl (op_fieldAddr (o := 5) rfl Tryz.underlying70 rfl zs40 rfl) rfl rfl ?_) | ((with_reducible refine ik_callv ?_); (refine wo_call rfl rfl rfl rfl (qS _ (gg2.trans gr_A) wf_A) rfl rfl ?_; rintro _ _ ⟨⟨ad2, c14, rfl, s14⟩, hq⟩; all_goals ((try (have hqn := hq.nx)); (try simp only [H.nx_push, H.nx_set, H.nx_bump] at hqn))))) | with_reducible refine wc_region ?_)
        exact ⟨rfl, (ad2, c14), within_lk ⟨rfl, rfl, rfl, rfl, rfl, rfl, rfl, rfl, rfl, rfl, trivial⟩, ⟨wf_A, gr_A⟩, s14.grow gr_A⟩
      clear w1 qS aZ2 aZ
      rintro ⟨ad2, c14⟩ h3 ⟨⟨w1, g3⟩, s14⟩
      dsimp only at s14 ⊢
      have s13 := s13.grow g3
      have s8 := s3.grow (g1.trans (g2.trans g3))
      have g4 := g1.trans (g2.trans g3)
      clear g2 g3 gg1 aV1 aX1 aS1 aW1 nn1 nn2 lZ
      refine wc_mid (ι := Unit) (fun _ => [(3, .pointer (some ⟨h.nx, 0, some 0⟩)), (4, .pointer (some ⟨h.nx + 1, 0, some 0⟩)), (5, .pointer (some ⟨h.nx + 2, 0, some 0⟩)), (7, .func (.func 73) #[] #[]), (8, .slice (some ad) T c8), (9, .pointer (some ⟨wb, 0, some 0⟩)), (101, .agg ⟨[.int .i64 r3, .int .i64 sp, .int .i64 lo, .int .i64 cl, .int .i64 so, .int .i64 r, .int .i64 p1, .int .i64 lo, .int .i64 cl, .int .i64 so, .int .i64 r, .int .i64 sp, .int .i64 o1, .int .i64 cl, .int .i64 so, .int .i64 r, .int .i64 sp, .int .i64 lo, .int .i64 k1, .int .i64 so]⟩), (102, .int .i64 (i : Nat)), (13, .slice (some ad1) T c13), (14, .slice (some ad2) T c14)]) (fun _ h' => h3 = h') ?_ ?_
      · repeat' (first | with_reducible refine wo_nil ?_ | ((with_reducible refine wo_any ?_); first | ((with_reducible refine ik_move ?_); refine wo_op rfl (op_move rfl) rfl rfl ?_) | ((with_reducible refine ik_bin ?_); refine wo_op rfl (op_aeq (r := false) rfl rfl rfl (by show aeq Tryz.prog 49 _ _ = _; simp only [aeq, Tryz.underlying49])) rfl rfl ?_) | ((with_reducible refine ik_pick ?_); refine wo_op rfl (op_pickf rfl rfl) rfl rfl ?_) | ((with_reducible refine ik_g ?_); first | ((with_reducible refine ig_move ?_); refine wo_grun rfl rfl rfl (op_move rfl) rfl rfl ?_) | ((with_reducible refine ig_bin ?_); refine wo_grun rfl rfl rfl (op_aeq (r := false) rfl rfl rfl (by show aeq Tryz.prog 49 _ _ = _; simp only [aeq, Tryz.underlying49])) rfl rfl ?_))) | with_reducible refine sq_norm ?_ | with_reducible refine wc_seq ?_ | with_reducible refine wc_region ?_ | with_reducible refine wc_skip ?_ | refine wc_iff rfl ?_)
        exact ⟨rfl, (), within_lk ⟨rfl, rfl, rfl, rfl, rfl, rfl, rfl, rfl, rfl, rfl, trivial⟩, rfl⟩
      rintro _ h1' e
      subst e
      have LJ' : True := trivial
      refine wc_mid (ι := Unit) (fun _ => [(3, .pointer (some ⟨h.nx, 0, some 0⟩)), (4, .pointer (some ⟨h.nx + 1, 0, some 0⟩)), (5, .pointer (some ⟨h.nx + 2, 0, some 0⟩)), (7, .func (.func 73) #[] #[]), (8, .slice (some ad) T c8), (9, .pointer (some ⟨wb, 0, some 0⟩)), (101, .agg ⟨[.int .i64 r3, .int .i64 sp, .int .i64 lo, .int .i64 cl, .int .i64 so, .int .i64 r, .int .i64 p1, .int .i64 lo, .int .i64 cl, .int .i64 so, .int .i64 r, .int .i64 sp, .int .i64 o1, .int .i64 cl, .int .i64 so, .int .i64 r, .int .i64 sp, .int .i64 lo, .int .i64 k1, .int .i64 so]⟩), (102, .int .i64 (i : Nat)), (13, .slice (some ad1) T c13), (14, .slice (some ad2) T c14), (130, .int .i64 (T : Nat)), (131, .int .i64 0)]) (fun _ h' => h3 = h') ?_ ?_
      · repeat' (first | with_reducible refine wo_nil ?_ | ((with_reducible refine wo_any ?_); first | ((with_reducible refine ik_move ?_); refine wo_op rfl (op_move rfl) rfl rfl ?_) | ((with_reducible refine ik_callb ?_); refine wo_op rfl (op_lenSl rfl Tryz.underlying49) rfl rfl ?_)) | with_reducible refine wc_region ?_)
        exact ⟨rfl, (), within_lk ⟨rfl, rfl, rfl, rfl, rfl, rfl, rfl, rfl, rfl, rfl, rfl, rfl, trivial⟩, rfl⟩
      rintro _ h1' e
      subst e
      refine wc_block ?_
      refine wc_loop (fun j => T - j) (fun j : Nat => [(3, .pointer (some ⟨h.nx, 0, some 0⟩)), (4, .pointer (some ⟨h.nx + 1, 0, some 0⟩)), (5, .pointer (some ⟨h.nx + 2, 0, some 0⟩)), (7, .func (.func 73) #[] #[]), (8, .slice (some ad) T c8), (9, .pointer (some ⟨wb, 0, some 0⟩)), (101, .agg ⟨[.int .i64 r3, .int .i64 sp, .int .i64 lo, .int .i64 cl, .int .i64 so, .int .i64 r, .int .i64 p1, .int .i64 lo, .int .i64 cl, .int .i64 so, .int .i64 r, .int .i64 sp, .int .i64 o1, .int .i64 cl, .int .i64 so, .int .i64 r, .int .i64 sp, .int .i64 lo, .int .i64 k1, .int .i64 so]⟩), (102, .int .i64 (i : Nat)), (13, .slice (some ad1) T c13), (14, .slice (some ad2) T c14), (130, .int .i64 (T : Nat)), (131, .int .i64 (j : Nat))]) (fun j h' => (Wf h' ∧ Grow h3 h') ∧ j ≤ T) 0 (within_lk ⟨rfl, rfl, rfl, rfl, rfl, rfl, rfl, rfl, rfl, rfl, rfl, rfl, trivial⟩) ⟨⟨w1, Grow.refl _⟩, by omega⟩ ?_
      clear w1
      rintro j h5 ⟨⟨w1, g5⟩, hj⟩
      have nn5 := g5.nx
      by_cases hjt : j < T
      · obtain ⟨id, i1, i3⟩ := in_atV (Value.int .i64) 0 (s14.grow g5) Tryz.underlying49 zs3 (i := (j : Int)) hjt rfl
        obtain ⟨ld, l1, l3⟩ := in_atV (Value.int .i64) 0 (s8.grow g5) Tryz.underlying49 zs3 (i := (j : Int)) hjt rfl
        obtain ⟨pd, p1, p3⟩ := in_atV (Value.int .i64) 0 (s13.grow g5) Tryz.underlying49 zs3 (i := (j : Int)) hjt rfl
        have k1 := m1 j hjt
        have k2 := m2 j hjt
        generalize L1.getD j 0 = A1 at l3 k1
        generalize L2.getD j 0 = A2 at i3 k1 k2
        generalize L4.getD j 0 = A4 at p3 k2
        clear m1 m2 s14 s8 s13
        repeat' (first | with_reducible refine wo_nil ?_ | ((with_reducible refine wo_any ?_); first | ((with_reducible refine ik_move ?_); refine wo_op rfl (op_move rfl) rfl rfl ?_) | ((with_reducible refine ik_assign ?_); refine wo_op rfl (op_assign rfl) rfl rfl ?_) | ((with_reducible refine ik_bin ?_); first | refine wo_op rfl (op_lss rfl rfl) rfl rfl ?_ | refine wo_op rfl (op_add' rfl rfl (w64 (by omega) (by omega))) rfl rfl ?_)) | ((with_reducible refine xk_any ?_); ((with_reducible refine xk_as0 ?_); first | ((with_reducible refine xk_move ?_); refine wx_q (wt_none rfl) rfl rfl (op_q rfl (op_move rfl)) rfl rfl rfl ?_) | ((with_reducible refine xk_indexAddr ?_); first | refine wx_q (wt_none rfl) rfl rfl (op_q rfl (op_indexAddr rfl rfl i1)) rfl rfl rfl ?_ | refine wx_q (wt_none rfl) rfl rfl (op_q rfl (op_indexAddr rfl rfl l1)) rfl rfl rfl ?_) | ((with_reducible refine xk_load ?_); first | refine wx_h0 (wt_none rfl) rfl (op_q rfl (op_ldCell rfl Tryz.underlying3 rfl (i3 _ gr_A))) rfl rfl rfl ?_ | refine wx_h0 (wt_none rfl) rfl (op_q rfl (op_ldCell rfl Tryz.underlying3 rfl (l3 _ gr_A))) rfl rfl rfl ?_) | ((with_reducible refine xk_pick ?_); refine wx_q (wt_none rfl) rfl rfl (op_q rfl (op_pickf rfl rfl)) rfl rfl rfl ?_) | ((with_reducible refine xk_bin ?_); refine wx_q (wt_none rfl) rfl rfl (op_q rfl (op_lss rfl rfl)) rfl rfl rfl ?_) | ((with_reducible refine xk_g ?_); first | ((with_reducible refine xg_move ?_); refine wx_q (wt_run rfl rfl rfl) rfl rfl (op_q rfl (op_move rfl)) rfl rfl rfl ?_) | ((with_reducible refine xg_indexAddr ?_); first | refine wx_q (wt_run rfl rfl rfl) rfl rfl (op_q rfl (op_indexAddr rfl rfl i1)) rfl rfl rfl ?_ | refine wx_q (wt_run rfl rfl rfl) rfl rfl (op_q rfl (op_indexAddr rfl rfl p1)) rfl rfl rfl ?_) | ((with_reducible refine xg_load ?_); first | refine wx_h0 (wt_run rfl rfl rfl) rfl (op_q rfl (op_ldCell rfl Tryz.underlying3 rfl (i3 _ gr_A))) rfl rfl rfl ?_ | refine wx_h0 (wt_run rfl rfl rfl) rfl (op_q rfl (op_ldCell rfl Tryz.underlying3 rfl (p3 _ gr_A))) rfl rfl rfl ?_) | ((with_reducible refine xg_bin ?_); refine wx_q (wt_run rfl rfl rfl) rfl rfl (op_q rfl (op_lss rfl rfl)) rfl rfl rfl ?_) | (refine wx_split rfl rfl rfl (fun hb => dead_A hb) (fun hb => ?_); (try simp only [decide_eq_true_eq, decide_eq_false_iff_not, Bool.not_eq_true', Bool.not_eq_false', Int.not_lt, Int.not_le, Decidable.not_not, not_true_eq_false, not_false_eq_true, beq_self_eq_true, reduceCtorEq] at hb))) | with_reducible refine wx_nil0 ?_ ?_)) | with_reducible exact obl_nil | with_reducible refine obl_cons ?_ ?_ | ((with_reducible refine ik_obs ?_); first | exact obs_nil | refine obs_chkn rfl rfl (op_q rfl (op_ldCell rfl Tryz.underlying3 rfl (i3 _ gr_A))) ?_ | refine obs_chkn rfl rfl (op_q rfl (op_ldCell rfl Tryz.underlying3 rfl (l3 _ gr_A))) ?_ | refine obs_chkn rfl rfl (op_q rfl (op_ldCell rfl Tryz.underlying3 rfl (p3 _ gr_A))) ?_) | with_reducible refine sq_norm ?_ | with_reducible refine wc_seq ?_ | with_reducible refine wc_region ?_ | with_reducible refine wc_skip ?_ | with_reducible refine wc_block ?_ | with_reducible refine bq_norm ?_ | (refine wc_if rfl (fun hb => dead_A hb) (fun hb => ?_); (try simp only [decide_eq_true_eq, decide_eq_false_iff_not, Bool.not_eq_true', Bool.not_eq_false', Int.not_lt, Int.not_le, Decidable.not_not, not_true_eq_false, not_false_eq_true, beq_self_eq_true, reduceCtorEq] at hb)) | (refine wc_if rfl (fun hb => ?_) (fun hb => dead_A hb); (try simp only [decide_eq_true_eq, decide_eq_false_iff_not, Bool.not_eq_true', Bool.not_eq_false', Int.not_lt, Int.not_le, Decidable.not_not, not_true_eq_false, not_false_eq_true, beq_self_eq_true, reduceCtorEq] at hb)) | refine wc_drawB (id := 23) 20 [0, 0, 3, 7, 0, 0, 48, 112, 255, 511, 1023, 1023, 4095, 8191, 1023, 1023, 50175, 115711, 262143, 524287] [0, 1, 2, 3, 4, 5, 6, 7, 8, 9, 10, 11, 12, 13, 14, 15, 16, 17, 18, 19] (by kernel_rfl) (by kernel_rfl) rfl rfl ?_)
        exact lq_norm (j + 1) (by omega) (within_lk ⟨rfl, rfl, rfl, rfl, rfl, rfl, rfl, rfl, rfl, rfl, rfl, rfl, trivial⟩) ⟨⟨wf_A, gr_A⟩, by omega⟩
      · repeat' (first | with_reducible refine wo_nil ?_ | ((with_reducible refine wo_any ?_); ((with_reducible refine ik_bin ?_); refine wo_op rfl (op_lss rfl rfl) rfl rfl ?_)) | with_reducible refine sq_norm ?_ | with_reducible refine wc_seq ?_ | with_reducible refine wc_region ?_ | with_reducible refine wc_exit ?_ | with_reducible refine bq_norm ?_ | with_reducible refine sq_exit ?_ | with_reducible refine lq_exit ?_ | refine bq_eq rfl ?_ | (refine wc_if rfl (fun hb => dead_A hb) (fun hb => ?_); (try simp only [decide_eq_true_eq, decide_eq_false_iff_not, Bool.not_eq_true', Bool.not_eq_false', Int.not_lt, Int.not_le, Decidable.not_not, not_true_eq_false, not_false_eq_true, beq_self_eq_true, reduceCtorEq] at hb)))
        exact ⟨rfl, (), within_lk ⟨rfl, rfl, rfl, rfl, rfl, rfl, rfl, rfl, trivial⟩, wf_A, g4.trans gr_A⟩
    · clear w1 g1
      rintro _ h1 ⟨w1, g1⟩
      repeat' (first | with_reducible refine wo_nil ?_ | ((with_reducible refine wo_any ?_); first | ((with_reducible refine ik_move ?_); refine wo_op rfl (op_move rfl) rfl rfl ?_) | ((with_reducible refine ik_bin ?_); refine wo_op rfl (op_add' rfl rfl (w64 (by omega) (by omega))) rfl rfl ?_)) | with_reducible refine wc_region ?_)
      exact lq_norm (i + 1) (by omega) (within_lk ⟨rfl, rfl, rfl, rfl, rfl, rfl, rfl, rfl, trivial⟩) ⟨⟨wf_A, gr_A⟩, by omega⟩
  · repeat' (first | with_reducible refine wo_nil ?_ | ((with_reducible refine wo_any ?_); ((with_reducible refine ik_bin ?_); refine wo_op rfl (op_lss rfl rfl) rfl rfl ?_)) | with_reducible refine sq_norm ?_ | with_reducible refine wc_seq ?_ | with_reducible refine wc_region ?_ | with_reducible refine wc_exit ?_ | with_reducible refine sq_exit ?_ | with_reducible refine lq_exit ?_ | refine bq_eq rfl ?_ | (refine wc_if rfl (fun hb => dead_A hb) (fun hb => ?_); (try simp only [decide_eq_true_eq, decide_eq_false_iff_not, Bool.not_eq_true', Bool.not_eq_false', Int.not_lt, Int.not_le, Decidable.not_not, not_true_eq_false, not_false_eq_true, beq_self_eq_true, reduceCtorEq] at hb)))
    exact ⟨rfl, (), within_lk ⟨rfl, rfl, rfl, rfl, rfl, rfl, trivial⟩, w1, g1⟩
end Go.Proofs.YtlioomhcdlicmaaGreatDoor
