/- Shots scaled and delayed by the reference. -/
import Derived.Test.YtdelgpbfdimefaaGreatDoorP1
set_option linter.all false
/- Rounding by the reference; samples changed in their place. -/
namespace Go.Proofs.YtdelgpbfdimefaaGreatDoor
open Go Go.Ab Go.Fl
attribute [local irreducible] SeqQ BlkQ LpQ RetQ Wc Wo WD WX Op1 Op1q Op1a Cf Cl From
attribute [local irreducible] Ieee.Format.order Ieee.Format.read Ieee.Format.nearest Ieee.Format.write Ieee.Format.mul Ieee.Format.div Ieee.Datum.order Ieee.Datum.integral smpE smp smpW K J U trE hdrE lchk firstNZ isNameB wid mism shE offs shortB anyLarge spanE folE rngE
set_option maxRecDepth 10000
variable {G : Base} {h : H}
set_option maxHeartbeats 4000000 in
theorem c165 {a b : Int} (hb : 0 < b) (hb2 : b ≤ 4000000) (ha : a.natAbs ≤ 4000000000000000) : Cl (mz G) (.func (.func 165) #[] #[]) [.int .i64 a, .int .i64 b] h (.int .i64 (a / b)) h := by
 have hq := Int.natAbs_tdiv_le_natAbs a b
 have e := Int.mul_tdiv_add_tmod a b
 have l1 := Int.tmod_lt_of_pos a hb
 have l2 : -b < a.tmod b := by
   have := Int.tmod_lt_of_pos (-a) hb
   rw [Int.neg_tmod] at this
   omega
 obtain ⟨Q, hQ⟩ : ∃ Q, a.tdiv b = Q := ⟨_, rfl⟩
 obtain ⟨R, hR⟩ : ∃ Q, a.tmod b = Q := ⟨_, rfl⟩
 rw [hQ] at hq e
 rw [hR] at e l1 l2
 obtain ⟨P, hP⟩ : ∃ P, Q * b = P := ⟨_, rfl⟩
 have hPe : P + R = a := by rw [← hP, Int.mul_comm]; exact e
 have hQw : IntKind.wrap .i64 (a.tdiv b) = Q := by rw [hQ]; exact w64 (by omega) (by omega)
 have hPw : IntKind.wrap .i64 (Q * b) = P := by rw [hP]; exact w64 (by omega) (by omega)
 by_cases hr : R < 0
 · have hf : a / b = Q - 1 := ((Int.ediv_emod_unique (a := a) (b := b) (r := R + b) (q := Q - 1) hb).2 ⟨by rw [Int.mul_sub, Int.mul_one, Int.mul_comm]; omega, by omega, by omega⟩).1
   rw [hf]
   refine cl_of_cf (cf_enter0 17 [.tmp 4] Tryz.func165 rfl rfl rfl rfl ?_)
   repeat' (first | with_reducible refine wo_nil ?_ | ((with_reducible refine wo_any ?_); first | refine wq_A (op_move rfl) ?_ | refine wq_A (op_assign rfl) ?_ | ((with_reducible refine ik_bin ?_); first | refine wq_A (op_quoV rfl rfl (by omega) hQw) ?_ | refine wq_A (op_mul' rfl rfl hPw) ?_ | refine wq_A (op_gtr rfl rfl) ?_ | refine wq_A (op_sub' rfl rfl (w64 (by omega) (by omega))) ?_)) | (with_reducible first | refine sq_norm ?_ | refine wc_seq ?_ | refine wc_region ?_ | refine wc_ret ?_) | (refine wc_if rfl (fun hb => ?_) (fun hb => dead_A hb); (try simp only [bb_A, reduceCtorEq] at hb)))
   all_goals exact rq1 rfl ⟨rfl, rfl⟩
 · have hf : a / b = Q := ((Int.ediv_emod_unique (a := a) (b := b) (r := R) (q := Q) hb).2 ⟨by rw [Int.mul_comm]; omega, by omega, by omega⟩).1
   rw [hf]
   refine cl_of_cf (cf_enter0 17 [.tmp 4] Tryz.func165 rfl rfl rfl rfl ?_)
   repeat' (first | with_reducible refine wo_nil ?_ | ((with_reducible refine wo_any ?_); first | refine wq_A (op_move rfl) ?_ | refine wq_A (op_assign rfl) ?_ | ((with_reducible refine ik_bin ?_); first | refine wq_A (op_quoV rfl rfl (by omega) hQw) ?_ | refine wq_A (op_mul' rfl rfl hPw) ?_ | refine wq_A (op_gtr rfl rfl) ?_)) | (with_reducible first | refine sq_norm ?_ | refine wc_seq ?_ | refine wc_region ?_ | refine wc_skip ?_ | refine wc_ret ?_) | (refine wc_if rfl (fun hb => dead_A hb) (fun hb => ?_); (try simp only [bb_A, reduceCtorEq] at hb)))
   all_goals exact rq1 rfl ⟨rfl, rfl⟩
set_option maxHeartbeats 4000000 in
theorem c131 {a b : Int} (hb : 0 < b) (hb2 : b ≤ 1000000) (ha : a.natAbs ≤ 1000000000000000) : Cl (mz G) (.func (.func 131) #[] #[]) [.int .i64 a, .int .i64 b] h (.int .i64 (rnd a b)) h := by
 have q := fun (h' : H) => c165 (G := G) (h := h') (a := 2 * a + b) (b := 2 * b) (by omega) (by omega) (by omega)
 unfold rnd
 refine cl_of_cf (cf_enter0 12 [.tmp 4] Tryz.func131 rfl rfl rfl rfl ?_)
 repeat' (first | with_reducible refine wo_nil ?_ | ((with_reducible refine wo_any ?_); first | refine wq_A (op_move rfl) ?_ | refine wq_A (op_assign rfl) ?_ | ((with_reducible refine ik_bin ?_); first | refine wq_A (op_mul' rfl rfl (w64 (by omega) (by omega))) ?_ | refine wq_A (op_add' rfl rfl (w64 (by omega) (by omega))) ?_) | ((with_reducible refine ik_callv ?_); refine wq_A (op_call rfl rfl (q _)) ?_)) | (with_reducible first | refine sq_norm ?_ | refine wc_seq ?_ | refine wc_region ?_ | refine wc_ret ?_))
 all_goals exact rq1 rfl ⟨rfl, rfl⟩
def putL (t : Trc) (l : List Nat) : Trc := ⟨t.hd, t.hole, t.sa, t.n, t.c, l⟩
structure OwnT (h : H) (lo : Nat) (us : List Trc) : Prop where
 at' : ∀ t ∈ us, TrAt h lo t
 pw : us.Pairwise fun t u => t.sa ≠ u.sa
theorem OwnT.grow {g : H} {lo : Nat} {us : List Trc} (o : OwnT h lo us) (gg : Grow h g) : OwnT g lo us := ⟨fun t ht => (o.at' t ht).grow gg, o.pw⟩
theorem OwnT.ne {lo : Nat} {us : List Trc} (o : OwnT h lo us) {i j : Nat} (hi : i < us.length) (hj : j < us.length) (hn : i ≠ j) : (us[i]).sa ≠ (us[j]).sa := by
 rcases Nat.lt_or_gt_of_ne hn with q | q
 · exact List.pairwise_iff_getElem.1 o.pw i j hi hj q
 · exact fun e => List.pairwise_iff_getElem.1 o.pw j i hj hi q e.symm
theorem OwnT.put {lo j b : Nat} {us : List Trc} {sf : Bool} (o : OwnT h lo us) (hj : j < us.length) (hb : (us[j]).sa = some ⟨b, 0, some 0⟩) (hat : ∃ c, At h b (.cells c 23 1 sf)) {l : List Nat} (hl : l.length = (us[j]).n) : OwnT (h.set b (.cells (l.map (.float .f32)) 23 1 sf)) lo (us.set j (putL us[j] l)) := by
 obtain ⟨c, hat⟩ := hat
 refine ⟨fun t ht => ?_, ?_⟩
 · obtain ⟨i, hi, rfl⟩ := List.mem_iff_getElem.1 ht
   have hi' : i < us.length := by simpa using hi
   rw [List.getElem_set]
   split
   · obtain ⟨b0, sf0, e1, e2, e3⟩ := (o.at' _ (List.getElem_mem hj)).at'
     rw [hb] at e1
     cases e1
     exact ⟨⟨b, sf, hb, e2, hat.set _⟩, hl, (o.at' _ (List.getElem_mem hj)).cap⟩
   · rename_i hne
     obtain ⟨b0, sf0, e1, e2, e3⟩ := (o.at' _ (List.getElem_mem hi')).at'
     have : b0 ≠ b := fun q => by
       subst q
       exact o.ne hi' hj (fun e => hne e.symm) (e1.trans hb.symm)
     exact ⟨⟨b0, sf0, e1, e2, e3.set_ne this _⟩, (o.at' _ (List.getElem_mem hi')).len, (o.at' _ (List.getElem_mem hi')).cap⟩
 · rw [List.pairwise_iff_getElem]
   intro i k hi hk hik
   have hi' : i < us.length := by simpa using hi
   have hk' : k < us.length := by simpa using hk
   have e : ∀ m (q : m < (us.set j (putL us[j] l)).length) (q' : m < us.length), ((us.set j (putL us[j] l))[m]).sa = (us[m]).sa := fun m q q' => by
     rw [List.getElem_set]
     split
     · subst m; rfl
     · rfl
   rw [e i hi hi', e k hk hk']
   exact o.ne hi' hk' (by omega)
theorem OwnT.nil {lo : Nat} : OwnT h lo [] := ⟨fun t ht => (by cases ht), List.Pairwise.nil⟩
theorem OwnT.bumpB {lo k : Nat} {us : List Trc} (o : OwnT h lo us) : OwnT (h.bump k) lo us := o.grow ((Grow.refl _).bumpB _)
theorem OwnT.pushB {lo : Nat} {us : List Trc} (o : OwnT h lo us) (ob : AObj) : OwnT (h.push ob) lo us := o.grow ((Grow.refl _).push _)
theorem OwnT.set {lo B : Nat} {us : List Trc} (o : OwnT h lo us) (hB : B < lo) (ob : AObj) : OwnT (h.set B ob) lo us := ⟨fun t ht => (o.at' t ht).set hB ob, o.pw⟩
theorem OwnT.ok {lo : Nat} {us : List Trc} (o : OwnT h lo us) : ∀ t ∈ us, TrOk G h t := fun t ht => (o.at' t ht).ok
/- Shots scaled by the reference. -/
def mixL (F : List Nat → List Nat) (l : List Nat) (i : Nat) : List Nat := (F l).take i ++ l.drop i
theorem mixL_zero {F : List Nat → List Nat} {l : List Nat} : mixL F l 0 = l := by simp [mixL]
theorem mixL_end {F : List Nat → List Nat} (hF : ∀ l, (F l).length = l.length) {l : List Nat} : mixL F l l.length = F l := by
 unfold mixL
 rw [List.drop_length, List.append_nil, List.take_of_length_le (by rw [hF]; exact Nat.le_refl _)]
theorem mixL_len {F : List Nat → List Nat} (hF : ∀ l, (F l).length = l.length) {l : List Nat} {i : Nat} : (mixL F l i).length = l.length := by
 unfold mixL
 rw [List.length_append, List.length_take, List.length_drop, hF]
 omega
theorem mixL_get {F : List Nat → List Nat} (hF : ∀ l, (F l).length = l.length) {l : List Nat} {i : Nat} (hi : i < l.length) : (mixL F l i)[i]? = some l[i] := by
 unfold mixL
 have e : ((F l).take i).length = i := by rw [List.length_take, hF]; omega
 rw [List.getElem?_append_right (by omega), e, Nat.sub_self, List.getElem?_drop, Nat.add_zero, List.getElem?_eq_getElem hi]
theorem mixL_step {F : List Nat → List Nat} (hF : ∀ l, (F l).length = l.length) {l : List Nat} {i v : Nat} (hi : i < l.length) (hv : v = (F l)[i]'(by rw [hF]; exact hi)) : (mixL F l i).set i v = mixL F l (i + 1) := by
 subst hv
 unfold mixL
 have e : ((F l).take i).length = i := by rw [List.length_take, hF]; omega
 rw [List.set_append_right _ _ (by omega), e, Nat.sub_self, List.drop_eq_getElem_cons hi, List.set_cons_zero, List.take_succ_eq_append_getElem (by rw [hF]; exact hi), List.append_assoc]
 rfl
def mixT (F : List Nat → List Nat) (us : List Trc) (j : Nat) : List Trc := (us.take j).map (fun t => putL t (F t.l)) ++ us.drop j
theorem mixT_zero {F : List Nat → List Nat} {us : List Trc} : mixT F us 0 = us := by simp [mixT]
theorem mixT_len {F : List Nat → List Nat} {us : List Trc} {j : Nat} : (mixT F us j).length = us.length := by simp [mixT]; omega
theorem mixT_get {F : List Nat → List Nat} {us : List Trc} {j : Nat} (hj : j < us.length) : (mixT F us j)[j]'(by rw [mixT_len]; exact hj) = us[j] := by
 have e : (mixT F us j)[j]? = some us[j] := by
   unfold mixT
   rw [List.getElem?_append_right (by simp; omega)]
   simp [Nat.min_eq_left (Nat.le_of_lt hj)]
 rw [List.getElem?_eq_getElem (by rw [mixT_len]; exact hj)] at e
 exact Option.some.inj e
theorem mixT_step {F : List Nat → List Nat} {us : List Trc} {j : Nat} (hj : j < us.length) : (mixT F us j).set j (putL us[j] (F (us[j]).l)) = mixT F us (j + 1) := by
 unfold mixT
 have e : ((us.take j).map fun t => putL t (F t.l)).length = j := by simp; omega
 rw [List.set_append_right _ _ (by omega), e, Nat.sub_self, List.drop_eq_getElem_cons hj, List.set_cons_zero, List.take_succ_eq_append_getElem hj, List.map_append, List.append_assoc]
 rfl
theorem mixT_end {F : List Nat → List Nat} {us : List Trc} : mixT F us us.length = us.map fun t => putL t (F t.l) := by simp [mixT]
theorem flat_mixT {F : List Nat → List Nat} {us : List Trc} {j : Nat} : (mixT F us j).flatMap Trc.cells = us.flatMap Trc.cells := by
 unfold mixT
 rw [List.flatMap_append, List.flatMap_map]
 conv => rhs; rw [← List.take_append_drop j us, List.flatMap_append]
 rfl
def wrk (F : List Nat → List Nat) (us : List Trc) (j : Nat) (hj : j < us.length) (i : Nat) : List Trc := (mixT F us j).set j (putL us[j] (mixL F (us[j]).l i))
theorem wrk_len {F : List Nat → List Nat} {us : List Trc} {j i : Nat} {hj : j < us.length} : (wrk F us j hj i).length = us.length := by unfold wrk; rw [List.length_set, mixT_len]
theorem wrk_zero {F : List Nat → List Nat} {us : List Trc} {j : Nat} {hj : j < us.length} : wrk F us j hj 0 = mixT F us j := by
 unfold wrk
 rw [mixL_zero, show putL us[j] (us[j]).l = us[j] from rfl]
 refine List.ext_getElem (by simp) fun i h1 h2 => ?_
 rw [List.getElem_set]
 split
 · subst i; exact (mixT_get hj).symm
 · rfl
theorem wrk_end {F : List Nat → List Nat} (hF : ∀ l, (F l).length = l.length) {us : List Trc} {j : Nat} {hj : j < us.length} : wrk F us j hj (us[j]).l.length = mixT F us (j + 1) := by
 unfold wrk
 rw [mixL_end hF, mixT_step hj]
theorem wrk_get {F : List Nat → List Nat} {us : List Trc} {j i : Nat} {hj : j < us.length} : (wrk F us j hj i)[j]'(by rw [wrk_len]; exact hj) = putL us[j] (mixL F (us[j]).l i) := by
 unfold wrk
 rw [List.getElem_set, if_pos rfl]
theorem wrk_step {F : List Nat → List Nat} {us : List Trc} {j i : Nat} {hj : j < us.length} {l : List Nat} (hl : l = mixL F (us[j]).l (i + 1)) : (wrk F us j hj i).set j (putL ((wrk F us j hj i)[j]'(by rw [wrk_len]; exact hj)) l) = wrk F us j hj (i + 1) := by
 subst hl
 rw [wrk_get]
 unfold wrk
 rw [List.set_set]
 rfl
def sclG (x y : Int) (z : Nat) : Nat := smpW (rnd (smp z * x) y)
def sclB (x y : Int) (z : Nat) : Bool := isLargeB (rnd (smp z * x) y)
def sclBad (x y : Int) (ts : List Trc) : Bool := ts.any fun t => t.l.any (sclB x y)
def mapKey (g : Nat → Nat) (_ : Nat) (t : Trc) : Key := (t.hd, t.hole, t.n, t.l.map g)
theorem keys_map {g : Nat → Nat} {us ts : List Trc} (q : us.map Trc.key = ts.map Trc.key) : KeyAll (us.map fun t => putL t (t.l.map g)) ts (mapKey g) := by
 have hl : us.length = ts.length := by simpa using congrArg List.length q
 refine ⟨by simpa using hl, fun i q1 q2 => ?_⟩
 obtain ⟨e1, e2, e3, e4⟩ := key_eq (keys_at q (by simpa using q1) q2)
 rw [List.getElem_map]
 unfold mapKey Trc.key putL
 simp only [e1, e2, e3, e4]
theorem mul_bound' {x z : Int} (hx : x.natAbs ≤ 1024) (hz : z.natAbs ≤ 16384) : (z * x).natAbs ≤ 16777216 := by rw [Int.mul_comm]; exact mul_bound hx hz
set_option maxHeartbeats 4000000 in
theorem c53 {nm : ByteArray} {a : Option Addr} {n c : Nat} {ts : List Trc} {x y : Int} (s : SlT G h (.slice a n c) n ts) (hE : shE nm ts = 0) (hx : x.natAbs ≤ 1024) (hy : 0 < y) (hy2 : y ≤ 1024) (hw : Wf h) :
   Cf (mz G) (.func (.func 53) #[] #[]) [.agg ⟨shC nm a n c⟩, .int .i64 x, .int .i64 y] h fun r h' => ((sclBad x y ts = true ∧ r = .tuple #[.agg ⟨zShot⟩, .int .i64 4]) ∨ (sclBad x y ts = false ∧ ∃ (B : Nat) (vs : List Trc), r = .tuple #[.agg ⟨shC nm (some ⟨B, 0, some 0⟩) n n⟩, .int .i64 0] ∧ At h' B (.cells (vs.flatMap Trc.cells) 47 10 true) ∧ (∀ u ∈ vs, TrOk G h' u) ∧ KeyAll vs ts (mapKey (sclG x y)))) ∧ Grow h h' := by
 have hlen := s.len
 obtain ⟨v1, v2, v3, v4, v5⟩ := valid_facts s hE
 have q83 := fun (h' : H) (g : Grow h h') (w : Wf h') => c83p (nm := nm) (s.grow g) (by omega) v1.1 (fun t ht => by have := v3 t ht; omega) w
 refine cf_enter0 52 [.cell 6 43, .tmp 7] Tryz.func53 rfl rfl rfl rfl ?_
 refine wc_mid (ι := Unit) (fun _ => [(1, .int .i64 x), (2, .int .i64 y), (3, .pointer (some ⟨h.nx, 0, some 0⟩)), (6, .pointer (some ⟨h.nx + 1, 0, some 0⟩)), (7, .int .i64 0)]) (fun _ h1 => Wf h1 ∧ Grow h h1 ∧ h1.nx = h.nx + 2 ∧ At h1 h.nx (.cells (shC nm a n c) 43 2 false) ∧ At h1 (h.nx + 1) (.cells zShot 43 2 false)) ?_ ?_
 · repeat' (first | with_reducible refine wo_nil ?_ | ((with_reducible refine wo_any ?_); first | refine wq_A (op_assign rfl) ?_ | refine wq_A (op_boxAgg rfl zs43 rfl) ?_ | refine wq_A (op_alloc zz43 zs43 rfl rfl rfl) ?_) | with_reducible refine wc_region ?_)
   exact ⟨rfl, (), within_lk ⟨rfl, rfl, rfl, rfl, rfl, trivial⟩, wf_A, gr_A, rfl, at_A, at_A⟩
 rintro _ h1 ⟨w1, g1, n1, a0, a1⟩
 refine wc_mid (ι := Nat × Nat × List Trc) (fun i => [(1, .int .i64 x), (2, .int .i64 y), (6, .pointer (some ⟨h.nx + 1, 0, some 0⟩)), (7, .int .i64 0), (8, .pointer (some ⟨i.1, 0, some 0⟩))]) (fun i h2 => (Wf h2 ∧ Grow h h2 ∧ At h2 (h.nx + 1) (.cells zShot 43 2 false) ∧ At h2 i.1 (.cells (shC nm (some ⟨i.2.1, 0, some 0⟩) n n) 43 2 false) ∧ At h2 i.2.1 (.cells (i.2.2.flatMap Trc.cells) 47 10 true)) ∧ OwnT h2 (h.nx + 3) i.2.2 ∧ i.2.2.map Trc.key = ts.map Trc.key ∧ h.nx + 3 ≤ i.2.1 ∧ h.nx + 3 ≤ i.1) ?_ ?_
 · repeat' (first | with_reducible refine wo_nil ?_ | ((with_reducible refine wo_any ?_); first | refine wq_A (op_alloc zz43 zs43 rfl rfl rfl) ?_ | refine wq_A (op_ldAgg rfl at_A Tryz.underlying43 rfl zs43 rfl rfl) ?_ | refine wq_B (op_stAgg rfl rfl at_A zs43 rfl rfl rfl rfl) ?_ | ((with_reducible refine ik_callv ?_); (refine wo_call rfl rfl rfl rfl (q83 _ gr_A wf_A) rfl rfl ?_; rintro _ _ ⟨⟨B, us, rfl, hB, hatB, hut, hky, hpw⟩, hq⟩; all_goals ((try (have hqn := hq.nx)); (try simp only [nx_A] at hqn))))) | with_reducible refine wc_region ?_)
   refine ⟨rfl, (_, B, us), within_lk ⟨rfl, rfl, rfl, rfl, rfl, trivial⟩, ?_⟩
   have lB := hatB.lt
   dsimp only
   exact ⟨⟨wf_A, gr_A, at_A, at_A, at_A⟩, (OwnT.mk (fun t ht => (hut t ht).le (by omega)) hpw).grow gr_A, hky, by omega, (by show h.nx + 3 ≤ H.nx _; omega)⟩
 clear w1 g1 n1 a0 a1 h1 q83
 rintro ⟨b8, B, us⟩ h1 ⟨⟨w1, g1, a1, a8, aB⟩, ow, hky, hB, hb8⟩
 simp only at a8 aB ow hky hB hb8
 have hul : us.length = n := by have := congrArg List.length hky; simp at this; omega
 have hv : ∀ t ∈ us, t.l.length = t.n ∧ t.n ≤ 1024 ∧ ∀ z ∈ t.l, smpE z = 0 := fun t ht => by
   obtain ⟨i, hi, rfl⟩ := List.mem_iff_getElem.1 ht
   obtain ⟨e1, e2, e3, e4⟩ := key_eq (keys_at hky hi (by omega))
   rw [e3, e4]
   have := List.getElem_mem (show i < ts.length by omega)
   exact ⟨v2 _ this, v3 _ this, v4 _ this⟩
 have hbd : sclBad x y ts = us.any fun t => t.l.any (sclB x y) := by
   unfold sclBad
   have e : ∀ (l l' : List Trc), l.map Trc.key = l'.map Trc.key → (l'.any fun t => t.l.any (sclB x y)) = l.any fun t => t.l.any (sclB x y) := by
     intro l
     induction l with
     | nil => intro l' q; cases l' with
       | nil => rfl
       | cons _ _ => simp at q
     | cons t l ih => intro l' q; cases l' with
       | nil => simp at q
       | cons t' l' =>
         obtain ⟨q1, q2⟩ := keys_cons q
         rw [List.any_cons, List.any_cons, ih l' q2, (key_eq q1).2.2.2]
   exact e us ts hky
 rw [hbd]
 obtain ⟨g, hg⟩ : ∃ g, sclG x y = g := ⟨_, rfl⟩
 rw [hg]
 have hgz : ∀ z, smpW (rnd (smp z * x) y) = g z := fun z => by rw [← hg]; rfl
 have hF : ∀ l : List Nat, (List.map g l).length = l.length := fun l => List.length_map _
 clear hg hbd
 repeat' (first | with_reducible refine wo_nil ?_ | ((with_reducible refine wo_any ?_); refine wq_A (op_assign rfl) ?_) | (with_reducible first | refine sq_norm ?_ | refine wc_seq ?_ | refine wc_region ?_ | refine wc_block ?_))
 refine wc_loop (fun j => n - j) (fun j : Nat => [(1, .int .i64 x), (2, .int .i64 y), (6, .pointer (some ⟨h.nx + 1, 0, some 0⟩)), (7, .int .i64 0), (8, .pointer (some ⟨b8, 0, some 0⟩)), (9, .int .i64 j)]) (fun j h2 => (Wf h2 ∧ Grow h h2 ∧ At h2 (h.nx + 1) (.cells zShot 43 2 false) ∧ At h2 b8 (.cells (shC nm (some ⟨B, 0, some 0⟩) n n) 43 2 false) ∧ At h2 B (.cells (us.flatMap Trc.cells) 47 10 true)) ∧ OwnT h2 (h.nx + 3) (mixT (List.map g) us j) ∧ j ≤ n ∧ ((us.drop j).any fun t => t.l.any (sclB x y)) = us.any fun t => t.l.any (sclB x y)) 0 (within_lk ⟨rfl, rfl, rfl, rfl, rfl, rfl, trivial⟩) ⟨⟨w1, g1, a1, a8, aB⟩, by rw [mixT_zero]; exact ow, Nat.zero_le _, rfl⟩ ?_
 clear w1 g1 a1 a8 aB ow h1
 rintro j h1 ⟨⟨w1, g1, a1, a8, aB⟩, ow, hj, hi⟩
 by_cases hlt : j < n
 · have hju : j < us.length := by omega
   have hcell := flat_mixT (F := List.map g) (us := us) (j := j)
   have sl : SlT G h1 (.slice (some ⟨B, 0, some 0⟩) n n) n (mixT (List.map g) us j) := ⟨Sl.ofAt (by rw [hcell]; exact aB) (by rw [flat_len, mixT_len, hul]) (Nat.le_refl _), by rw [mixT_len, hul], ow.ok⟩
   obtain ⟨ad, f1, f3⟩ := slT_at sl Tryz.underlying41 zs47 (i := (j : Int)) hlt rfl
   rw [mixT_get hju] at f3
   obtain ⟨bj, sf, hsa, hbj, hatj⟩ := (ow.at' _ (List.getElem_mem (show j < (mixT (List.map g) us j).length by rw [mixT_len]; exact hju))).at'
   have hcap := (ow.at' _ (List.getElem_mem (show j < (mixT (List.map g) us j).length by rw [mixT_len]; exact hju))).cap
   rw [mixT_get hju] at hsa hcap
   have hvt := hv _ (List.getElem_mem hju)
   rw [List.drop_eq_getElem_cons hju, List.any_cons] at hi
   have f9 : acell G h1 (aadd ad 9) = some (.slice (some ⟨bj, 0, some 0⟩) (us[j]).n (us[j]).n) := by
     have := f3.get 9 (.slice (us[j]).sa (us[j]).n (us[j]).c) rfl
     rw [hsa, hcap] at this
     exact this
   repeat' (first | with_reducible refine wo_nil ?_ | ((with_reducible refine wo_any ?_); first | refine wq_A (op_move rfl) ?_ | refine wq_A (op_assign rfl) ?_ | refine wq_A (op_indexAddr rfl rfl f1) ?_ | ((with_reducible refine ik_load ?_); first | refine wq_A (op_ldCell rfl Tryz.underlying45 rfl f9) ?_ | refine wq_A (op_ldAt rfl at_A Tryz.underlying41 rfl rfl) ?_) | ((with_reducible refine ik_fieldAddr ?_); first | refine wq_A (op_fieldAddr (o := 1) rfl Tryz.underlying43 rfl zs41 rfl) ?_ | refine wq_A (op_fieldAddr (o := 9) rfl Tryz.underlying47 rfl zs45 rfl) ?_) | refine wq_A (op_lenSl rfl Tryz.underlying41) ?_ | refine wq_A (op_lss rfl rfl) ?_) | (with_reducible first | refine sq_norm ?_ | refine wc_seq ?_ | refine wc_region ?_ | refine wc_skip ?_ | refine wc_block ?_) | (refine wc_if rfl (fun hb => ?_) (fun hb => ?_) <;> (try simp only [bb_A, reduceCtorEq] at hb) <;> (try (exfalso; omega))))
   rw [← wrk_zero (hj := hju)] at ow
   refine wc_loop (fun i => (us[j]).n - i) (fun i : Nat => [(1, .int .i64 x), (2, .int .i64 y), (6, .pointer (some ⟨h.nx + 1, 0, some 0⟩)), (7, .int .i64 0), (8, .pointer (some ⟨b8, 0, some 0⟩)), (9, .int .i64 j), (10, .slice (some ⟨bj, 0, some 0⟩) (us[j]).n (us[j]).n), (11, .int .i64 i)]) (fun i h2 => (Wf h2 ∧ Grow h h2 ∧ At h2 (h.nx + 1) (.cells zShot 43 2 false) ∧ At h2 b8 (.cells (shC nm (some ⟨B, 0, some 0⟩) n n) 43 2 false) ∧ At h2 B (.cells (us.flatMap Trc.cells) 47 10 true)) ∧ OwnT h2 (h.nx + 3) (wrk (List.map g) us j hju i) ∧ i ≤ (us[j]).n ∧ ((us[j]).l.drop i).any (sclB x y) = (us[j]).l.any (sclB x y)) 0 (within_lk ⟨rfl, rfl, rfl, rfl, rfl, rfl, rfl, rfl, trivial⟩) ⟨⟨w1, g1, a1, a8, aB⟩, ow, Nat.zero_le _, rfl⟩ ?_
   clear w1 g1 a1 a8 aB ow sl f1 f3 f9 hatj hcell h1
   rintro i h1 ⟨⟨w1, g1, a1, a8, aB⟩, ow, hii, hi2⟩
   have hgn := g1.nx
   by_cases hlt2 : i < (us[j]).n
   · have hil : i < (us[j]).l.length := by omega
     rw [List.drop_eq_getElem_cons hil, List.any_cons] at hi2
     obtain ⟨bj', sf2, hsa2, hbj2, hatj⟩ := (ow.at' _ (List.getElem_mem (show j < (wrk (List.map g) us j hju i).length by rw [wrk_len]; exact hju))).at'
     have hput := fun (l : List Nat) (hl : l.length = (us[j]).n) => ow.put (j := j) (b := bj) (sf := sf2) (by rw [wrk_len]; exact hju) (by rw [wrk_get]; exact hsa) (l := l)
     rw [wrk_get] at hsa2 hatj
     have : bj' = bj := by
       have e : (us[j]).sa = some ⟨bj', 0, some 0⟩ := hsa2
       rw [hsa] at e
       cases e; rfl
     subst this
     have hatj : At h1 bj' (.cells ((mixL (List.map g) (us[j]).l i).map (.float .f32)) 23 1 sf2) := hatj
     have hput := hput ((mixL (List.map g) (us[j]).l i).set i (g (us[j]).l[i])) (by rw [List.length_set, mixL_len hF]; exact hvt.1) ⟨_, hatj⟩ (by rw [wrk_get, List.length_set, mixL_len hF]; exact hvt.1)
     rw [wrk_step (mixL_step hF hil (by rw [List.getElem_map]))] at hput
     have hz0 := hvt.2.2 _ (List.getElem_mem hil)
     have hgt := mixL_get (F := List.map g) hF hil
     have hgi := hgz ((us[j]).l[i])
     obtain ⟨z, hz⟩ : ∃ z, (us[j]).l[i] = z := ⟨_, rfl⟩
     rw [hz] at hz0 hgt hput hi2 hgi
     have hld : (((mixL (List.map g) (us[j]).l i).map (Value.float .f32)))[i]? = some (.float .f32 z) := by rw [List.getElem?_map, hgt]; rfl
     have hml := mul_bound' hx (smp_le hz0)
     have hmw : IntKind.wrap .i64 (smp z * x) = smp z * x := w64 (by omega) (by omega)
     have q131 := fun (h' : H) => c131 (G := G) (h := h') (a := smp z * x) (b := y) hy (by omega) (by omega)
     have q129 := fun (h' : H) => c129 (G := G) (h := h') (rnd (smp z * x) y)
     have q128 := fun (h' : H) => c128 (G := G) (h := h') hz0
     have hset : ((mixL (List.map g) (us[j]).l i).map (Value.float .f32)).set i (.float .f32 (g z)) = ((mixL (List.map g) (us[j]).l i).set i (g z)).map (.float .f32) := by rw [List.map_set]
     rw [show sclB x y z = isLargeB (rnd (smp z * x) y) from rfl] at hi2
     obtain ⟨LB, hLB⟩ : ∃ LB, isLargeB (rnd (smp z * x) y) = LB := ⟨_, rfl⟩
     rw [hLB] at q129 hi2
     cases LB with
     | true =>
       rw [← hi, ← hi2]
       repeat' (first | with_reducible refine wo_nil ?_ | ((with_reducible refine wo_any ?_); first | refine wq_A (op_move rfl) ?_ | refine wq_A (op_assign rfl) ?_ | refine wq_A (op_idxSl (b := bj') (o := i) rfl rfl Tryz.underlying45 zs23 (by omega) (by omega) (by omega)) ?_ | refine wq_A (op_ldIdx (b := bj') rfl hatj Tryz.underlying23 rfl hld) ?_ | ((with_reducible refine ik_bin ?_); first | refine wq_A (op_mul' rfl rfl hmw) ?_ | refine wq_A (op_lss rfl rfl) ?_) | refine wq_B (op_stAgg rfl rfl at_A zs43 rfl rfl rfl rfl) ?_ | refine wq_A (op_lenSl rfl Tryz.underlying45) ?_ | refine wq_A (op_buildT rfl zz43 zp43 rfl rfl) ?_ | ((with_reducible refine ik_callv ?_); first | refine wq_A (op_call rfl rfl (q128 _)) ?_ | refine wq_A (op_call rfl rfl (q131 _)) ?_ | refine wq_A (op_call rfl rfl (q129 _)) ?_)) | (with_reducible first | refine sq_norm ?_ | refine wc_seq ?_ | refine wc_region ?_ | refine wc_skip ?_ | refine wc_ret ?_ | refine wc_block ?_ | refine bq_ret ?_ | refine sq_ret ?_ | refine lq_ret ?_) | refine wc_ift rfl ?_ | (refine wc_if rfl (fun hb => ?_) (fun hb => dead_A hb); (try simp only [bb_A, reduceCtorEq] at hb)))
       all_goals exact rqc2 rfl (ldAgg at_A Tryz.underlying43 rfl zs43 rfl rfl) rfl ⟨.inl ⟨rfl, rfl⟩, gr_A⟩
     | false =>
       rw [show (false || ((us[j]).l.drop (i + 1)).any (sclB x y)) = ((us[j]).l.drop (i + 1)).any (sclB x y) from rfl] at hi2
       have hb2 : (rnd (smp z * x) y).natAbs ≤ 16384 := by
         unfold isLargeB at hLB
         have := of_decide_eq_false hLB
         omega
       have q130 := fun (h' : H) => c130 (G := G) (h := h') hb2
       simp only [hgi] at q130
       have ne8 : b8 ≠ bj' := fun e => by subst e; have := a8.get.symm.trans hatj.get; simp at this
       have neB : B ≠ bj' := fun e => by subst e; have := aB.get.symm.trans hatj.get; simp at this
       repeat' (first | with_reducible refine wo_nil ?_ | ((with_reducible refine wo_any ?_); first | refine wq_A (op_move rfl) ?_ | refine wq_A (op_assign rfl) ?_ | refine wq_A (op_idxSl (b := bj') (o := i) rfl rfl Tryz.underlying45 zs23 (by omega) (by omega) (by omega)) ?_ | refine wq_A (op_ldIdx (b := bj') rfl hatj Tryz.underlying23 rfl hld) ?_ | ((with_reducible refine ik_bin ?_); first | refine wq_A (op_mul' rfl rfl hmw) ?_ | refine wq_A (op_lss rfl rfl) ?_ | refine wq_A (op_add' rfl rfl (w64 (by omega) (by omega))) ?_) | ((with_reducible refine ik_store ?_); refine wq_B (op_stIdx (b := bj') rfl rfl hatj rfl zs23 (by rw [List.length_map, mixL_len hF]; omega) rfl hset) ?_) | refine wq_A (op_lenSl rfl Tryz.underlying45) ?_ | ((with_reducible refine ik_callv ?_); first | refine wq_A (op_call rfl rfl (q128 _)) ?_ | refine wq_A (op_call rfl rfl (q131 _)) ?_ | refine wq_A (op_call rfl rfl (q129 _)) ?_ | refine wq_A (op_call rfl rfl (q130 _)) ?_)) | (with_reducible first | refine sq_norm ?_ | refine wc_seq ?_ | refine wc_region ?_ | refine wc_skip ?_ | refine wc_block ?_ | refine bq_norm ?_) | refine wc_iff rfl ?_ | (refine wc_if rfl (fun hb => ?_) (fun hb => dead_A hb); (try simp only [bb_A, reduceCtorEq] at hb)))
       all_goals exact lq_norm (i + 1) (by omega) (within_lk ⟨rfl, rfl, rfl, rfl, rfl, rfl, rfl, rfl, trivial⟩) ⟨⟨wf_A, gr_A, at_A, at_A, at_A⟩, hput, by omega, hi2⟩
   · have hie : i = (us[j]).n := by omega
     have hie2 : i = (us[j]).l.length := by omega
     rw [List.drop_eq_nil_of_le (by omega)] at hi2
     rw [← hi2, show (([] : List Nat).any (sclB x y) || (us.drop (j + 1)).any fun t => t.l.any (sclB x y)) = (us.drop (j + 1)).any fun t => t.l.any (sclB x y) from rfl] at hi
     rw [hie2, wrk_end hF] at ow
     repeat' (first | with_reducible refine wo_nil ?_ | ((with_reducible refine wo_any ?_); first | refine wq_A (op_move rfl) ?_ | refine wq_A (op_assign rfl) ?_ | refine wq_A (op_lenSl rfl Tryz.underlying45) ?_ | ((with_reducible refine ik_bin ?_); first | refine wq_A (op_lss rfl rfl) ?_ | refine wq_A (op_add' rfl rfl (w64 (by omega) (by omega))) ?_)) | (with_reducible first | refine sq_norm ?_ | refine wc_seq ?_ | refine wc_region ?_ | refine wc_exit ?_ | refine bq_norm ?_ | refine sq_exit ?_ | refine lq_exit ?_) | refine bq_eq rfl ?_ | (refine wc_if rfl (fun hb => dead_A hb) (fun hb => ?_); (try simp only [bb_A, reduceCtorEq] at hb)))
     all_goals exact lq_norm (j + 1) (by omega) (within_lk ⟨rfl, rfl, rfl, rfl, rfl, rfl, trivial⟩) ⟨⟨wf_A, gr_A, at_A, at_A, at_A⟩, ow, by omega, hi⟩
 · have hje : j = us.length := by omega
   rw [List.drop_eq_nil_of_le (by omega)] at hi
   rw [← hi]
   rw [hje, mixT_end] at ow
   have ak : KeyAll (us.map fun t => putL t (t.l.map g)) ts (mapKey g) := keys_map hky
   have fl : (us.map fun t => putL t (t.l.map g)).flatMap Trc.cells = us.flatMap Trc.cells := by rw [List.flatMap_map]; rfl
   repeat' (first | with_reducible refine wo_nil ?_ | ((with_reducible refine wo_any ?_); first | refine wq_A (op_move rfl) ?_ | refine wq_A (op_assign rfl) ?_ | ((with_reducible refine ik_load ?_); first | refine wq_A (op_ldAgg rfl at_A Tryz.underlying43 rfl zs43 rfl rfl) ?_ | refine wq_A (op_ldAt rfl at_A Tryz.underlying41 rfl rfl) ?_) | refine wq_B (op_stAgg rfl rfl at_A zs43 rfl rfl rfl rfl) ?_ | refine wq_A (op_fieldAddr (o := 1) rfl Tryz.underlying43 rfl zs41 rfl) ?_ | refine wq_A (op_lenSl rfl Tryz.underlying41) ?_ | refine wq_A (op_lss rfl rfl) ?_) | (with_reducible first | refine sq_norm ?_ | refine wc_seq ?_ | refine wc_region ?_ | refine wc_ret ?_ | refine wc_exit ?_ | refine sq_exit ?_ | refine lq_exit ?_) | refine bq_eq rfl ?_ | (refine wc_if rfl (fun hb => dead_A hb) (fun hb => ?_); (try simp only [bb_A, reduceCtorEq] at hb)))
   all_goals exact rqc2 rfl (ldAgg at_A Tryz.underlying43 rfl zs43 rfl rfl) rfl ⟨.inr ⟨rfl, B, _, rfl, by rw [fl]; exact at_A, (ow.set (by omega) _).ok, ak⟩, gr_A⟩
/- Shots delayed by the reference. -/
def dlyN (x : Int) (l : List Nat) (i : Nat) : Nat := if 0 ≤ (i : Int) - x ∧ (i : Int) - x < l.length then l.getD ((i : Int) - x).toNat 0 else 0
def dlyG (x : Int) (l : List Nat) : List Nat := (List.range l.length).map (dlyN x l)
def lstKey (F : List Nat → List Nat) (_ : Nat) (t : Trc) : Key := (t.hd, t.hole, t.n, F t.l)
theorem keys_lst {F : List Nat → List Nat} {us ts : List Trc} (q : us.map Trc.key = ts.map Trc.key) : KeyAll (us.map fun t => putL t (F t.l)) ts (lstKey F) := by
 have hl : us.length = ts.length := by simpa using congrArg List.length q
 refine ⟨by simpa using hl, fun i q1 q2 => ?_⟩
 obtain ⟨e1, e2, e3, e4⟩ := key_eq (keys_at q (by simpa using q1) q2)
 rw [List.getElem_map]
 unfold lstKey Trc.key putL
 simp only [e1, e2, e3, e4]
set_option maxHeartbeats 4000000 in
theorem c54 {nm : ByteArray} {a : Option Addr} {n c : Nat} {ts : List Trc} {x : Int} (s : SlT G h (.slice a n c) n ts) (hE : shE nm ts = 0) (hx : x.natAbs ≤ 1024) (hw : Wf h) :
   Cf (mz G) (.func (.func 54) #[] #[]) [.agg ⟨shC nm a n c⟩, .int .i64 x] h fun r h' => (∃ (B : Nat) (vs : List Trc), r = .agg ⟨shC nm (some ⟨B, 0, some 0⟩) n n⟩ ∧ At h' B (.cells (vs.flatMap Trc.cells) 47 10 true) ∧ (∀ u ∈ vs, TrOk G h' u) ∧ KeyAll vs ts (lstKey (dlyG x))) ∧ Grow h h' := by
 have hlen := s.len
 obtain ⟨v1, v2, v3, v4, v5⟩ := valid_facts s hE
 have q83 := fun (h' : H) (g : Grow h h') (w : Wf h') => c83p (nm := nm) (s.grow g) (by omega) v1.1 (fun t ht => by have := v3 t ht; omega) w
 refine cf_enter0 73 [.cell 4 43] Tryz.func54 rfl rfl rfl rfl ?_
 refine wc_mid (ι := Unit) (fun _ => [(1, .int .i64 x), (2, .pointer (some ⟨h.nx, 0, some 0⟩)), (4, .pointer (some ⟨h.nx + 1, 0, some 0⟩))]) (fun _ h1 => Wf h1 ∧ Grow h h1 ∧ h1.nx = h.nx + 2 ∧ At h1 h.nx (.cells (shC nm a n c) 43 2 false) ∧ At h1 (h.nx + 1) (.cells zShot 43 2 false)) ?_ ?_
 · repeat' (first | with_reducible refine wo_nil ?_ | ((with_reducible refine wo_any ?_); first | refine wq_A (op_boxAgg rfl zs43 rfl) ?_ | refine wq_A (op_alloc zz43 zs43 rfl rfl rfl) ?_) | with_reducible refine wc_region ?_)
   exact ⟨rfl, (), within_lk ⟨rfl, rfl, rfl, trivial⟩, wf_A, gr_A, rfl, at_A, at_A⟩
 rintro _ h1 ⟨w1, g1, n1, a0, a1⟩
 refine wc_mid (ι := Nat × Nat × List Trc) (fun i => [(1, .int .i64 x), (2, .pointer (some ⟨h.nx, 0, some 0⟩)), (4, .pointer (some ⟨h.nx + 1, 0, some 0⟩)), (5, .pointer (some ⟨i.1, 0, some 0⟩))]) (fun i h2 => (Wf h2 ∧ Grow h h2 ∧ At h2 h.nx (.cells (shC nm a n c) 43 2 false) ∧ At h2 (h.nx + 1) (.cells zShot 43 2 false) ∧ At h2 i.1 (.cells (shC nm (some ⟨i.2.1, 0, some 0⟩) n n) 43 2 false) ∧ At h2 i.2.1 (.cells (i.2.2.flatMap Trc.cells) 47 10 true)) ∧ OwnT h2 (h.nx + 3) i.2.2 ∧ i.2.2.map Trc.key = ts.map Trc.key ∧ h.nx + 3 ≤ i.2.1 ∧ h.nx + 3 ≤ i.1) ?_ ?_
 · repeat' (first | with_reducible refine wo_nil ?_ | ((with_reducible refine wo_any ?_); first | refine wq_A (op_alloc zz43 zs43 rfl rfl rfl) ?_ | refine wq_A (op_ldAgg rfl at_A Tryz.underlying43 rfl zs43 rfl rfl) ?_ | refine wq_B (op_stAgg rfl rfl at_A zs43 rfl rfl rfl rfl) ?_ | ((with_reducible refine ik_callv ?_); (refine wo_call rfl rfl rfl rfl (q83 _ gr_A wf_A) rfl rfl ?_; rintro _ _ ⟨⟨B, us, rfl, hB, hatB, hut, hky, hpw⟩, hq⟩; all_goals ((try (have hqn := hq.nx)); (try simp only [nx_A] at hqn))))) | with_reducible refine wc_region ?_)
   refine ⟨rfl, (_, B, us), within_lk ⟨rfl, rfl, rfl, rfl, trivial⟩, ?_⟩
   have lB := hatB.lt
   dsimp only
   exact ⟨⟨wf_A, gr_A, at_A, at_A, at_A, at_A⟩, (OwnT.mk (fun t ht => (hut t ht).le (by omega)) hpw).grow gr_A, hky, by omega, (by show h.nx + 3 ≤ H.nx _; omega)⟩
 clear w1 g1 n1 a0 a1 h1 q83
 rintro ⟨b5, B, us⟩ h1 ⟨⟨w1, g1, a0, a1, a5, aB⟩, ow, hky, hB, hb5⟩
 simp only at a5 aB ow hky hB hb5
 have hul : us.length = n := by have := congrArg List.length hky; simp at this; omega
 obtain ⟨F, hFe⟩ : ∃ F, dlyG x = F := ⟨_, rfl⟩
 have hF : ∀ l : List Nat, (F l).length = l.length := fun l => by rw [← hFe]; simp [dlyG]
 have hFi : ∀ (l : List Nat) (i : Nat) (q : i < (F l).length), (F l)[i] = dlyN x l i := fun l i q => by subst hFe; simp [dlyG]
 rw [hFe]
 clear hFe
 repeat' (first | with_reducible refine wo_nil ?_ | ((with_reducible refine wo_any ?_); refine wq_A (op_assign rfl) ?_) | (with_reducible first | refine sq_norm ?_ | refine wc_seq ?_ | refine wc_region ?_ | refine wc_block ?_))
 refine wc_loop (fun j => n - j) (fun j : Nat => [(1, .int .i64 x), (2, .pointer (some ⟨h.nx, 0, some 0⟩)), (4, .pointer (some ⟨h.nx + 1, 0, some 0⟩)), (5, .pointer (some ⟨b5, 0, some 0⟩)), (6, .int .i64 j)]) (fun j h2 => (Wf h2 ∧ Grow h h2 ∧ At h2 h.nx (.cells (shC nm a n c) 43 2 false) ∧ At h2 (h.nx + 1) (.cells zShot 43 2 false) ∧ At h2 b5 (.cells (shC nm (some ⟨B, 0, some 0⟩) n n) 43 2 false) ∧ At h2 B (.cells (us.flatMap Trc.cells) 47 10 true)) ∧ OwnT h2 (h.nx + 3) (mixT F us j) ∧ j ≤ n) 0 (within_lk ⟨rfl, rfl, rfl, rfl, rfl, trivial⟩) ⟨⟨w1, g1, a0, a1, a5, aB⟩, by rw [mixT_zero]; exact ow, Nat.zero_le _⟩ ?_
 clear w1 g1 a0 a1 a5 aB ow h1
 rintro j h1 ⟨⟨w1, g1, a0, a1, a5, aB⟩, ow, hj⟩
 by_cases hlt : j < n
 · have hju : j < us.length := by omega
   have hjt : j < ts.length := by omega
   obtain ⟨bj, sf, hsa, hbj, hatj⟩ := (ow.at' _ (List.getElem_mem (show j < (mixT F us j).length by rw [mixT_len]; exact hju))).at'
   have hcap := (ow.at' _ (List.getElem_mem (show j < (mixT F us j).length by rw [mixT_len]; exact hju))).cap
   rw [mixT_get hju] at hsa hcap
   have hcell : (us.flatMap Trc.cells)[j * 10 + 9]? = some (.slice (some ⟨bj, 0, some 0⟩) (us[j]).n (us[j]).n) := by
     rw [flat_get (by omega) us j hju]
     have : (us[j]).cells[9]? = some (.slice (us[j]).sa (us[j]).n (us[j]).c) := rfl
     rw [this, hsa, hcap]
   have hflen : (us.flatMap Trc.cells).length = n * 10 := by rw [flat_len, hul]
   obtain ⟨k1, k2, k3, k4⟩ := key_eq (keys_at hky hju hjt)
   have hm := List.getElem_mem hjt
   have ot := s.ok _ hm
   have e2 := v2 _ hm
   have e3 := v3 _ hm
   have e4 := v4 _ hm
   obtain ⟨ado, f1, f3⟩ := slT_at s Tryz.underlying41 zs47 (i := (j : Int)) hlt rfl
   obtain ⟨T, hT⟩ : ∃ T, ts[j] = T := ⟨_, rfl⟩
   rw [hT] at k1 k2 k3 k4 ot e2 e3 e4 f3
   clear hT hm
   obtain ⟨hd, hole, sa, tn, tc, tl⟩ := T
   simp only at k3 k4 ot e2 e3 e4
   have osl := ot.sl
   simp only at osl
   dsimp only [Trc.cells] at f3
   have qo9 := fun (g : H) (gg : Grow h g) => (f3.grow gg).get 9 _ rfl
   obtain ⟨UL, hUL⟩ : ∃ UL, us[j] = UL := ⟨_, rfl⟩
   rw [k3] at hcell hcap
   repeat' (first | with_reducible refine wo_nil ?_ | ((with_reducible refine wo_any ?_); first | refine wq_A (op_move rfl) ?_ | refine wq_A (op_assign rfl) ?_ | refine wq_A (op_ldAt rfl at_A Tryz.underlying41 rfl rfl) ?_ | refine wq_A (op_fieldAddr (o := 1) rfl Tryz.underlying43 rfl zs41 rfl) ?_ | refine wq_A (op_lenSl rfl Tryz.underlying41) ?_ | refine wq_A (op_lss rfl rfl) ?_) | (with_reducible first | refine sq_norm ?_ | refine wc_seq ?_ | refine wc_region ?_ | refine wc_skip ?_ | refine wc_block ?_) | (refine wc_if rfl (fun hb => ?_) (fun hb => ?_) <;> (try simp only [bb_A, reduceCtorEq] at hb) <;> (try (exfalso; omega))))
   rw [← wrk_zero (hj := hju)] at ow
   refine wc_loop (fun i => tn - i) (fun i : Nat => [(1, .int .i64 x), (2, .pointer (some ⟨h.nx, 0, some 0⟩)), (4, .pointer (some ⟨h.nx + 1, 0, some 0⟩)), (5, .pointer (some ⟨b5, 0, some 0⟩)), (6, .int .i64 j), (7, .int .i64 i)]) (fun i h2 => (Wf h2 ∧ Grow h h2 ∧ At h2 h.nx (.cells (shC nm a n c) 43 2 false) ∧ At h2 (h.nx + 1) (.cells zShot 43 2 false) ∧ At h2 b5 (.cells (shC nm (some ⟨B, 0, some 0⟩) n n) 43 2 false) ∧ At h2 B (.cells (us.flatMap Trc.cells) 47 10 true)) ∧ OwnT h2 (h.nx + 3) (wrk F us j hju i) ∧ i ≤ tn) 0 (within_lk ⟨rfl, rfl, rfl, rfl, rfl, rfl, trivial⟩) ⟨⟨w1, g1, a0, a1, a5, aB⟩, ow, Nat.zero_le _⟩ ?_
   clear w1 g1 a0 a1 a5 aB ow hatj h1
   rintro i h1 ⟨⟨w1, g1, a0, a1, a5, aB⟩, ow, hii⟩
   have hgn := g1.nx
   have l5 := a5.lt
   have lB := aB.lt
   by_cases hlt2 : i < tn
   · have hil : i < (us[j]).l.length := by rw [k4]; omega
     obtain ⟨bj', sf2, hsa2, hbj2, hatj⟩ := (ow.at' _ (List.getElem_mem (show j < (wrk F us j hju i).length by rw [wrk_len]; exact hju))).at'
     have hput := fun (l : List Nat) (hl : l.length = (us[j]).n) => ow.put (j := j) (b := bj) (sf := sf2) (by rw [wrk_len]; exact hju) (by rw [wrk_get]; exact hsa) (l := l)
     rw [wrk_get] at hsa2 hatj
     have : bj' = bj := by
       have e : (us[j]).sa = some ⟨bj', 0, some 0⟩ := hsa2
       rw [hsa] at e
       cases e; rfl
     subst this
     have hatj : At h1 bj' (.cells ((mixL F (us[j]).l i).map (.float .f32)) 23 1 sf2) := hatj
     have hml : (mixL F (us[j]).l i).length = tn := by rw [mixL_len hF, k4]; omega
     have hln : (us[j]).l.length = (us[j]).n := by rw [k3, k4]; omega
     have hput1 := fun (v : Nat) => hput ((mixL F (us[j]).l i).set i v) (by rw [List.length_set, mixL_len hF]; exact hln) ⟨_, hatj⟩ (by rw [wrk_get, List.length_set, mixL_len hF]; exact hln)
     have hset := fun (v : Nat) => (List.map_set (f := Value.float .f32) (l := mixL F (us[j]).l i) (i := i) (a := v)).symm
     have hlj := hatj.lt
     have ne5 : b5 ≠ bj' := fun e => by subst e; have := a5.get.symm.trans hatj.get; simp at this
     have neB : B ≠ bj' := fun e => by subst e; have := aB.get.symm.trans hatj.get; simp at this
     obtain ⟨M, hM⟩ : ∃ M, mixL F (us[j]).l i = M := ⟨_, rfl⟩
     have hstep := fun (v : Nat) (hv : v = dlyN x tl i) => mixL_step (v := v) hF hil (by rw [hFi, k4]; exact hv)
     simp only [hM] at hatj hml hput1 hset hstep
     have hstep0 := hset 0
     by_cases hin : 0 ≤ (i : Int) - x ∧ (i : Int) - x < tn
     · obtain ⟨p, hp⟩ := Int.eq_ofNat_of_zero_le hin.1
       have hpl : p < tl.length := by omega
       have hdn : dlyN x tl i = tl[p] := by
         unfold dlyN
         rw [if_pos ⟨hin.1, by omega⟩, show ((i : Int) - x).toNat = p by omega]
         simp [List.getD, List.getElem?_eq_getElem hpl]
       obtain ⟨adz, z1, z2⟩ := osl.addr (M := mz G) Tryz.underlying45 (es := 1) zs23 (i := (i : Int) - x) (k := .i64) (by omega) (by omega)
       have qz := fun (g : H) (gg : Grow h g) => (z2.grow gg).get 0 (.float .f32 tl[p]) (by rw [show ((i : Int) - x).toNat * 1 = p by omega]; simp)
       have hs2 : (((M.set i 0).map (Value.float .f32))).set i (.float .f32 tl[p]) = ((M.set i tl[p]).map (.float .f32)) := by rw [← List.map_set, List.set_set]
       have hput2 := ((hput1 0).bumpB (k := 20)).put (j := j) (b := bj') (sf := sf2) (l := M.set i tl[p]) (by simpa [wrk_len] using hju) (by rw [List.getElem_set, if_pos rfl]; rw [wrk_get]; exact hsa) ⟨_, (At.set hatj _).bumpB⟩ (by rw [List.getElem_set, if_pos rfl, wrk_get]; simp [hml, k3]; exact k3.symm)
       obtain ⟨Z, hZ⟩ : ∃ Z, tl[p] = Z := ⟨_, rfl⟩
       rw [hZ] at hs2 hput2 hdn
       simp only [hZ] at qz
       have hput2 : OwnT (((h1.set bj' (.cells ((M.set i 0).map (.float .f32)) 23 1 sf2)).bump 20).set bj' (.cells ((M.set i Z).map (.float .f32)) 23 1 sf2)) (h.nx + 3) (wrk F us j hju (i + 1)) := by
         have e := wrk_step (F := F) (us := us) (j := j) (i := i) (hj := hju) (hstep Z hdn.symm)
         rw [← e]
         have e2 : ∀ (L : List Trc) (q : j < L.length) (l1 l2 : List Nat), (L.set j (putL L[j] l1)).set j (putL ((L.set j (putL L[j] l1))[j]'(by simpa using q)) l2) = L.set j (putL L[j] l2) := fun L q l1 l2 => by rw [List.getElem_set, if_pos rfl, List.set_set]; rfl
         rw [← e2 _ (by rw [wrk_len]; exact hju) (M.set i 0) (M.set i Z)]
         exact hput2
       repeat' (first | with_reducible refine wo_nil ?_ | ((with_reducible refine wo_any ?_); first | refine wq_A (op_move rfl) ?_ | refine wq_A (op_assign rfl) ?_ | ((with_reducible refine ik_indexAddr ?_); first | refine wq_A (op_idxSl (b := B) (o := j * 10) rfl rfl Tryz.underlying41 zs47 (by omega) (by omega) (by omega)) ?_ | refine wq_A (op_idxSl (b := bj') (o := i) rfl rfl Tryz.underlying45 zs23 (by omega) (by omega) (by omega)) ?_) | ((with_reducible refine ik_load ?_); first | refine wq_A (op_ldIdx (b := B) (o := j * 10 + 9) rfl at_A Tryz.underlying45 rfl hcell) ?_ | refine wq_A (op_ldAt rfl at_A Tryz.underlying41 rfl rfl) ?_) | ((with_reducible refine ik_store ?_); refine wq_B (op_stIdx (b := bj') rfl rfl hatj rfl zs23 (by rw [List.length_map]; omega) rfl hstep0) ?_) | ((with_reducible refine ik_fieldAddr ?_); first | refine wq_A (op_fieldAddr (o := 1) rfl Tryz.underlying43 rfl zs41 rfl) ?_ | refine wq_A (op_fieldAddr (o := 9) rfl Tryz.underlying47 rfl zs45 rfl) ?_) | refine wq_A (op_lenSl rfl Tryz.underlying45) ?_ | ((with_reducible refine ik_bin ?_); first | refine wq_A (op_lss rfl rfl) ?_ | refine wq_A (op_sub' rfl rfl (w64 (by omega) (by omega))) ?_ | refine wq_A (op_geq rfl rfl) ?_ | refine wq_A (op_add' rfl rfl (w64 (by omega) (by omega))) ?_) | refine wq_A (op_pickt rfl rfl) ?_ | ((with_reducible refine ik_g ?_); first | refine wo_grun rfl rfl rfl (op_move rfl) rfl rfl ?_ | refine wo_grun rfl rfl rfl (op_indexAddr rfl rfl f1) rfl rfl ?_ | ((with_reducible refine ig_load ?_); first | refine wo_grun rfl rfl rfl (op_ldCell rfl Tryz.underlying45 rfl (qo9 _ gr_A)) rfl rfl ?_ | refine wo_grun rfl rfl rfl (op_ldAt rfl at_A Tryz.underlying41 rfl rfl) rfl rfl ?_) | ((with_reducible refine ig_fieldAddr ?_); first | refine wo_grun rfl rfl rfl (op_fieldAddr (o := 1) rfl Tryz.underlying43 rfl zs41 rfl) rfl rfl ?_ | refine wo_grun rfl rfl rfl (op_fieldAddr (o := 9) rfl Tryz.underlying47 rfl zs45 rfl) rfl rfl ?_) | refine wo_grun rfl rfl rfl (op_lenSl rfl Tryz.underlying45) rfl rfl ?_ | ((with_reducible refine ig_bin ?_); first | refine wo_grun rfl rfl rfl (op_lss rfl rfl) rfl rfl ?_ | refine wo_grun rfl rfl rfl (op_sub' rfl rfl (w64 (by omega) (by omega))) rfl rfl ?_) | (refine wo_gsplit rfl rfl rfl (fun hb => ?_) (fun hb => dead_A hb); (try simp only [bb_A, reduceCtorEq] at hb)))) | ((with_reducible refine xk_any ?_); ((with_reducible refine xk_as0 ?_); first | ((with_reducible refine xk_move ?_); refine wx_q (wt_none rfl) rfl rfl (op_q rfl (op_move rfl)) rfl rfl rfl ?_) | ((with_reducible refine xk_indexAddr ?_); first | refine wx_q (wt_none rfl) rfl rfl (op_q rfl (op_idxSl (b := B) (o := j * 10) rfl rfl Tryz.underlying41 zs47 (by omega) (by omega) (by omega))) rfl rfl rfl ?_ | refine wx_q (wt_none rfl) rfl rfl (op_q rfl (op_idxSl (b := bj') (o := i) rfl rfl Tryz.underlying45 zs23 (by omega) (by omega) (by omega))) rfl rfl rfl ?_ | refine wx_q (wt_none rfl) rfl rfl (op_q rfl (op_indexAddr rfl rfl f1)) rfl rfl rfl ?_ | refine wx_q (wt_none rfl) rfl rfl (op_q rfl (op_indexAddr rfl rfl z1)) rfl rfl rfl ?_) | ((with_reducible refine xk_load ?_); first | refine wx_h0 (wt_none rfl) rfl (op_q rfl (op_ldIdx (b := B) (o := j * 10 + 9) rfl at_A Tryz.underlying45 rfl hcell)) rfl rfl rfl ?_ | refine wx_h0 (wt_none rfl) rfl (op_q rfl (op_ldCell rfl Tryz.underlying45 rfl (qo9 _ gr_A))) rfl rfl rfl ?_ | refine wx_h0 (wt_none rfl) rfl (op_q rfl (op_ldCell rfl Tryz.underlying23 rfl (qz _ gr_A))) rfl rfl rfl ?_ | refine wx_h0 (wt_none rfl) rfl (op_q rfl (op_ldAt rfl at_A Tryz.underlying41 rfl rfl)) rfl rfl rfl ?_) | ((with_reducible refine xk_store ?_); refine wx_ee0 (wt_none rfl) rfl rfl (op_stIdx (b := bj') rfl rfl at_A rfl zs23 (by rw [List.length_map, List.length_set]; omega) rfl hs2) rfl ?_) | ((with_reducible refine xk_fieldAddr ?_); first | refine wx_q (wt_none rfl) rfl rfl (op_q rfl (op_fieldAddr (o := 1) rfl Tryz.underlying43 rfl zs41 rfl)) rfl rfl rfl ?_ | refine wx_q (wt_none rfl) rfl rfl (op_q rfl (op_fieldAddr (o := 9) rfl Tryz.underlying47 rfl zs45 rfl)) rfl rfl rfl ?_) | ((with_reducible refine xk_bin ?_); refine wx_q (wt_none rfl) rfl rfl (op_q rfl (op_sub' rfl rfl (w64 (by omega) (by omega)))) rfl rfl rfl ?_) | with_reducible refine wx_nil0 ?_ ?_)) | with_reducible exact obl_nil | with_reducible refine obl_cons ?_ ?_ | ((with_reducible refine ik_obs ?_); first | exact obs_nil | refine obs_skip rfl ?_ | refine obs_chkn rfl rfl (op_q rfl (op_ldIdx (b := B) (o := j * 10 + 9) rfl at_A Tryz.underlying45 rfl hcell)) ?_ | refine obs_chkn rfl rfl (op_q rfl (op_ldCell rfl Tryz.underlying45 rfl (qo9 _ gr_A))) ?_ | refine obs_chkn rfl rfl (op_q rfl (op_ldCell rfl Tryz.underlying23 rfl (qz _ gr_A))) ?_ | refine obs_chkn rfl rfl (op_q rfl (op_ldAt rfl at_A Tryz.underlying41 rfl (by rfl))) ?_) | (with_reducible first | refine sq_norm ?_ | refine wc_seq ?_ | refine wc_region ?_ | refine wc_skip ?_ | refine wc_block ?_ | refine bq_norm ?_) | (refine wc_if rfl (fun hb => ?_) (fun hb => dead_A hb); (try simp only [bb_A, reduceCtorEq] at hb)) | refine wc_drawB (id := 10) 20 [0, 1, 0, 7, 15, 31, 0, 0, 128, 0, 896, 1920, 3968, 0, 0, 24576, 65408, 130944, 262143, 524287] [0, 1, 2, 3, 4, 5, 6, 7, 8, 9, 10, 11, 12, 13, 14, 15, 16, 17, 18, 19] (by kernel_rfl) (by kernel_rfl) rfl rfl ?_)
       all_goals exact lq_norm (i + 1) (by omega) (within_lk ⟨rfl, rfl, rfl, rfl, rfl, rfl, trivial⟩) ⟨⟨wf_A, gr_A, at_A, at_A, at_A, at_A⟩, hput2, by omega⟩
     · have hdn : dlyN x tl i = 0 := by
         unfold dlyN
         rw [if_neg (by omega)]
       have hput1 := hput1 0
       rw [wrk_step (hstep 0 hdn.symm)] at hput1
       have hd : (i : Int) - x < 0 ∨ (tn : Int) ≤ (i : Int) - x := by omega
       rcases hd with hd | hd
       · repeat' (first | with_reducible refine wo_nil ?_ | ((with_reducible refine wo_any ?_); first | refine wq_A (op_move rfl) ?_ | refine wq_A (op_assign rfl) ?_ | ((with_reducible refine ik_indexAddr ?_); first | refine wq_A (op_idxSl (b := B) (o := j * 10) rfl rfl Tryz.underlying41 zs47 (by omega) (by omega) (by omega)) ?_ | refine wq_A (op_idxSl (b := bj') (o := i) rfl rfl Tryz.underlying45 zs23 (by omega) (by omega) (by omega)) ?_) | ((with_reducible refine ik_load ?_); first | refine wq_A (op_ldIdx (b := B) (o := j * 10 + 9) rfl at_A Tryz.underlying45 rfl hcell) ?_ | refine wq_A (op_ldAt rfl at_A Tryz.underlying41 rfl rfl) ?_) | ((with_reducible refine ik_store ?_); refine wq_B (op_stIdx (b := bj') rfl rfl hatj rfl zs23 (by rw [List.length_map]; omega) rfl hstep0) ?_) | ((with_reducible refine ik_fieldAddr ?_); first | refine wq_A (op_fieldAddr (o := 1) rfl Tryz.underlying43 rfl zs41 rfl) ?_ | refine wq_A (op_fieldAddr (o := 9) rfl Tryz.underlying47 rfl zs45 rfl) ?_) | refine wq_A (op_lenSl rfl Tryz.underlying45) ?_ | ((with_reducible refine ik_bin ?_); first | refine wq_A (op_lss rfl rfl) ?_ | refine wq_A (op_sub' rfl rfl (w64 (by omega) (by omega))) ?_ | refine wq_A (op_geq rfl rfl) ?_ | refine wq_A (op_add' rfl rfl (w64 (by omega) (by omega))) ?_) | refine wq_A (op_pickf rfl rfl) ?_ | ((with_reducible refine ik_g ?_); first | refine wo_gskip rfl rfl rfl rfl rfl rfl ?_ | (refine wo_gsplit rfl rfl rfl (fun hb => dead_A hb) (fun hb => ?_); (try simp only [bb_A, reduceCtorEq] at hb)))) | (with_reducible first | refine sq_norm ?_ | refine wc_seq ?_ | refine wc_region ?_ | refine wc_skip ?_ | refine wc_block ?_ | refine bq_norm ?_) | refine wc_iff rfl ?_ | (refine wc_if rfl (fun hb => ?_) (fun hb => dead_A hb); (try simp only [bb_A, reduceCtorEq] at hb)))
         all_goals exact lq_norm (i + 1) (by omega) (within_lk ⟨rfl, rfl, rfl, rfl, rfl, rfl, trivial⟩) ⟨⟨wf_A, gr_A, at_A, at_A, at_A, at_A⟩, hput1, by omega⟩
       · repeat' (first | with_reducible refine wo_nil ?_ | ((with_reducible refine wo_any ?_); first | refine wq_A (op_move rfl) ?_ | refine wq_A (op_assign rfl) ?_ | ((with_reducible refine ik_indexAddr ?_); first | refine wq_A (op_idxSl (b := B) (o := j * 10) rfl rfl Tryz.underlying41 zs47 (by omega) (by omega) (by omega)) ?_ | refine wq_A (op_idxSl (b := bj') (o := i) rfl rfl Tryz.underlying45 zs23 (by omega) (by omega) (by omega)) ?_) | ((with_reducible refine ik_load ?_); first | refine wq_A (op_ldIdx (b := B) (o := j * 10 + 9) rfl at_A Tryz.underlying45 rfl hcell) ?_ | refine wq_A (op_ldAt rfl at_A Tryz.underlying41 rfl rfl) ?_) | ((with_reducible refine ik_store ?_); refine wq_B (op_stIdx (b := bj') rfl rfl hatj rfl zs23 (by rw [List.length_map]; omega) rfl hstep0) ?_) | ((with_reducible refine ik_fieldAddr ?_); first | refine wq_A (op_fieldAddr (o := 1) rfl Tryz.underlying43 rfl zs41 rfl) ?_ | refine wq_A (op_fieldAddr (o := 9) rfl Tryz.underlying47 rfl zs45 rfl) ?_) | refine wq_A (op_lenSl rfl Tryz.underlying45) ?_ | ((with_reducible refine ik_bin ?_); first | refine wq_A (op_lss rfl rfl) ?_ | refine wq_A (op_sub' rfl rfl (w64 (by omega) (by omega))) ?_ | refine wq_A (op_geq rfl rfl) ?_ | refine wq_A (op_add' rfl rfl (w64 (by omega) (by omega))) ?_) | refine wq_A (op_pickt rfl rfl) ?_ | ((with_reducible refine ik_g ?_); first | refine wo_grun rfl rfl rfl (op_move rfl) rfl rfl ?_ | refine wo_grun rfl rfl rfl (op_indexAddr rfl rfl f1) rfl rfl ?_ | ((with_reducible refine ig_load ?_); first | refine wo_grun rfl rfl rfl (op_ldCell rfl Tryz.underlying45 rfl (qo9 _ gr_A)) rfl rfl ?_ | refine wo_grun rfl rfl rfl (op_ldAt rfl at_A Tryz.underlying41 rfl rfl) rfl rfl ?_) | ((with_reducible refine ig_fieldAddr ?_); first | refine wo_grun rfl rfl rfl (op_fieldAddr (o := 1) rfl Tryz.underlying43 rfl zs41 rfl) rfl rfl ?_ | refine wo_grun rfl rfl rfl (op_fieldAddr (o := 9) rfl Tryz.underlying47 rfl zs45 rfl) rfl rfl ?_) | refine wo_grun rfl rfl rfl (op_lenSl rfl Tryz.underlying45) rfl rfl ?_ | ((with_reducible refine ig_bin ?_); first | refine wo_grun rfl rfl rfl (op_lss rfl rfl) rfl rfl ?_ | refine wo_grun rfl rfl rfl (op_sub' rfl rfl (w64 (by omega) (by omega))) rfl rfl ?_) | (refine wo_gsplit rfl rfl rfl (fun hb => ?_) (fun hb => dead_A hb); (try simp only [bb_A, reduceCtorEq] at hb)))) | (with_reducible first | refine sq_norm ?_ | refine wc_seq ?_ | refine wc_region ?_ | refine wc_skip ?_ | refine wc_block ?_ | refine bq_norm ?_) | (refine wc_if rfl (fun hb => dead_A hb) (fun hb => ?_); (try simp only [bb_A, reduceCtorEq] at hb)) | (refine wc_if rfl (fun hb => ?_) (fun hb => dead_A hb); (try simp only [bb_A, reduceCtorEq] at hb)))
         all_goals exact lq_norm (i + 1) (by omega) (within_lk ⟨rfl, rfl, rfl, rfl, rfl, rfl, trivial⟩) ⟨⟨wf_A, gr_A, at_A, at_A, at_A, at_A⟩, hput1, by omega⟩
   · have hie2 : i = (us[j]).l.length := by rw [k4]; omega
     rw [hie2, wrk_end hF] at ow
     repeat' (first | with_reducible refine wo_nil ?_ | ((with_reducible refine wo_any ?_); first | refine wq_A (op_move rfl) ?_ | refine wq_A (op_assign rfl) ?_ | refine wq_A (op_idxSl (b := B) (o := j * 10) rfl rfl Tryz.underlying41 zs47 (by omega) (by omega) (by omega)) ?_ | ((with_reducible refine ik_load ?_); first | refine wq_A (op_ldIdx (b := B) (o := j * 10 + 9) rfl at_A Tryz.underlying45 rfl hcell) ?_ | refine wq_A (op_ldAt rfl at_A Tryz.underlying41 rfl rfl) ?_) | ((with_reducible refine ik_fieldAddr ?_); first | refine wq_A (op_fieldAddr (o := 1) rfl Tryz.underlying43 rfl zs41 rfl) ?_ | refine wq_A (op_fieldAddr (o := 9) rfl Tryz.underlying47 rfl zs45 rfl) ?_) | refine wq_A (op_lenSl rfl Tryz.underlying45) ?_ | ((with_reducible refine ik_bin ?_); first | refine wq_A (op_lss rfl rfl) ?_ | refine wq_A (op_add' rfl rfl (w64 (by omega) (by omega))) ?_)) | (with_reducible first | refine sq_norm ?_ | refine wc_seq ?_ | refine wc_region ?_ | refine wc_exit ?_ | refine bq_norm ?_ | refine sq_exit ?_ | refine lq_exit ?_) | refine bq_eq rfl ?_ | (refine wc_if rfl (fun hb => dead_A hb) (fun hb => ?_); (try simp only [bb_A, reduceCtorEq] at hb)))
     all_goals exact lq_norm (j + 1) (by omega) (within_lk ⟨rfl, rfl, rfl, rfl, rfl, trivial⟩) ⟨⟨wf_A, gr_A, at_A, at_A, at_A, at_A⟩, ow, by omega⟩
 · have hje : j = us.length := by omega
   rw [hje, mixT_end] at ow
   have ak : KeyAll (us.map fun t => putL t (F t.l)) ts (lstKey F) := keys_lst hky
   have fl : (us.map fun t => putL t (F t.l)).flatMap Trc.cells = us.flatMap Trc.cells := by rw [List.flatMap_map]; rfl
   repeat' (first | with_reducible refine wo_nil ?_ | ((with_reducible refine wo_any ?_); first | refine wq_A (op_move rfl) ?_ | ((with_reducible refine ik_load ?_); first | refine wq_A (op_ldAgg rfl at_A Tryz.underlying43 rfl zs43 rfl rfl) ?_ | refine wq_A (op_ldAt rfl at_A Tryz.underlying41 rfl rfl) ?_) | refine wq_B (op_stAgg rfl rfl at_A zs43 rfl rfl rfl rfl) ?_ | refine wq_A (op_fieldAddr (o := 1) rfl Tryz.underlying43 rfl zs41 rfl) ?_ | refine wq_A (op_lenSl rfl Tryz.underlying41) ?_ | refine wq_A (op_lss rfl rfl) ?_) | (with_reducible first | refine sq_norm ?_ | refine wc_seq ?_ | refine wc_region ?_ | refine wc_ret ?_ | refine wc_exit ?_ | refine sq_exit ?_ | refine lq_exit ?_) | refine bq_eq rfl ?_ | (refine wc_if rfl (fun hb => dead_A hb) (fun hb => ?_); (try simp only [bb_A, reduceCtorEq] at hb)))
   all_goals exact rqc1 rfl (ldAgg at_A Tryz.underlying43 rfl zs43 rfl rfl) ⟨⟨B, _, rfl, by rw [fl]; exact at_A, (ow.set (by omega) _).ok, ak⟩, gr_A⟩
end Go.Proofs.YtdelgpbfdimefaaGreatDoor
