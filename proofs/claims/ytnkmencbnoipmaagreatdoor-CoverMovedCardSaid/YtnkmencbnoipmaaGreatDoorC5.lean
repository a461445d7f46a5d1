/- Cover: the error of a line by the program and by the reference. -/
import Derived.Test.YtnkmencbnoipmaaGreatDoorC4
import Derived.Test.YtnkmencbnoipmaaGreatDoorC3
set_option linter.all false
/- A line's error by the program. -/
namespace Go.Proofs.YtnkmencbnoipmaaGreatDoor
open Go Go.Ab Go.Fl
attribute [local irreducible] SeqQ BlkQ LpQ RetQ Wc Wo WD WX Op1 Op1q Op1a Cf Cl From
attribute [local irreducible] Ieee.Format.order Ieee.Format.read Ieee.Format.nearest Ieee.Format.write Ieee.Format.mul Ieee.Format.div Ieee.Format.sqrt Ieee.Datum.order Ieee.Datum.integral K U rngE firstNZ ptE errN cntE cmpI plaE indE
set_option maxRecDepth 10000
variable {G : Base} {h : H}

def loL : List Int := [-100000, -100000, -10000, -10000, 1, -10000, -10000, -10000, -10000, 1]
def hiL : List Int := [100000, 100000, 10000, 10000, 64, 10000, 10000, 10000, 10000, 16]
def numA (l : List Int) (i : Nat) : Int := rngE (l.getD i 0) (loL.getD i 0) (hiL.getD i 0)
def numsE (l : List Int) : Int := errN (numA l) 10
/-- A trace of the line is outside. -/
def BigP (x y tx ty nx ny px py : Int) (S C : Nat) : Prop := ∃ i k : Nat, i < S ∧ k < C ∧ plaE (x + (i : Int) * tx) (y + (i : Int) * ty) (x + (i : Int) * tx + 1 * nx + (k : Int) * px) (y + (i : Int) * ty + 1 * ny + (k : Int) * py) ≠ 0
open Classical in
noncomputable def lnE (nm : ByteArray) (x y tx ty sh nx ny px py ch : Int) (rf : List Int) : Int :=
  if isNameB nm = true then (if numsE [x, y, tx, ty, sh, nx, ny, px, py, ch] ≠ 0 then numsE [x, y, tx, ty, sh, nx, ny, px, py, ch] else if indE rf sh ≠ 0 then indE rf sh else if BigP x y tx ty nx ny px py sh.toNat ch.toNat then 4 else 0) else 8
theorem ranAt {h : H} {k : Nat} (hG : ∀ a v, laidBase a = some v → G a = some v) (hk : k < 10) : acell G h (aadd ⟨0, k * 2, none⟩ 0) = some (.int .i64 (loL.getD k 0)) ∧ acell G h (aadd ⟨0, k * 2, none⟩ 1) = some (.int .i64 (hiL.getD k 0)) := by
  constructor
  · exact hG ⟨0, k * 2, none⟩ _ (by
      match k, hk with
      | 0, _ | 1, _ | 2, _ | 3, _ | 4, _ | 5, _ | 6, _ | 7, _ | 8, _ | 9, _ => rfl)
  · exact hG ⟨0, k * 2 + 1, none⟩ _ (by
      match k, hk with
      | 0, _ | 1, _ | 2, _ | 3, _ | 4, _ | 5, _ | 6, _ | 7, _ | 8, _ | 9, _ => rfl)
theorem part10 {x y tx ty sh nx ny px py ch : Int} {k : Nat} (hk : k < 10) : apart Tryz.prog 3 ⟨[.int .i64 x, .int .i64 y, .int .i64 tx, .int .i64 ty, .int .i64 sh, .int .i64 nx, .int .i64 ny, .int .i64 px, .int .i64 py, .int .i64 ch]⟩ (((k : Nat) : Int).toNat * 1) = some (.int .i64 ([x, y, tx, ty, sh, nx, ny, px, py, ch].getD k 0)) := by
  match k, hk with
  | 0, _ | 1, _ | 2, _ | 3, _ | 4, _ | 5, _ | 6, _ | 7, _ | 8, _ | 9, _ => rfl
theorem op_idxVal {M : Mc} {l : KL} {h : H} {t : TypeId} {x y : Operand} {v : Value} {cs : Array Value} {i : Int} {k : IntKind} {len n : Nat} {et : TypeId} (hx : val l x = some (.agg cs)) (hy : val l y = some (.int k i)) (hu : M.P.underlying t = some (.array len et)) (hn : tsz M.P et = some n) (h0 : 0 ≤ i) (h1 : i < len) (hv : apart M.P et cs (i.toNat * n) = some v) : Op1 M (.index t x y) l h v h := op_idxArr hx hy hu hn h0 h1 hv
theorem nums_ok {l : List Int} (h : numsE l = 0) : ∀ i, i < 10 → loL.getD i 0 ≤ l.getD i 0 ∧ l.getD i 0 ≤ hiL.getD i 0 := by
  intro i hi
  have : numA l i = 0 := by
    by_cases q : errN (numA l) (i + 1) = 0
    · by_cases r : errN (numA l) i = 0
      · rw [errN_next r] at q; exact q
      · rw [errN_hit (k := i) (by omega) r] at q; exact absurd q r
    · unfold numsE at h
      rw [errN_hit (k := i + 1) (by omega) q] at h
      exact absurd h q
  exact rng_ok this
theorem nums_lnok {x y tx ty sh nx ny px py ch : Int} (h : numsE [x, y, tx, ty, sh, nx, ny, px, py, ch] = 0) : ∃ S C : Nat, sh = S ∧ ch = C ∧ 1 ≤ S ∧ 1 ≤ C ∧ LnOk x y tx ty nx ny px py S C := by
  have q := nums_ok h
  have q0 : -100000 ≤ x ∧ x ≤ 100000 := q 0 (by omega)
  have q1 : -100000 ≤ y ∧ y ≤ 100000 := q 1 (by omega)
  have q2 : -10000 ≤ tx ∧ tx ≤ 10000 := q 2 (by omega)
  have q3 : -10000 ≤ ty ∧ ty ≤ 10000 := q 3 (by omega)
  have q4 : 1 ≤ sh ∧ sh ≤ 64 := q 4 (by omega)
  have q5 : -10000 ≤ nx ∧ nx ≤ 10000 := q 5 (by omega)
  have q6 : -10000 ≤ ny ∧ ny ≤ 10000 := q 6 (by omega)
  have q7 : -10000 ≤ px ∧ px ≤ 10000 := q 7 (by omega)
  have q8 : -10000 ≤ py ∧ py ≤ 10000 := q 8 (by omega)
  have q9 : 1 ≤ ch ∧ ch ≤ 16 := q 9 (by omega)
  clear q h
  refine ⟨sh.toNat, ch.toNat, by omega, by omega, by omega, by omega, ?_⟩
  constructor
  · clear q1 q2 q3 q4 q5 q6 q7 q8 q9; omega
  · clear q0 q2 q3 q4 q5 q6 q7 q8 q9; omega
  · clear q1 q0 q3 q4 q5 q6 q7 q8 q9; omega
  · clear q1 q2 q0 q4 q5 q6 q7 q8 q9; omega
  · clear q1 q2 q3 q4 q0 q6 q7 q8 q9; omega
  · clear q1 q2 q3 q4 q5 q0 q7 q8 q9; omega
  · clear q1 q2 q3 q4 q5 q6 q0 q8 q9; omega
  · clear q1 q2 q3 q4 q5 q6 q7 q0 q9; omega
  · omega
  · omega
theorem lnE_name {nm : ByteArray} {x y tx ty sh nx ny px py ch : Int} {rf : List Int} (h : isNameB nm = false) : lnE nm x y tx ty sh nx ny px py ch rf = 8 := by
  unfold lnE; rw [if_neg (by rw [h]; decide)]
theorem lnE_num {nm : ByteArray} {x y tx ty sh nx ny px py ch : Int} {rf : List Int} (h : isNameB nm = true) (h1 : numsE [x, y, tx, ty, sh, nx, ny, px, py, ch] ≠ 0) : lnE nm x y tx ty sh nx ny px py ch rf = numsE [x, y, tx, ty, sh, nx, ny, px, py, ch] := by
  unfold lnE; rw [if_pos h, if_pos h1]
theorem lnE_ind {nm : ByteArray} {x y tx ty sh nx ny px py ch : Int} {rf : List Int} (h : isNameB nm = true) (h1 : numsE [x, y, tx, ty, sh, nx, ny, px, py, ch] = 0) (h2 : indE rf sh ≠ 0) : lnE nm x y tx ty sh nx ny px py ch rf = indE rf sh := by
  unfold lnE; rw [if_pos h, if_neg (by omega), if_pos h2]
theorem lnE_big {nm : ByteArray} {x y tx ty nx ny px py : Int} {sh ch : Nat} {rf : List Int} (h : isNameB nm = true) (h1 : numsE [x, y, tx, ty, sh, nx, ny, px, py, ch] = 0) (h2 : indE rf sh = 0) (h3 : BigP x y tx ty nx ny px py sh ch) : lnE nm x y tx ty sh nx ny px py ch rf = 4 := by
  unfold lnE; rw [if_pos h, if_neg (by omega), if_neg (by omega), Int.toNat_natCast, Int.toNat_natCast, if_pos h3]
theorem lnE_ok {nm : ByteArray} {x y tx ty nx ny px py : Int} {sh ch : Nat} {rf : List Int} (h : isNameB nm = true) (h1 : numsE [x, y, tx, ty, sh, nx, ny, px, py, ch] = 0) (h2 : indE rf sh = 0) (h3 : ¬BigP x y tx ty nx ny px py sh ch) : lnE nm x y tx ty sh nx ny px py ch rf = 0 := by
  unfold lnE; rw [if_pos h, if_neg (by omega), if_neg (by omega), Int.toNat_natCast, Int.toNat_natCast, if_neg h3]
theorem wc_rangeFunc2 {M : Mc} {f : Operand} {ps : Array Tmp} {assign body : Code} {sz : Nat} {l : KL} {h : H} {Q : X → KL → H → Prop} {fv : Value} (hf : val l f = some fv)
    (w : ∀ e lp, Has sz l e → lp = AObj.loop .ready none e ps assign body → Cf M fv [.func (.yield h.nx) #[] #[]] (h.push lp) fun _ h2 => RfQ h.nx l Q h2) : Wc M none (.rangeFunc f ps assign body) sz l h Q :=
  wc_rangeFunc hf fun e he => w e _ he rfl
theorem ld1 {M : Mc} {h : H} {b off : Nat} {c : List Value} {e t : TypeId} {es : Nat} {s : Bool} {dd : TypeDesc} {v : Value} (hat : At h b (.cells c e es s)) (hu : M.P.underlying t = some dd) (hd : isAggD dd = false) (hc : c[off]? = some v) : aloadVar M.P M.G h t ⟨b, off, some 0⟩ = some v :=
  ld_one hu hd (by unfold acell; simp only [hat.get]; exact hc)
attribute [local irreducible] numsE lnE BigP isNameB

set_option maxHeartbeats 8000000 in
theorem c20 {nm : ByteArray} {x y tx ty sh nx ny px py ch : Int} {a : Option Addr} {n c : Nat} {rf : List Int} (s : Sl G h 1 (.slice a n c) n (rf.map (.int .i64))) (hn : n < 1000000) (hw : Wf h) (hG : ∀ a v, laidBase a = some v → G a = some v) : Cf (mz G) (.func (.func 20) #[] #[]) [.agg ⟨lnC nm x y tx ty sh nx ny px py ch a n c⟩] h fun r h' => r = .int .i64 (lnE nm x y tx ty sh nx ny px py ch rf) ∧ Grow h h' := by
  have qn := fun (h' : H) => c77 (G := G) (h := h') nm
  cases hnm : isNameB nm with
  | false =>
    rw [hnm] at qn
    rw [lnE_name hnm]
    refine cf_enter0 48 [.cell 2 30] Tryz.func20 rfl rfl rfl rfl ?_
    repeat' (first | with_reducible refine wo_nil ?_ | ((with_reducible refine wo_any ?_); first | ((with_reducible refine ik_box ?_); refine wo_op rfl (op_boxAgg rfl zs43 rfl) rfl rfl ?_) | ((with_reducible refine ik_alloc ?_); refine wo_op rfl (op_alloc zz30 zs30 rfl rfl rfl) rfl rfl ?_) | ((with_reducible refine ik_fieldAddr ?_); refine wo_op rfl (op_fieldAddr (o := 0) rfl Tryz.underlying43 rfl zs9 rfl) rfl rfl ?_) | ((with_reducible refine ik_load ?_); refine wo_op rfl (op_ldAt rfl at_A Tryz.underlying9 rfl rfl) rfl rfl ?_) | ((with_reducible refine ik_un ?_); refine wo_op rfl (op_not rfl) rfl rfl ?_) | ((with_reducible refine ik_store ?_); refine wo_op0 rfl (op_st1 rfl rfl at_A rfl zs30 rfl rfl rfl) rfl ?_) | ((with_reducible refine ik_callv ?_); (refine wo_call rfl rfl rfl rfl (qn _) rfl rfl ?_; rintro _ _ ⟨rfl, hq⟩; all_goals ((try (have hqn := hq.nx)); (try simp only [H.nx_push, H.nx_set, H.nx_bump] at hqn))))) | with_reducible refine sq_norm ?_ | with_reducible refine wc_seq ?_ | with_reducible refine wc_region ?_ | with_reducible refine wc_ret ?_ | with_reducible refine sq_ret ?_ | refine wc_ift rfl ?_)
    exact rqc1 rfl (ld1 at_A Tryz.underlying30 rfl rfl) ⟨rfl, gr_A⟩
  | true =>
  rw [hnm] at qn
  have qo := fun (h' : H) => c78 (G := G) (h := h') (nm := nm) (x := x) (y := y) (tx := tx) (ty := ty) (sh := sh) (nx := nx) (ny := ny) (px := px) (py := py) (ch := ch) (a := a) (n := n) (c := c)
  have p10 := fun (k : Nat) (hk : k < 10) => part10 (x := x) (y := y) (tx := tx) (ty := ty) (sh := sh) (nx := nx) (ny := ny) (px := px) (py := py) (ch := ch) hk
  have hF : ∀ k, numA [x, y, tx, ty, sh, nx, ny, px, py, ch] k = rngE ([x, y, tx, ty, sh, nx, ny, px, py, ch].getD k 0) (loL.getD k 0) (hiL.getD k 0) := fun k => rfl
  obtain ⟨F, hFF⟩ : ∃ F, numA [x, y, tx, ty, sh, nx, ny, px, py, ch] = F := ⟨_, rfl⟩
  obtain ⟨g, hg⟩ : ∃ g : Nat → Int, (fun k => [x, y, tx, ty, sh, nx, ny, px, py, ch].getD k 0) = g := ⟨_, rfl⟩
  have hgk : ∀ k, [x, y, tx, ty, sh, nx, ny, px, py, ch].getD k 0 = g k := fun k => by rw [← hg]
  have hE : numsE [x, y, tx, ty, sh, nx, ny, px, py, ch] = errN F 10 := by unfold numsE; rw [hFF]
  simp only [hgk] at p10
  rw [hFF] at hF
  simp only [hgk] at hF
  refine cf_enter0 48 [.cell 2 30] Tryz.func20 rfl rfl rfl rfl ?_
  repeat' (first | with_reducible refine wo_nil ?_ | ((with_reducible refine wo_any ?_); first | ((with_reducible refine ik_move ?_); refine wo_op rfl (op_move rfl) rfl rfl ?_) | ((with_reducible refine ik_box ?_); refine wo_op rfl (op_boxAgg rfl zs43 rfl) rfl rfl ?_) | ((with_reducible refine ik_alloc ?_); refine wo_op rfl (op_alloc zz30 zs30 rfl rfl rfl) rfl rfl ?_) | ((with_reducible refine ik_fieldAddr ?_); refine wo_op rfl (op_fieldAddr (o := 0) rfl Tryz.underlying43 rfl zs9 rfl) rfl rfl ?_) | ((with_reducible refine ik_load ?_); first | refine wo_op rfl (op_ldAt rfl at_A Tryz.underlying9 rfl rfl) rfl rfl ?_ | refine wo_op rfl (op_ldAgg rfl at_A Tryz.underlying43 rfl zs43 rfl rfl) rfl rfl ?_) | ((with_reducible refine ik_un ?_); refine wo_op rfl (op_not rfl) rfl rfl ?_) | ((with_reducible refine ik_callv ?_); first | (refine wo_call rfl rfl rfl rfl (qn _) rfl rfl ?_; rintro _ _ ⟨rfl, hq⟩; all_goals ((try (have hqn := hq.nx)); (try simp only [H.nx_push, H.nx_set, H.nx_bump] at hqn))) | (refine wo_call rfl rfl rfl rfl (qo _) rfl rfl ?_; rintro _ _ ⟨rfl, hq⟩; all_goals ((try (have hqn := hq.nx)); (try simp only [H.nx_push, H.nx_set, H.nx_bump] at hqn))))) | with_reducible refine sq_norm ?_ | with_reducible refine wc_seq ?_ | with_reducible refine wc_region ?_ | with_reducible refine wc_skip ?_ | with_reducible refine wc_block ?_ | refine wc_iff rfl ?_)
  refine wc_loop (fun k => 10 - k) (fun k : Nat => [(1, .pointer (some ⟨h.nx, 0, some 0⟩)), (2, .pointer (some ⟨h.nx + 1, 0, some 0⟩)), (14, .agg ⟨[.int .i64 x, .int .i64 y, .int .i64 tx, .int .i64 ty, .int .i64 sh, .int .i64 nx, .int .i64 ny, .int .i64 px, .int .i64 py, .int .i64 ch]⟩), (15, .int .i64 k)]) (fun k h' => (Wf h' ∧ Grow h h' ∧ At h' h.nx (.cells (lnC nm x y tx ty sh nx ny px py ch a n c) 43 12 false) ∧ At h' (h.nx + 1) (.cells [.int .i64 0] 30 1 false)) ∧ k ≤ 10 ∧ errN F k = 0) 0 (within_lk ⟨rfl, rfl, rfl, rfl, trivial⟩) ⟨⟨wf_A, gr_A, at_A, at_A⟩, Nat.zero_le _, errN_zero _⟩ ?_
  rintro k h1 ⟨⟨w1, g1, at1, at2⟩, hk, hz⟩
  have n1 := g1.nx
  have l1 := at1.lt
  have l2 := at2.lt
  by_cases hlt : k < 10
  · have nxt := errN_next hz
    obtain ⟨r1, r2⟩ := ranAt (G := G) (h := h1) hG hlt
    have pk := p10 k hlt
    have hit := fun (q : F k ≠ 0) => (errN_hit (f := F) (k := k + 1) (n := 10) (by omega) (by rw [nxt]; exact q)).trans nxt
    have q65 := fun (h : H) => c65 (G := G) (h := h) (g k) (loL.getD k 0) (hiL.getD k 0)
    rw [← hF] at q65
    by_cases he : F k = 0
    · rw [he] at q65 nxt
      clear hit qn qo p10 hG s hE hgk hF
      repeat' (first | with_reducible refine wo_nil ?_ | ((with_reducible refine wo_any ?_); first | ((with_reducible refine ik_move ?_); refine wo_op rfl (op_move rfl) rfl rfl ?_) | ((with_reducible refine ik_assign ?_); refine wo_op rfl (op_assign rfl) rfl rfl ?_) | ((with_reducible refine ik_index ?_); refine wo_op rfl (op_idxVal rfl rfl Tryz.underlying129 zs3 (by omega) (by omega) pk) rfl rfl ?_) | ((with_reducible refine ik_bin ?_); first | refine wo_op rfl (op_lss rfl rfl) rfl rfl ?_ | refine wo_op rfl (op_neq rfl rfl) rfl rfl ?_ | refine wo_op rfl (op_add' rfl rfl (w64 (by omega) (by omega))) rfl rfl ?_)) | ((with_reducible refine xk_any ?_); ((with_reducible refine xk_as0 ?_); first | ((with_reducible refine xk_move ?_); refine wx_q (wt_none rfl) rfl rfl (op_q rfl (op_move rfl)) rfl rfl rfl ?_) | ((with_reducible refine xk_assign ?_); refine wx_q (wt_none rfl) rfl rfl (op_q rfl (op_assign rfl)) rfl rfl rfl ?_) | ((with_reducible refine xk_indexAddr ?_); refine wx_q (wt_none rfl) rfl rfl (op_q rfl (op_idxArrO (b := 0) (off := 0) (sp := none) (o := k * 2) rfl rfl Tryz.underlying133 zs132 (by omega) (by omega) (by omega))) rfl rfl rfl ?_) | ((with_reducible refine xk_load ?_); first | refine wx_h0 (wt_none rfl) rfl (op_q rfl (op_ldCell rfl Tryz.underlying3 rfl r1)) rfl rfl rfl ?_ | refine wx_h0 (wt_none rfl) rfl (op_q rfl (op_ldCell rfl Tryz.underlying3 rfl r2)) rfl rfl rfl ?_) | ((with_reducible refine xk_fieldAddr ?_); first | refine wx_q (wt_none rfl) rfl rfl (op_q rfl (op_fieldAddr (o := 0) rfl Tryz.underlying132 rfl zs3 rfl)) rfl rfl rfl ?_ | refine wx_q (wt_none rfl) rfl rfl (op_q rfl (op_fieldAddr (o := 1) rfl Tryz.underlying132 rfl zs3 rfl)) rfl rfl rfl ?_) | ((with_reducible refine xk_callv ?_); refine wx_ee (wt_none rfl) rfl rfl (op_call rfl rfl (q65 _)) rfl rfl ?_) | with_reducible refine wx_nil0 ?_ ?_)) | with_reducible exact obl_nil | with_reducible refine obl_cons ?_ ?_ | ((with_reducible refine ik_obs ?_); first | exact obs_nil | refine obs_skip rfl ?_ | refine obs_chkn rfl rfl (op_q rfl (op_ldCell rfl Tryz.underlying3 rfl r1)) ?_ | refine obs_chkn rfl rfl (op_q rfl (op_ldCell rfl Tryz.underlying3 rfl r2)) ?_) | with_reducible refine sq_norm ?_ | with_reducible refine wc_seq ?_ | with_reducible refine wc_region ?_ | with_reducible refine wc_skip ?_ | with_reducible refine wc_block ?_ | with_reducible refine bq_norm ?_ | refine wc_iff rfl ?_ | (refine wc_if rfl (fun hb => ?_) (fun hb => ?_) <;> (try simp only [decide_eq_true_eq, decide_eq_false_iff_not, Bool.not_eq_true', Bool.not_eq_false', Int.not_lt, Int.not_le, Decidable.not_not, not_true_eq_false, not_false_eq_true, beq_self_eq_true, reduceCtorEq] at hb) <;> (try (exfalso; omega))) | refine wc_drawB (id := 6) 11 [0, 0, 2, 6, 14, 0, 32, 96, 224, 511, 1023] [0, 1, 2, 3, 4, 5, 6, 7, 8, 9, 10] (by kernel_rfl) (by kernel_rfl) rfl rfl ?_)
      all_goals exact lq_norm (k + 1) (by omega) (within_lk ⟨rfl, rfl, rfl, rfl, trivial⟩) ⟨⟨wf_A, gr_A, at_A, at_A⟩, by omega, nxt⟩
    · have h10 := hit he
      rw [lnE_num hnm (by rw [hE, h10]; exact he), hE, h10]
      generalize F k = E at q65 he
      clear hit nxt qn qo p10 hG s hE hgk hF h10
      repeat' (first | with_reducible refine wo_nil ?_ | ((with_reducible refine wo_any ?_); first | ((with_reducible refine ik_move ?_); refine wo_op rfl (op_move rfl) rfl rfl ?_) | ((with_reducible refine ik_assign ?_); refine wo_op rfl (op_assign rfl) rfl rfl ?_) | ((with_reducible refine ik_index ?_); refine wo_op rfl (op_idxVal rfl rfl Tryz.underlying129 zs3 (by omega) (by omega) pk) rfl rfl ?_) | ((with_reducible refine ik_store ?_); refine wo_op0 rfl (op_st1 rfl rfl at_A rfl zs30 rfl rfl rfl) rfl ?_) | ((with_reducible refine ik_bin ?_); first | refine wo_op rfl (op_lss rfl rfl) rfl rfl ?_ | refine wo_op rfl (op_neq rfl rfl) rfl rfl ?_)) | ((with_reducible refine xk_any ?_); ((with_reducible refine xk_as0 ?_); first | ((with_reducible refine xk_move ?_); refine wx_q (wt_none rfl) rfl rfl (op_q rfl (op_move rfl)) rfl rfl rfl ?_) | ((with_reducible refine xk_assign ?_); refine wx_q (wt_none rfl) rfl rfl (op_q rfl (op_assign rfl)) rfl rfl rfl ?_) | ((with_reducible refine xk_indexAddr ?_); refine wx_q (wt_none rfl) rfl rfl (op_q rfl (op_idxArrO (b := 0) (off := 0) (sp := none) (o := k * 2) rfl rfl Tryz.underlying133 zs132 (by omega) (by omega) (by omega))) rfl rfl rfl ?_) | ((with_reducible refine xk_load ?_); first | refine wx_h0 (wt_none rfl) rfl (op_q rfl (op_ldCell rfl Tryz.underlying3 rfl r1)) rfl rfl rfl ?_ | refine wx_h0 (wt_none rfl) rfl (op_q rfl (op_ldCell rfl Tryz.underlying3 rfl r2)) rfl rfl rfl ?_) | ((with_reducible refine xk_fieldAddr ?_); first | refine wx_q (wt_none rfl) rfl rfl (op_q rfl (op_fieldAddr (o := 0) rfl Tryz.underlying132 rfl zs3 rfl)) rfl rfl rfl ?_ | refine wx_q (wt_none rfl) rfl rfl (op_q rfl (op_fieldAddr (o := 1) rfl Tryz.underlying132 rfl zs3 rfl)) rfl rfl rfl ?_) | ((with_reducible refine xk_callv ?_); refine wx_ee (wt_none rfl) rfl rfl (op_call rfl rfl (q65 _)) rfl rfl ?_) | with_reducible refine wx_nil0 ?_ ?_)) | with_reducible exact obl_nil | with_reducible refine obl_cons ?_ ?_ | ((with_reducible refine ik_obs ?_); first | exact obs_nil | refine obs_skip rfl ?_ | refine obs_chkn rfl rfl (op_q rfl (op_ldCell rfl Tryz.underlying3 rfl r1)) ?_ | refine obs_chkn rfl rfl (op_q rfl (op_ldCell rfl Tryz.underlying3 rfl r2)) ?_) | with_reducible refine sq_norm ?_ | with_reducible refine wc_seq ?_ | with_reducible refine wc_region ?_ | with_reducible refine wc_skip ?_ | with_reducible refine wc_ret ?_ | with_reducible refine wc_block ?_ | with_reducible refine bq_ret ?_ | with_reducible refine sq_ret ?_ | with_reducible refine lq_ret ?_ | (refine wc_if rfl (fun hb => ?_) (fun hb => ?_) <;> (try simp only [decide_eq_true_eq, decide_eq_false_iff_not, Bool.not_eq_true', Bool.not_eq_false', Int.not_lt, Int.not_le, Decidable.not_not, not_true_eq_false, not_false_eq_true, beq_self_eq_true, reduceCtorEq] at hb) <;> (try (exfalso; omega))) | refine wc_drawB (id := 6) 11 [0, 0, 2, 6, 14, 0, 32, 96, 224, 511, 1023] [0, 1, 2, 3, 4, 5, 6, 7, 8, 9, 10] (by kernel_rfl) (by kernel_rfl) rfl rfl ?_)
      all_goals exact rqc1 rfl (ld1 at_A Tryz.underlying30 rfl rfl) ⟨rfl, gr_A⟩
  · have hk10 : k = 10 := by omega
    subst hk10
    have hE0 : numsE [x, y, tx, ty, sh, nx, ny, px, py, ch] = 0 := hE.trans hz
    clear qn qo p10 hgk hF hz hE hg hFF hlt hk
    obtain ⟨S, C, rfl, rfl, hS1, hC1, bd⟩ := nums_lnok hE0
    have q79 := fun (h' : H) (g : Grow h h') => c79 (m := (S : Int)) (s.grow g) hn
    by_cases hi : indE rf (S : Int) = 0
    · rw [hi] at q79
      have q80 := fun (h' : H) => c80 (G := G) (h := h') (nm := nm) (x := x) (y := y) (tx := tx) (ty := ty) (sh := S) (nx := nx) (ny := ny) (px := px) (py := py) (ch := C) (a := a) (n := n) (c := c)
      repeat' (first | with_reducible refine wo_nil ?_ | ((with_reducible refine wo_any ?_); first | ((with_reducible refine ik_move ?_); refine wo_op rfl (op_move rfl) rfl rfl ?_) | ((with_reducible refine ik_assign ?_); refine wo_op rfl (op_assign rfl) rfl rfl ?_) | ((with_reducible refine ik_fieldAddr ?_); first | refine wo_op rfl (op_fieldAddr (o := 11) rfl Tryz.underlying43 rfl zs41 rfl) rfl rfl ?_ | refine wo_op rfl (op_fieldAddr (o := 5) rfl Tryz.underlying43 rfl zs3 rfl) rfl rfl ?_) | ((with_reducible refine ik_load ?_); first | refine wo_op rfl (op_ldAgg rfl at_A Tryz.underlying43 rfl zs43 rfl rfl) rfl rfl ?_ | refine wo_op rfl (op_ldAt rfl at_A Tryz.underlying3 rfl rfl) rfl rfl ?_ | refine wo_op rfl (op_ldAt rfl at_A Tryz.underlying41 rfl rfl) rfl rfl ?_) | ((with_reducible refine ik_bin ?_); first | refine wo_op rfl (op_lss rfl rfl) rfl rfl ?_ | refine wo_op rfl (op_neq rfl rfl) rfl rfl ?_) | ((with_reducible refine ik_callv ?_); first | (refine wo_call rfl rfl rfl rfl (q79 _ gr_A) rfl rfl ?_; rintro _ _ ⟨rfl, hq⟩; all_goals ((try (have hqn := hq.nx)); (try simp only [H.nx_push, H.nx_set, H.nx_bump] at hqn))) | (refine wo_call rfl rfl rfl rfl (q80 _) rfl rfl ?_; rintro _ _ ⟨rfl, rfl⟩; all_goals ((try (have hqn := hq.nx)); (try simp only [H.nx_push, H.nx_set, H.nx_bump] at hqn))))) | with_reducible refine sq_norm ?_ | with_reducible refine wc_seq ?_ | with_reducible refine wc_region ?_ | with_reducible refine wc_skip ?_ | with_reducible refine wc_exit ?_ | with_reducible refine wc_block ?_ | with_reducible refine sq_exit ?_ | with_reducible refine lq_exit ?_ | refine bq_eq rfl ?_ | refine wc_iff rfl ?_)
      rename_i g2 hqx
      refine wc_cut (ι := Nat) (fun b => [(2, .pointer (some ⟨h.nx + 1, 0, some 0⟩)), (42, trF b)]) (fun b h' => b < h'.nx ∧ Wf h' ∧ Grow h h' ∧ At h' (h.nx + 1) (.cells [.int .i64 0] 30 1 false) ∧ At h' b (.cells (lnC nm x y tx ty S nx ny px py C a n c) 43 12 false) ∧ h.nx + 1 < b) g2.nx (within_lk ⟨rfl, rfl, trivial⟩) ⟨?_, wf_A, gr_A, at_A, at_A, ?_⟩ ?_
      · simp only [H.nx_push]; omega
      · omega
      clear at1 at2 q79 q80 w1 g1 n1 l1 l2
      rintro b h0 ⟨z1, w0, g0, a1, a2, z2⟩
      have n0 := g0.nx
      refine wc_rangeFunc2 rfl fun e lp he hlp => ?_
      refine (c138 (N := h0.nx + 1) (nm := nm) (a := a) (n := n) (c := c) (fun i k g => Wf g ∧ Grow h g ∧ h0.nx + 1 ≤ g.nx ∧ At g (h.nx + 1) (.cells [.int .i64 0] 30 1 false) ∧ At g b (.cells (lnC nm x y tx ty S nx ny px py C a n c) 43 12 false) ∧ At g h0.nx lp ∧ (∀ i' k' : Nat, i' < S → k' < C → (i' < i ∨ (i' = i ∧ k' < k)) → plaE (x + (i' : Int) * tx) (y + (i' : Int) * ty) (x + (i' : Int) * tx + 1 * nx + (k' : Int) * px) (y + (i' : Int) * ty + 1 * ny + (k' : Int) * py) = 0))
        (fun g => Wf g ∧ Grow h g ∧ At g (h.nx + 1) (.cells [.int .i64 4] 30 1 false) ∧ (∃ pe ps asg bd, At g h0.nx (.loop .done (some .ret) pe ps asg bd)) ∧ BigP x y tx ty nx ny px py S C) bd ?_ ?_ ?_ ?_ ?_).mono ?_
      · rintro i k g ⟨w, _, nx', _, b', _⟩
        exact ⟨b', nx', w⟩
      · rintro i k g g' ⟨w, gr, nx', c1, c2, c3, e⟩ gg ww
        exact ⟨ww, gr.trans gg, Nat.le_trans nx' gg.nx, c1.grow gg, c2.grow gg, c3.grow gg, e⟩
      · rintro i g hi ⟨w, gr, nx', c1, c2, c3, e⟩
        refine ⟨w, gr, nx', c1, c2, c3, fun i' k' h1 h2 h3 => ?_⟩
        exact e i' k' h1 h2 (by omega)
      · rintro i k g hi hk ⟨w, gr, nx', c1, c2, c3, hp⟩
        have lc1 := c1.lt
        have lc2 := c2.lt
        obtain ⟨ps, hps⟩ : ∃ p, (x + (i : Int) * tx) = p := ⟨_, rfl⟩
        obtain ⟨qs, hqs⟩ : ∃ p, (y + (i : Int) * ty) = p := ⟨_, rfl⟩
        obtain ⟨pr, hpr⟩ : ∃ p, (x + (i : Int) * tx + 1 * nx + (k : Int) * px) = p := ⟨_, rfl⟩
        obtain ⟨qr, hqr⟩ : ∃ p, (y + (i : Int) * ty + 1 * ny + (k : Int) * py) = p := ⟨_, rfl⟩
        rw [hpr, hqr, hps, hqs]
        have q81 := fun (h' : H) (w' : Wf h') => c81 (G := G) (h := h') (a := ps) (b := qs) (c := pr) (d := qr) w'
        by_cases hE : plaE ps qs pr qr = 0
        · have hp' : ∀ i' k' : Nat, i' < S → k' < C → (i' < i ∨ (i' = i ∧ k' < k + 1)) → plaE (x + (i' : Int) * tx) (y + (i' : Int) * ty) (x + (i' : Int) * tx + 1 * nx + (k' : Int) * px) (y + (i' : Int) * ty + 1 * ny + (k' : Int) * py) = 0 := by
            intro i' k' h1 h2 h3
            by_cases q : i' = i ∧ k' = k
            · obtain ⟨rfl, rfl⟩ := q
              rw [hpr, hqr, hps, hqs]; exact hE
            · exact hp i' k' h1 h2 (by omega)
          rw [hE] at q81
          clear hp hps hqs hpr hqr hE hG s
          subst hlp
          refine cf_round c3.get he rfl rfl ?_
          repeat' (first | with_reducible refine wo_nil ?_ | ((with_reducible refine wo_any ?_); first | ((with_reducible refine ik_alloc ?_); refine wo_op rfl (op_alloc zz81 zs81 rfl rfl rfl) rfl rfl ?_) | ((with_reducible refine ik_store ?_); refine wo_op0 rfl (op_stAgg rfl rfl at_A zs81 rfl rfl rfl rfl) rfl ?_)) | with_reducible refine wc_region ?_)
          refine ⟨rfl, _, _, _, _, _, At.get (b := h0.nx) (o := .loop .ready none e _ _ _) at_A, ?_⟩
          repeat' (first | with_reducible refine wo_nil ?_ | ((with_reducible refine wo_any ?_); first | ((with_reducible refine ik_load ?_); refine wo_op rfl (op_ldAgg rfl at_A Tryz.underlying81 rfl zs81 rfl rfl) rfl rfl ?_) | ((with_reducible refine ik_bin ?_); refine wo_op rfl (op_neq rfl rfl) rfl rfl ?_) | ((with_reducible refine ik_callv ?_); (refine wo_call rfl rfl rfl rfl (q81 _ wf_A) rfl rfl ?_; rintro _ _ ⟨rfl, hq⟩; all_goals ((try (have hqn := hq.nx)); (try simp only [H.nx_push, H.nx_set, H.nx_bump] at hqn))))) | with_reducible refine sq_norm ?_ | with_reducible refine wc_seq ?_ | with_reducible refine wc_region ?_ | with_reducible refine wc_skip ?_ | with_reducible refine wc_block ?_ | with_reducible refine bq_norm ?_ | refine wc_iff rfl ?_)
          refine ⟨_, _, _, _, _, _, At.get (b := h0.nx) (o := .loop .busy none e _ _ _) at_A, .inl ⟨rfl, ⟨wf_A, gr_A, ?_, at_A, at_A, at_A, hp'⟩, fun b' o hb _ ha => by have lb := ha.lt; exact at_A⟩⟩
          simp only [H.nx_push, H.nx_set, H.nx_bump] at *; omega
        · have hbig : BigP x y tx ty nx ny px py S C := by
            unfold BigP
            exact ⟨i, k, hi, hk, by rw [hpr, hqr, hps, hqs]; exact hE⟩
          generalize plaE ps qs pr qr = E at q81 hE
          clear hp hps hqs hpr hqr hG s
          subst hlp
          refine cf_round c3.get he rfl rfl ?_
          repeat' (first | with_reducible refine wo_nil ?_ | ((with_reducible refine wo_any ?_); first | ((with_reducible refine ik_alloc ?_); refine wo_op rfl (op_alloc zz81 zs81 rfl rfl rfl) rfl rfl ?_) | ((with_reducible refine ik_store ?_); refine wo_op0 rfl (op_stAgg rfl rfl at_A zs81 rfl rfl rfl rfl) rfl ?_)) | with_reducible refine wc_region ?_)
          refine ⟨rfl, _, _, _, _, _, At.get (b := h0.nx) (o := .loop .ready none e _ _ _) at_A, ?_⟩
          repeat' (first | with_reducible refine wo_nil ?_ | ((with_reducible refine wo_any ?_); first | ((with_reducible refine ik_load ?_); refine wo_op rfl (op_ldAgg rfl at_A Tryz.underlying81 rfl zs81 rfl rfl) rfl rfl ?_) | ((with_reducible refine ik_store ?_); refine wo_op0 rfl (op_st1 rfl rfl at_A rfl zs30 rfl rfl rfl) rfl ?_) | ((with_reducible refine ik_bin ?_); refine wo_op rfl (op_neq rfl rfl) rfl rfl ?_) | ((with_reducible refine ik_callv ?_); (refine wo_call rfl rfl rfl rfl (q81 _ wf_A) rfl rfl ?_; rintro _ _ ⟨rfl, hq⟩; all_goals ((try (have hqn := hq.nx)); (try simp only [H.nx_push, H.nx_set, H.nx_bump] at hqn))))) | with_reducible refine sq_norm ?_ | with_reducible refine wc_seq ?_ | with_reducible refine wc_region ?_ | with_reducible refine wc_ret ?_ | with_reducible refine wc_block ?_ | with_reducible refine bq_ret ?_ | (refine wc_if rfl (fun hb => ?_) (fun hb => ?_) <;> (try simp only [decide_eq_true_eq, decide_eq_false_iff_not, Bool.not_eq_true', Bool.not_eq_false', Int.not_lt, Int.not_le, Decidable.not_not, not_true_eq_false, not_false_eq_true, beq_self_eq_true, reduceCtorEq] at hb) <;> (try (exfalso; omega))))
          exact ⟨_, _, _, _, _, _, At.get (b := h0.nx) (o := .loop .busy none e _ _ _) at_A, .inr ⟨rfl, wf_A, gr_A, at_A, ⟨_, _, _, _, at_A⟩, hbig⟩⟩
      · exact ⟨wf_A, gr_A, (by simp only [H.nx_push, H.nx_bump]; omega), at_A, at_A, at_A, fun i' k' _ _ q => by omega⟩
      · rintro _ g (⟨w, gr, nx', c1, c2, c3, hp⟩ | ⟨w, gr, c1, ⟨pe, ps, asg, bd', c3⟩, hb⟩)
        · have hnb : ¬BigP x y tx ty nx ny px py S C := by
            unfold BigP
            rintro ⟨i, k, h1, h2, h3⟩
            exact h3 (hp i k h1 h2 (.inl h1))
          rw [lnE_ok hnm hE0 hi hnb]
          subst hlp
          refine ⟨_, _, _, _, _, _, c3.get, by simp, ?_⟩
          repeat' (first | with_reducible refine wo_nil ?_ | ((with_reducible refine wo_any ?_); ((with_reducible refine ik_store ?_); refine wo_op0 rfl (op_st1 rfl rfl at_A rfl zs30 rfl rfl rfl) rfl ?_)) | with_reducible refine sq_norm ?_ | with_reducible refine wc_seq ?_ | with_reducible refine wc_region ?_ | with_reducible refine wc_ret ?_ | with_reducible refine bq_norm ?_)
          exact rqc1 rfl (ld1 at_A Tryz.underlying30 rfl rfl) ⟨rfl, gr_A⟩
        · rw [lnE_big hnm hE0 hi hb]
          refine ⟨_, _, _, _, _, _, c3.get, by simp, ?_⟩
          repeat' (first | with_reducible refine bq_ret ?_ | with_reducible refine sq_ret ?_)
          exact rqc1 rfl (ld1 at_A Tryz.underlying30 rfl rfl) ⟨rfl, gr_A⟩
    · rw [lnE_ind hnm hE0 hi]
      generalize indE rf (S : Int) = E at q79 hi
      repeat' (first | with_reducible refine wo_nil ?_ | ((with_reducible refine wo_any ?_); first | ((with_reducible refine ik_move ?_); refine wo_op rfl (op_move rfl) rfl rfl ?_) | ((with_reducible refine ik_assign ?_); refine wo_op rfl (op_assign rfl) rfl rfl ?_) | ((with_reducible refine ik_fieldAddr ?_); first | refine wo_op rfl (op_fieldAddr (o := 11) rfl Tryz.underlying43 rfl zs41 rfl) rfl rfl ?_ | refine wo_op rfl (op_fieldAddr (o := 5) rfl Tryz.underlying43 rfl zs3 rfl) rfl rfl ?_) | ((with_reducible refine ik_load ?_); first | refine wo_op rfl (op_ldAt rfl at_A Tryz.underlying3 rfl rfl) rfl rfl ?_ | refine wo_op rfl (op_ldAt rfl at_A Tryz.underlying41 rfl rfl) rfl rfl ?_) | ((with_reducible refine ik_store ?_); refine wo_op0 rfl (op_st1 rfl rfl at_A rfl zs30 rfl rfl rfl) rfl ?_) | ((with_reducible refine ik_bin ?_); first | refine wo_op rfl (op_lss rfl rfl) rfl rfl ?_ | refine wo_op rfl (op_neq rfl rfl) rfl rfl ?_) | ((with_reducible refine ik_callv ?_); (refine wo_call rfl rfl rfl rfl (q79 _ gr_A) rfl rfl ?_; rintro _ _ ⟨rfl, hq⟩; all_goals ((try (have hqn := hq.nx)); (try simp only [H.nx_push, H.nx_set, H.nx_bump] at hqn))))) | with_reducible refine sq_norm ?_ | with_reducible refine wc_seq ?_ | with_reducible refine wc_region ?_ | with_reducible refine wc_ret ?_ | with_reducible refine wc_exit ?_ | with_reducible refine sq_ret ?_ | with_reducible refine sq_exit ?_ | with_reducible refine lq_exit ?_ | refine bq_eq rfl ?_ | refine wc_iff rfl ?_ | (refine wc_if rfl (fun hb => ?_) (fun hb => ?_) <;> (try simp only [decide_eq_true_eq, decide_eq_false_iff_not, Bool.not_eq_true', Bool.not_eq_false', Int.not_lt, Int.not_le, Decidable.not_not, not_true_eq_false, not_false_eq_true, beq_self_eq_true, reduceCtorEq] at hb) <;> (try (exfalso; omega))))
      exact rqc1 rfl (ld1 at_A Tryz.underlying30 rfl rfl) ⟨rfl, gr_A⟩
end Go.Proofs.YtnkmencbnoipmaaGreatDoor

/- A line's error by the reference: its parts. -/
namespace Go.Proofs.YtnkmencbnoipmaaGreatDoor
open Go Go.Ab Go.Fl
attribute [local irreducible] SeqQ BlkQ LpQ RetQ Wc Wo WD WX Op1 Op1q Op1a Cf Cl From
attribute [local irreducible] Ieee.Format.order Ieee.Format.read Ieee.Format.nearest Ieee.Format.write Ieee.Format.mul Ieee.Format.div Ieee.Format.sqrt Ieee.Datum.order Ieee.Datum.integral K U rngE errN cntE cmpI indE
set_option maxRecDepth 10000
variable {G : Base} {h : H}

theorem errN_all {f : Nat → Int} : ∀ {n : Nat}, (∀ k, k < n → f k = 0) → errN f n = 0
  | 0, _ => errN_zero f
  | n + 1, h => by rw [errN_next (errN_all fun k hk => h k (by omega))]; exact h n (by omega)
theorem errN_mem {f : Nat → Int} : ∀ {n : Nat}, errN f n = 0 ∨ ∃ k, k < n ∧ errN f n = f k
  | 0 => .inl (errN_zero f)
  | n + 1 => by
    by_cases q : errN f n = 0
    · exact .inr ⟨n, by omega, errN_next q⟩
    · rcases errN_mem (f := f) (n := n) with h | ⟨k, h1, h2⟩
      · exact absurd h q
      · exact .inr ⟨k, by omega, by rw [errN_hit (k := n) (by omega) q, h2]⟩
theorem rng_03 (x lo hi : Int) : rngE x lo hi = 0 ∨ rngE x lo hi = 3 := by
  unfold rngE; split <;> simp
theorem pt_03 (x y L : Int) : ptE x y L = 0 ∨ ptE x y L = 3 := by
  rw [ptE_eq]; split <;> simp
theorem pt_zero {x y L : Int} : ptE x y L = 0 ↔ (-L ≤ x ∧ x ≤ L) ∧ (-L ≤ y ∧ y ≤ L) := by
  rw [ptE_eq]
  split
  · rename_i h; simp; omega
  · rename_i h; simp; omega
theorem first_mem : ∀ l : List Int, firstNZ l = 0 ∨ firstNZ l ∈ l
  | [] => .inl rfl
  | e :: l => by
    by_cases h : e = 0
    · subst h; rw [firstNZ_skip]
      rcases first_mem l with q | q
      · exact .inl q
      · exact .inr (List.mem_cons_of_mem _ q)
    · rw [firstNZ_one h]; exact .inr (List.mem_cons_self)
theorem first_all {l : List Int} (h : ∀ e ∈ l, e = 0) : firstNZ l = 0 := by
  rcases first_mem l with q | q
  · exact q
  · exact h _ q
theorem nums_of {l : List Int} (h : ∀ i, i < 10 → loL.getD i 0 ≤ l.getD i 0 ∧ l.getD i 0 ≤ hiL.getD i 0) : numsE l = 0 := by
  unfold numsE
  exact errN_all fun k hk => rng_of (h k hk).1 (h k hk).2
theorem nums_03 (l : List Int) : numsE l = 0 ∨ numsE l = 3 := by
  unfold numsE
  rcases errN_mem (f := numA l) (n := 10) with h | ⟨k, _, h⟩
  · exact .inl h
  · rw [h]; exact rng_03 _ _ _
theorem ref_nums {nm : ByteArray} {x y tx ty sh nx ny px py ch : Int} : firstNZ [nmE nm, ptE x y 100000, ptE tx ty 10000, rngE sh 1 64, ptE nx ny 10000, ptE px py 10000, rngE ch 1 16] = if isNameB nm = true then numsE [x, y, tx, ty, sh, nx, ny, px, py, ch] else 8 := by
  by_cases hn : isNameB nm = true
  · rw [if_pos hn, show nmE nm = 0 by unfold nmE; rw [if_pos hn], firstNZ_skip]
    by_cases hz : numsE [x, y, tx, ty, sh, nx, ny, px, py, ch] = 0
    · rw [hz]
      have q := nums_ok hz
      have q0 : -100000 ≤ x ∧ x ≤ 100000 := q 0 (by omega)
      have q1 : -100000 ≤ y ∧ y ≤ 100000 := q 1 (by omega)
      have q2 : -10000 ≤ tx ∧ tx ≤ 10000 := q 2 (by omega)
      have q3 : -10000 ≤ ty ∧ ty ≤ 10000 := q 3 (by omega)
      have q4 : 1 ≤ sh ∧ sh ≤ 64 := q 4 (by omega)
      have q5 : -10000 ≤ nx ∧ nx ≤ 10000 := q 5 (by omega)
      have q6 : -10000 ≤ ny ∧ ny ≤ 10000 := q 6 (by omega)
      have q7 : -10000 ≤ px ∧ px ≤ 10000 := q 7 (by omega)
      have q8 : -10000 ≤ py ∧ py ≤ 10000 := q 8 (by omega)
      have q9 : 1 ≤ ch ∧ ch ≤ 16 := q 9 (by omega)
      apply first_all
      intro e he
      simp only [List.mem_cons, List.not_mem_nil, or_false] at he
      rcases he with rfl | rfl | rfl | rfl | rfl | rfl
      · exact pt_zero.2 ⟨q0, q1⟩
      · exact pt_zero.2 ⟨q2, q3⟩
      · exact rng_of q4.1 q4.2
      · exact pt_zero.2 ⟨q5, q6⟩
      · exact pt_zero.2 ⟨q7, q8⟩
      · exact rng_of q9.1 q9.2
    · have h3 : numsE [x, y, tx, ty, sh, nx, ny, px, py, ch] = 3 := (nums_03 _).resolve_left hz
      rw [h3]
      rcases first_mem [ptE x y 100000, ptE tx ty 10000, rngE sh 1 64, ptE nx ny 10000, ptE px py 10000, rngE ch 1 16] with h | h
      · exfalso
        apply hz
        have z := firstNZ_zero h
        have z0 := pt_zero.1 (z (ptE x y 100000) (by simp))
        have z2 := pt_zero.1 (z (ptE tx ty 10000) (by simp))
        have z4 := rng_ok (z (rngE sh 1 64) (by simp))
        have z5 := pt_zero.1 (z (ptE nx ny 10000) (by simp))
        have z7 := pt_zero.1 (z (ptE px py 10000) (by simp))
        have z9 := rng_ok (z (rngE ch 1 16) (by simp))
        apply nums_of
        intro i hi
        match i, hi with
        | 0, _ => exact z0.1
        | 1, _ => exact z0.2
        | 2, _ => exact z2.1
        | 3, _ => exact z2.2
        | 4, _ => exact z4
        | 5, _ => exact z5.1
        | 6, _ => exact z5.2
        | 7, _ => exact z7.1
        | 8, _ => exact z7.2
        | 9, _ => exact z9
      · have h0 : firstNZ [ptE x y 100000, ptE tx ty 10000, rngE sh 1 64, ptE nx ny 10000, ptE px py 10000, rngE ch 1 16] ≠ 0 := fun q => by
          apply hz
          have z := firstNZ_zero q
          have z0 := pt_zero.1 (z (ptE x y 100000) (by simp))
          have z2 := pt_zero.1 (z (ptE tx ty 10000) (by simp))
          have z4 := rng_ok (z (rngE sh 1 64) (by simp))
          have z5 := pt_zero.1 (z (ptE nx ny 10000) (by simp))
          have z7 := pt_zero.1 (z (ptE px py 10000) (by simp))
          have z9 := rng_ok (z (rngE ch 1 16) (by simp))
          apply nums_of
          intro i hi
          match i, hi with
          | 0, _ => exact z0.1
          | 1, _ => exact z0.2
          | 2, _ => exact z2.1
          | 3, _ => exact z2.2
          | 4, _ => exact z4
          | 5, _ => exact z5.1
          | 6, _ => exact z5.2
          | 7, _ => exact z7.1
          | 8, _ => exact z7.2
          | 9, _ => exact z9
        generalize hv : firstNZ [ptE x y 100000, ptE tx ty 10000, rngE sh 1 64, ptE nx ny 10000, ptE px py 10000, rngE ch 1 16] = v at h h0
        simp only [List.mem_cons, List.not_mem_nil, or_false] at h
        rcases h with rfl | rfl | rfl | rfl | rfl | rfl
        · exact (pt_03 _ _ _).resolve_left h0
        · exact (pt_03 _ _ _).resolve_left h0
        · exact (rng_03 _ _ _).resolve_left h0
        · exact (pt_03 _ _ _).resolve_left h0
        · exact (pt_03 _ _ _).resolve_left h0
        · exact (rng_03 _ _ _).resolve_left h0
  · rw [if_neg hn, show nmE nm = 8 by unfold nmE; rw [if_neg hn], firstNZ_one (by decide)]
theorem pla_zero {a b c d : Int} : plaE a b c d = 0 ↔ ptE a b 100000 = 0 ∧ ptE c d 100000 = 0 := by
  unfold plaE
  constructor
  · intro h
    have z := firstNZ_zero h
    exact ⟨z _ (by simp), z _ (by simp)⟩
  · rintro ⟨h1, h2⟩
    exact first_all (by simp [h1, h2])
attribute [local irreducible] ptE plaE firstNZ
theorem c75b {nm : ByteArray} {x y tx ty nx ny px py : Int} {sh ch : Nat} {a : Option Addr} {n c : Nat} {i : Nat} (bd : LnOk x y tx ty nx ny px py sh ch) (hi : i < sh) (hw : Wf h) : Cf (mz G) (.func (.func 75) #[] #[]) [.agg ⟨lnC nm x y tx ty sh nx ny px py ch a n c⟩, .int .i64 i] h fun r h' => r = .agg ⟨[.int .i64 (x + (i : Int) * tx), .int .i64 (y + (i : Int) * ty)]⟩ ∧ Grow h h' := by
  have hS := bd.hS
  have h1 := bd.b1
  have h2 := bd.b2
  exact c75 (by omega) (by omega) bd.b3 bd.b4 (by omega) hw
theorem c97n {x y tx ty nx ny px py : Int} {sh ch i : Nat} (bd : LnOk x y tx ty nx ny px py sh ch) (hi : i < sh) (hw : Wf h) : Cf (mz G) (.func (.func 97) #[] #[]) [.agg ⟨[.int .i64 (x + (i : Int) * tx), .int .i64 (y + (i : Int) * ty)]⟩, .int .i64 1, .agg ⟨[.int .i64 nx, .int .i64 ny]⟩] h fun r h' => r = .agg ⟨[.int .i64 (x + (i : Int) * tx + 1 * nx), .int .i64 (y + (i : Int) * ty + 1 * ny)]⟩ ∧ Grow h h' := by
  obtain ⟨s1, s2⟩ := srcB bd hi
  have h5 := bd.b5
  have h6 := bd.b6
  exact c97 (by omega) (by omega) (by omega) (by omega) (by omega) hw
theorem c97r {x y tx ty nx ny px py : Int} {sh ch i k : Nat} (bd : LnOk x y tx ty nx ny px py sh ch) (hi : i < sh) (hk : k < ch) (hw : Wf h) : Cf (mz G) (.func (.func 97) #[] #[]) [.agg ⟨[.int .i64 (x + (i : Int) * tx + 1 * nx), .int .i64 (y + (i : Int) * ty + 1 * ny)]⟩, .int .i64 k, .agg ⟨[.int .i64 px, .int .i64 py]⟩] h fun r h' => r = .agg ⟨[.int .i64 (x + (i : Int) * tx + 1 * nx + (k : Int) * px), .int .i64 (y + (i : Int) * ty + 1 * ny + (k : Int) * py)]⟩ ∧ Grow h h' := by
  obtain ⟨s1, s2⟩ := nearB bd hi
  have h5 := bd.b7
  have h6 := bd.b8
  have hC := bd.hC
  exact c97 (by omega) (by omega) (by omega) (by omega) (by omega) hw
set_option maxHeartbeats 4000000 in
theorem c76 {nm : ByteArray} {x y tx ty nx ny px py : Int} {sh ch : Nat} {a : Option Addr} {n c : Nat} {i k : Nat} (bd : LnOk x y tx ty nx ny px py sh ch) (hi : i < sh) (hk : k < ch) (hw : Wf h) : Cf (mz G) (.func (.func 76) #[] #[]) [.agg ⟨lnC nm x y tx ty sh nx ny px py ch a n c⟩, .int .i64 i, .int .i64 k] h fun r h' => r = .agg ⟨[.int .i64 (x + (i : Int) * tx + 1 * nx + (k : Int) * px), .int .i64 (y + (i : Int) * ty + 1 * ny + (k : Int) * py)]⟩ ∧ Grow h h' := by
  have q75 := fun (h' : H) (w' : Wf h') => c75b (G := G) (h := h') (nm := nm) (a := a) (n := n) (c := c) bd hi w'
  have q97n := fun (h' : H) (w' : Wf h') => c97n (G := G) (h := h') bd hi w'
  have q97r := fun (h' : H) (w' : Wf h') => c97r (G := G) (h := h') bd hi hk w'
  refine cf_enter0 17 [.cell 6 23] Tryz.func76 rfl rfl rfl rfl ?_
  repeat' (first | with_reducible refine wo_nil ?_ | ((with_reducible refine wo_any ?_); first | ((with_reducible refine ik_box ?_); refine wo_op rfl (op_boxAgg rfl zs45 rfl) rfl rfl ?_) | ((with_reducible refine ik_alloc ?_); refine wo_op rfl (op_alloc zz23 zs23 rfl rfl rfl) rfl rfl ?_)) | ((with_reducible refine xk_any ?_); ((with_reducible refine xk_as0 ?_); first | ((with_reducible refine xk_move ?_); refine wx_q (wt_none rfl) rfl rfl (op_q rfl (op_move rfl)) rfl rfl rfl ?_) | ((with_reducible refine xk_load ?_); first | refine wx_h0 (wt_none rfl) rfl (op_q rfl (op_ldAgg rfl at_A Tryz.underlying45 rfl zs45 rfl rfl)) rfl rfl rfl ?_ | refine wx_h0 (wt_none rfl) rfl (op_q rfl (op_ldAgg rfl at_A Tryz.underlying23 rfl zs23 rfl rfl)) rfl rfl rfl ?_) | ((with_reducible refine xk_fieldAddr ?_); first | refine wx_q (wt_none rfl) rfl rfl (op_q rfl (op_fieldAddr (o := 6) rfl Tryz.underlying45 rfl zs23 rfl)) rfl rfl rfl ?_ | refine wx_q (wt_none rfl) rfl rfl (op_q rfl (op_fieldAddr (o := 8) rfl Tryz.underlying45 rfl zs23 rfl)) rfl rfl rfl ?_) | ((with_reducible refine xk_store ?_); refine wx_ee0 (wt_none rfl) rfl rfl (op_stAgg rfl rfl at_A zs23 rfl rfl rfl rfl) rfl ?_) | ((with_reducible refine xk_callv ?_); first | (refine wx_call0 (wt_none rfl) rfl rfl rfl rfl (q75 _ wf_A) rfl rfl ?_; rintro _ _ ⟨rfl, hq⟩; all_goals ((try (have hqn := hq.nx)); (try simp only [H.nx_push, H.nx_set, H.nx_bump] at hqn))) | (refine wx_call0 (wt_none rfl) rfl rfl rfl rfl (q97n _ wf_A) rfl rfl ?_; rintro _ _ ⟨rfl, hq⟩; all_goals ((try (have hqn := hq.nx)); (try simp only [H.nx_push, H.nx_set, H.nx_bump] at hqn))) | (refine wx_call0 (wt_none rfl) rfl rfl rfl rfl (q97r _ wf_A) rfl rfl ?_; rintro _ _ ⟨rfl, hq⟩; all_goals ((try (have hqn := hq.nx)); (try simp only [H.nx_push, H.nx_set, H.nx_bump] at hqn)))) | with_reducible refine wx_nil0 ?_ ?_)) | with_reducible exact obl_nil | with_reducible refine obl_cons ?_ ?_ | ((with_reducible refine ik_obs ?_); first | exact obs_nil | refine obs_skip rfl ?_ | refine obs_chkn rfl rfl (op_q rfl (op_ldAgg rfl at_A Tryz.underlying45 rfl zs45 (by rfl) rfl)) ?_ | refine obs_chkn rfl rfl (op_q rfl (op_ldAgg rfl at_A Tryz.underlying23 rfl zs23 (by rfl) rfl)) ?_) | with_reducible refine sq_norm ?_ | with_reducible refine wc_seq ?_ | with_reducible refine wc_region ?_ | with_reducible refine wc_ret ?_ | refine wc_drawB (id := 1) 11 [0, 0, 3, 0, 8, 31, 0, 0, 128, 511, 1023] [0, 1, 2, 3, 4, 5, 6, 7, 8, 9, 10] (by kernel_rfl) (by kernel_rfl) rfl rfl ?_)
  exact rqc1 rfl (ldAgg at_A Tryz.underlying23 rfl zs23 rfl rfl) ⟨rfl, gr_A⟩
end Go.Proofs.YtnkmencbnoipmaaGreatDoor

/- A line's error by the reference. -/
namespace Go.Proofs.YtnkmencbnoipmaaGreatDoor
open Go Go.Ab Go.Fl
attribute [local irreducible] SeqQ BlkQ LpQ RetQ Wc Wo WD WX Op1 Op1q Op1a Cf Cl From
attribute [local irreducible] Ieee.Format.order Ieee.Format.read Ieee.Format.nearest Ieee.Format.write Ieee.Format.mul Ieee.Format.div Ieee.Format.sqrt Ieee.Datum.order Ieee.Datum.integral K U rngE errN cntE cmpI indE ptE plaE firstNZ numsE lnE BigP isNameB nmE ascA
set_option maxRecDepth 10000
variable {G : Base} {h : H}

def REc (nm : ByteArray) (x y tx ty sh nx ny px py ch : Int) : Int := firstNZ [nmE nm, ptE x y 100000, ptE tx ty 10000, rngE sh 1 64, ptE nx ny 10000, ptE px py 10000, rngE ch 1 16]
attribute [local irreducible] REc
theorem asc_bad {l : List Int} {m : Int} {k : Nat} (hk : k < l.length) (hz : errN (ascA (fun x => idxE x m) l) k = 0) (h : ascA (fun x => idxE x m) l k ≠ 0) : indE l m = ascA (fun x => idxE x m) l k := by
  unfold indE
  have nxt := errN_next hz
  rw [errN_hit (k := k + 1) (by omega) (by rw [nxt]; exact h), nxt]
theorem asc_val {l : List Int} {m x : Int} {k : Nat} (hx : l.getD k 0 = x) : ascA (fun x => idxE x m) l k = if x < 0 ∨ m ≤ x then 10 else if 0 < k ∧ x ≤ l.getD (k - 1) 0 then 11 else 0 := by
  unfold ascA
  rw [hx]
  show (if idxE x m ≠ 0 then idxE x m else _) = _
  unfold idxE
  by_cases h : x < 0 ∨ m ≤ x
  · rw [if_pos h, if_pos (by decide), if_pos h]
  · rw [if_neg h, if_neg (by decide), if_neg h]
set_option maxHeartbeats 8000000 in
theorem c18 {nm : ByteArray} {x y tx ty sh nx ny px py ch : Int} {a : Option Addr} {n c : Nat} {rf : List Int} (s : Sl G h 1 (.slice a n c) n (rf.map (.int .i64))) (hn : n < 1000000) (hnm : nm.size ≤ 1000000) (hw : Wf h) : Cf (mz G) (.func (.func 18) #[] #[]) [.agg ⟨lnC nm x y tx ty sh nx ny px py ch a n c⟩] h fun r h' => r = .int .i64 (lnE nm x y tx ty sh nx ny px py ch rf) ∧ Grow h h' := by
  have hlen := s.length
  simp at hlen
  have q74 := fun (h' : H) => c74 (G := G) (h := h') nm hnm
  have q1 := fun (h' : H) (w' : Wf h') => c67 (G := G) (h := h') (x := x) (y := y) (L := 100000) (by omega) (by omega) w'
  have q2 := fun (h' : H) (w' : Wf h') => c67 (G := G) (h := h') (x := tx) (y := ty) (L := 10000) (by omega) (by omega) w'
  have q3 := fun (h' : H) (w' : Wf h') => c67 (G := G) (h := h') (x := nx) (y := ny) (L := 10000) (by omega) (by omega) w'
  have q4 := fun (h' : H) (w' : Wf h') => c67 (G := G) (h := h') (x := px) (y := py) (L := 10000) (by omega) (by omega) w'
  have q5 := fun (h' : H) => c68 (G := G) (h := h') sh 1 64
  have q6 := fun (h' : H) => c68 (G := G) (h := h') ch 1 16
  have qf := fun (h' : H) (v : Value) (s : Sl G h' 1 v 7 ([nmE nm, ptE x y 100000, ptE tx ty 10000, rngE sh 1 64, ptE nx ny 10000, ptE px py 10000, rngE ch 1 16].map (.int .i64))) => c66 s (by omega)
  have hre := ref_nums (nm := nm) (x := x) (y := y) (tx := tx) (ty := ty) (sh := sh) (nx := nx) (ny := ny) (px := px) (py := py) (ch := ch)
  rw [show firstNZ [nmE nm, ptE x y 100000, ptE tx ty 10000, rngE sh 1 64, ptE nx ny 10000, ptE px py 10000, rngE ch 1 16] = REc nm x y tx ty sh nx ny px py ch by unfold REc; rfl] at qf hre
  obtain ⟨E, hE⟩ : ∃ E, REc nm x y tx ty sh nx ny px py ch = E := ⟨_, rfl⟩
  rw [hE] at qf hre
  refine cf_enter0 95 [.tmp 2] Tryz.func18 rfl rfl rfl rfl ?_
  repeat' (first | with_reducible refine wo_nil ?_ | ((with_reducible refine wo_any ?_); first | ((with_reducible refine ik_move ?_); refine wo_op rfl (op_move rfl) rfl rfl ?_) | ((with_reducible refine ik_assign ?_); refine wo_op rfl (op_assign rfl) rfl rfl ?_) | ((with_reducible refine ik_box ?_); refine wo_op rfl (op_boxAgg rfl zs45 rfl) rfl rfl ?_) | ((with_reducible refine ik_bin ?_); refine wo_op rfl (op_neq rfl rfl) rfl rfl ?_)) | ((with_reducible refine xk_any ?_); first | ((with_reducible refine xk_as0 ?_); first | ((with_reducible refine xk_fieldAddr ?_); first | refine wx_q (wt_none rfl) rfl rfl (op_q rfl (op_fieldAddr (o := 0) rfl Tryz.underlying45 rfl zs9 rfl)) rfl rfl rfl ?_ | refine wx_q (wt_none rfl) rfl rfl (op_q rfl (op_fieldAddr (o := 1) rfl Tryz.underlying45 rfl zs23 rfl)) rfl rfl rfl ?_ | refine wx_q (wt_none rfl) rfl rfl (op_q rfl (op_fieldAddr (o := 3) rfl Tryz.underlying45 rfl zs23 rfl)) rfl rfl rfl ?_ | refine wx_q (wt_none rfl) rfl rfl (op_q rfl (op_fieldAddr (o := 5) rfl Tryz.underlying45 rfl zs3 rfl)) rfl rfl rfl ?_ | refine wx_q (wt_none rfl) rfl rfl (op_q rfl (op_fieldAddr (o := 6) rfl Tryz.underlying45 rfl zs23 rfl)) rfl rfl rfl ?_ | refine wx_q (wt_none rfl) rfl rfl (op_q rfl (op_fieldAddr (o := 8) rfl Tryz.underlying45 rfl zs23 rfl)) rfl rfl rfl ?_ | refine wx_q (wt_none rfl) rfl rfl (op_q rfl (op_fieldAddr (o := 10) rfl Tryz.underlying45 rfl zs3 rfl)) rfl rfl rfl ?_) | ((with_reducible refine xk_load ?_); first | refine wx_h0 (wt_none rfl) rfl (op_q rfl (op_ldAt rfl at_A Tryz.underlying9 rfl rfl)) rfl rfl rfl ?_ | refine wx_h0 (wt_none rfl) rfl (op_q rfl (op_ldAgg rfl at_A Tryz.underlying23 rfl zs23 rfl rfl)) rfl rfl rfl ?_ | refine wx_h0 (wt_none rfl) rfl (op_q rfl (op_ldAt rfl at_A Tryz.underlying3 rfl rfl)) rfl rfl rfl ?_) | ((with_reducible refine xk_buildSlice ?_); refine wx_a0 (wt_none rfl) rfl (oa_buildSlice rfl Tryz.underlying41 zs3 zz3 rfl rfl) rfl rfl ?_) | ((with_reducible refine xk_callv ?_); first | refine wx_ee (wt_none rfl) rfl rfl (op_call rfl rfl (q74 _)) rfl rfl ?_ | refine wx_ee (wt_none rfl) rfl rfl (op_call rfl rfl (q5 _)) rfl rfl ?_ | refine wx_ee (wt_none rfl) rfl rfl (op_call rfl rfl (q6 _)) rfl rfl ?_ | (refine wx_call0 (wt_none rfl) rfl rfl rfl rfl (q1 _ wf_A) rfl rfl ?_; rintro _ _ ⟨rfl, hq⟩; all_goals ((try (have hqn := hq.nx)); (try simp only [H.nx_push, H.nx_set, H.nx_bump] at hqn))) | (refine wx_call0 (wt_none rfl) rfl rfl rfl rfl (q2 _ wf_A) rfl rfl ?_; rintro _ _ ⟨rfl, hq⟩; all_goals ((try (have hqn := hq.nx)); (try simp only [H.nx_push, H.nx_set, H.nx_bump] at hqn))) | (refine wx_call0 (wt_none rfl) rfl rfl rfl rfl (q3 _ wf_A) rfl rfl ?_; rintro _ _ ⟨rfl, hq⟩; all_goals ((try (have hqn := hq.nx)); (try simp only [H.nx_push, H.nx_set, H.nx_bump] at hqn))) | (refine wx_call0 (wt_none rfl) rfl rfl rfl rfl (q4 _ wf_A) rfl rfl ?_; rintro _ _ ⟨rfl, hq⟩; all_goals ((try (have hqn := hq.nx)); (try simp only [H.nx_push, H.nx_set, H.nx_bump] at hqn))))) | ((with_reducible refine xk_assign ?_); refine wx_q (wt_none rfl) rfl rfl (op_q rfl (op_assign rfl)) rfl rfl rfl ?_) | ((with_reducible refine xk_callv ?_); ((with_reducible refine xk_as1 ?_); refine wx_e1 (wt_none rfl) rfl rfl rfl (op_call rfl rfl (qf _ _ (Sl.ofAt (show At _ _ (.cells [.int .i64 (nmE nm), .int .i64 (ptE x y 100000), .int .i64 (ptE tx ty 10000), .int .i64 (rngE sh 1 64), .int .i64 (ptE nx ny 10000), .int .i64 (ptE px py 10000), .int .i64 (rngE ch 1 16)] 3 1 false) from at_A) rfl (Nat.le_refl _)))) rfl rfl ?_)) | refine wx_niln ?_ ?_ rfl rfl ?_) | with_reducible exact obl_nil | with_reducible refine obl_cons ?_ ?_ | ((with_reducible refine ik_obs ?_); first | exact obs_nil | refine obs_skip rfl ?_ | refine obs_chkn rfl rfl (op_q rfl (op_ldAt rfl at_A Tryz.underlying9 rfl (by rfl))) ?_ | refine obs_chkn rfl rfl (op_q rfl (op_ldAgg rfl at_A Tryz.underlying23 rfl zs23 (by rfl) rfl)) ?_ | refine obs_chkn rfl rfl (op_q rfl (op_ldAt rfl at_A Tryz.underlying3 rfl (by rfl))) ?_) | with_reducible exact stk_nil | with_reducible refine stk_cons ?_ ?_ | ((with_reducible refine ik_stk ?_); first | exact stk_abs rfl rfl | exact stk_freeB rfl rfl wf_A gr_B) | with_reducible refine sq_norm ?_ | with_reducible refine wc_seq ?_ | with_reducible refine wc_region ?_ | refine wc_drawB (id := 1) 24 [0, 1, 3, 0, 8, 31, 0, 64, 255, 0, 512, 2047, 0, 4096, 16383, 0, 32768, 131071, 0, 262144, 1048575, 2097151, 4194303, 8388607] [0, 1, 2, 3, 4, 5, 6, 7, 8, 9, 10, 11, 12, 13, 14, 15, 16, 17, 18, 19, 20, 21, 22, 23] (by kernel_rfl) (by kernel_rfl) rfl rfl ?_)
  clear q74 q1 q2 q3 q4 q5 q6 qf hE
  refine wc_cut (ι := Unit) (fun _ => [(1, .pointer (some ⟨h.nx, 0, some 0⟩)), (3, .int .i64 E), (31, .bool (decide (E ≠ 0)))]) (fun _ h' => Wf h' ∧ Grow h h' ∧ At h' h.nx (.cells (lnC nm x y tx ty sh nx ny px py ch a n c) 45 12 false)) () (within_lk ⟨rfl, rfl, rfl, trivial⟩) ⟨wf_A, gr_A, at_A⟩ ?_
  rintro _ h0 ⟨w0, g0, at0⟩
  have n0 := g0.nx
  have l0 := at0.lt
  by_cases hz : E = 0
  · subst hz
    repeat' (first | with_reducible refine wo_nil ?_ | ((with_reducible refine wo_any ?_); ((with_reducible refine ik_assign ?_); refine wo_op rfl (op_assign rfl) rfl rfl ?_)) | with_reducible refine sq_norm ?_ | with_reducible refine wc_seq ?_ | with_reducible refine wc_region ?_ | with_reducible refine wc_skip ?_ | with_reducible refine wc_block ?_ | refine wc_iff rfl ?_)
    have hname : isNameB nm = true := by
      cases hb : isNameB nm with
      | true => rfl
      | false => rw [hb] at hre; simp at hre
    have hnum : numsE [x, y, tx, ty, sh, nx, ny, px, py, ch] = 0 := by rw [hname, if_pos rfl] at hre; exact hre.symm
    clear hre
    obtain ⟨S, C, rfl, rfl, hS1, hC1, bd⟩ := nums_lnok hnum
    have hS := bd.hS
    have hC := bd.hC
    refine wc_loop (fun k => n - k) (fun k : Nat => [(1, .pointer (some ⟨h.nx, 0, some 0⟩)), (4, .int .i64 k)]) (fun k h' => (Wf h' ∧ Grow h h' ∧ At h' h.nx (.cells (lnC nm x y tx ty S nx ny px py C a n c) 45 12 false)) ∧ k ≤ n ∧ errN (ascA (fun x => idxE x S) rf) k = 0) 0 (within_lk ⟨rfl, rfl, trivial⟩) ⟨⟨wf_A, gr_A, at_A⟩, Nat.zero_le _, errN_zero _⟩ ?_
    rintro k h1 ⟨⟨w1, g1, at1⟩, hk, hz⟩
    have n1 := g1.nx
    have l1 := at1.lt
    by_cases hlt : k < n
    · obtain ⟨ad, i1, i3⟩ := in_atG (s.grow g1) (i := (k : Int)) hlt rfl
      obtain ⟨x', hx'⟩ : ∃ z, rf.getD k 0 = z := ⟨_, rfl⟩
      have hv := asc_val (l := rf) (m := S) hx'
      have hit := fun q => asc_bad (l := rf) (m := S) (by omega) hz q
      have nxt := errN_next hz
      rw [hx'] at i3
      by_cases he : x' < 0 ∨ (S : Int) ≤ x'
      · rw [if_pos he] at hv
        rw [lnE_ind hname hnum (by rw [hit (by rw [hv]; decide), hv]; decide), hit (by rw [hv]; decide), hv]
        clear hit nxt hv
        rcases he with he | he
        · repeat' (first | with_reducible refine wo_nil ?_ | ((with_reducible refine wo_any ?_); first | ((with_reducible refine ik_move ?_); refine wo_op rfl (op_move rfl) rfl rfl ?_) | ((with_reducible refine ik_assign ?_); refine wo_op rfl (op_assign rfl) rfl rfl ?_) | ((with_reducible refine ik_load ?_); refine wo_op rfl (op_ldAt rfl at_A Tryz.underlying41 rfl rfl) rfl rfl ?_) | ((with_reducible refine ik_fieldAddr ?_); refine wo_op rfl (op_fieldAddr (o := 11) rfl Tryz.underlying45 rfl zs41 rfl) rfl rfl ?_) | ((with_reducible refine ik_bin ?_); refine wo_op rfl (op_lss rfl rfl) rfl rfl ?_) | ((with_reducible refine ik_callb ?_); refine wo_op rfl (op_lenSl rfl Tryz.underlying41) rfl rfl ?_)) | ((with_reducible refine xk_any ?_); ((with_reducible refine xk_as0 ?_); first | ((with_reducible refine xk_move ?_); refine wx_q (wt_none rfl) rfl rfl (op_q rfl (op_move rfl)) rfl rfl rfl ?_) | ((with_reducible refine xk_indexAddr ?_); refine wx_q (wt_none rfl) rfl rfl (op_q rfl (op_indexAddr rfl rfl i1)) rfl rfl rfl ?_) | ((with_reducible refine xk_load ?_); first | refine wx_h0 (wt_none rfl) rfl (op_q rfl (op_ldCell rfl Tryz.underlying3 rfl (i3 _ gr_A))) rfl rfl rfl ?_ | refine wx_h0 (wt_none rfl) rfl (op_q rfl (op_ldAt rfl at_A Tryz.underlying41 rfl rfl)) rfl rfl rfl ?_) | ((with_reducible refine xk_fieldAddr ?_); refine wx_q (wt_none rfl) rfl rfl (op_q rfl (op_fieldAddr (o := 11) rfl Tryz.underlying45 rfl zs41 rfl)) rfl rfl rfl ?_) | ((with_reducible refine xk_bin ?_); refine wx_q (wt_none rfl) rfl rfl (op_q rfl (op_lss rfl rfl)) rfl rfl rfl ?_) | ((with_reducible refine xk_pick ?_); refine wx_q (wt_none rfl) rfl rfl (op_q rfl (op_pickt rfl rfl)) rfl rfl rfl ?_) | ((with_reducible refine xk_g ?_); first | refine wx_s (wt_skip rfl rfl rfl rfl) rfl rfl ?_ | (refine wx_split rfl rfl rfl (fun hb => ?_) (fun hb => dead_A hb); (try simp only [decide_eq_true_eq, decide_eq_false_iff_not, Bool.not_eq_true', Bool.not_eq_false', Int.not_lt, Int.not_le, Decidable.not_not, not_true_eq_false, not_false_eq_true, beq_self_eq_true, reduceCtorEq] at hb))) | with_reducible refine wx_nil0 ?_ ?_)) | with_reducible exact obl_nil | with_reducible refine obl_cons ?_ ?_ | ((with_reducible refine ik_obs ?_); first | exact obs_nil | refine obs_chkn rfl rfl (op_q rfl (op_ldCell rfl Tryz.underlying3 rfl (i3 _ gr_A))) ?_ | refine obs_chkn rfl rfl (op_q rfl (op_ldAt rfl at_A Tryz.underlying41 rfl (by rfl))) ?_) | with_reducible refine sq_norm ?_ | with_reducible refine wc_seq ?_ | with_reducible refine wc_region ?_ | with_reducible refine wc_skip ?_ | with_reducible refine wc_ret ?_ | with_reducible refine wc_block ?_ | with_reducible refine bq_ret ?_ | with_reducible refine sq_ret ?_ | with_reducible refine lq_ret ?_ | refine wc_ift rfl ?_ | (refine wc_if rfl (fun hb => ?_) (fun hb => dead_A hb); (try simp only [decide_eq_true_eq, decide_eq_false_iff_not, Bool.not_eq_true', Bool.not_eq_false', Int.not_lt, Int.not_le, Decidable.not_not, not_true_eq_false, not_false_eq_true, beq_self_eq_true, reduceCtorEq] at hb)) | refine wc_drawB (id := 7) 16 [0, 1, 0, 7, 15, 31, 63, 127, 255, 127, 1023, 2047, 127, 4223, 16383, 32767] [0, 1, 2, 3, 4, 5, 6, 7, 8, 9, 10, 11, 12, 13, 14, 15] (by kernel_rfl) (by kernel_rfl) rfl rfl ?_)
          all_goals exact rq1 rfl ⟨rfl, gr_A⟩
        · by_cases he2 : x' < 0
          · exfalso; omega
          · repeat' (first | with_reducible refine wo_nil ?_ | ((with_reducible refine wo_any ?_); first | ((with_reducible refine ik_move ?_); refine wo_op rfl (op_move rfl) rfl rfl ?_) | ((with_reducible refine ik_assign ?_); refine wo_op rfl (op_assign rfl) rfl rfl ?_) | ((with_reducible refine ik_load ?_); refine wo_op rfl (op_ldAt rfl at_A Tryz.underlying41 rfl rfl) rfl rfl ?_) | ((with_reducible refine ik_fieldAddr ?_); refine wo_op rfl (op_fieldAddr (o := 11) rfl Tryz.underlying45 rfl zs41 rfl) rfl rfl ?_) | ((with_reducible refine ik_bin ?_); refine wo_op rfl (op_lss rfl rfl) rfl rfl ?_) | ((with_reducible refine ik_callb ?_); refine wo_op rfl (op_lenSl rfl Tryz.underlying41) rfl rfl ?_)) | ((with_reducible refine xk_any ?_); ((with_reducible refine xk_as0 ?_); first | ((with_reducible refine xk_move ?_); refine wx_q (wt_none rfl) rfl rfl (op_q rfl (op_move rfl)) rfl rfl rfl ?_) | ((with_reducible refine xk_indexAddr ?_); refine wx_q (wt_none rfl) rfl rfl (op_q rfl (op_indexAddr rfl rfl i1)) rfl rfl rfl ?_) | ((with_reducible refine xk_load ?_); first | refine wx_h0 (wt_none rfl) rfl (op_q rfl (op_ldCell rfl Tryz.underlying3 rfl (i3 _ gr_A))) rfl rfl rfl ?_ | refine wx_h0 (wt_none rfl) rfl (op_q rfl (op_ldAt rfl at_A Tryz.underlying41 rfl rfl)) rfl rfl rfl ?_) | ((with_reducible refine xk_fieldAddr ?_); refine wx_q (wt_none rfl) rfl rfl (op_q rfl (op_fieldAddr (o := 11) rfl Tryz.underlying45 rfl zs41 rfl)) rfl rfl rfl ?_) | ((with_reducible refine xk_bin ?_); refine wx_q (wt_none rfl) rfl rfl (op_q rfl (op_lss rfl rfl)) rfl rfl rfl ?_) | ((with_reducible refine xk_pick ?_); refine wx_q (wt_none rfl) rfl rfl (op_q rfl (op_pickf rfl rfl)) rfl rfl rfl ?_) | ((with_reducible refine xk_g ?_); first | ((with_reducible refine xg_move ?_); refine wx_q (wt_run rfl rfl rfl) rfl rfl (op_q rfl (op_move rfl)) rfl rfl rfl ?_) | ((with_reducible refine xg_indexAddr ?_); refine wx_q (wt_run rfl rfl rfl) rfl rfl (op_q rfl (op_indexAddr rfl rfl i1)) rfl rfl rfl ?_) | ((with_reducible refine xg_load ?_); first | refine wx_h0 (wt_run rfl rfl rfl) rfl (op_q rfl (op_ldCell rfl Tryz.underlying3 rfl (i3 _ gr_A))) rfl rfl rfl ?_ | refine wx_h0 (wt_run rfl rfl rfl) rfl (op_q rfl (op_ldAt rfl at_A Tryz.underlying3 rfl rfl)) rfl rfl rfl ?_ | refine wx_h0 (wt_run rfl rfl rfl) rfl (op_q rfl (op_ldAt rfl at_A Tryz.underlying41 rfl rfl)) rfl rfl rfl ?_) | ((with_reducible refine xg_fieldAddr ?_); first | refine wx_q (wt_run rfl rfl rfl) rfl rfl (op_q rfl (op_fieldAddr (o := 5) rfl Tryz.underlying45 rfl zs3 rfl)) rfl rfl rfl ?_ | refine wx_q (wt_run rfl rfl rfl) rfl rfl (op_q rfl (op_fieldAddr (o := 11) rfl Tryz.underlying45 rfl zs41 rfl)) rfl rfl rfl ?_) | ((with_reducible refine xg_bin ?_); refine wx_q (wt_run rfl rfl rfl) rfl rfl (op_q rfl (op_geq rfl rfl)) rfl rfl rfl ?_) | (refine wx_split rfl rfl rfl (fun hb => dead_A hb) (fun hb => ?_); (try simp only [decide_eq_true_eq, decide_eq_false_iff_not, Bool.not_eq_true', Bool.not_eq_false', Int.not_lt, Int.not_le, Decidable.not_not, not_true_eq_false, not_false_eq_true, beq_self_eq_true, reduceCtorEq] at hb))) | with_reducible refine wx_nil0 ?_ ?_)) | with_reducible exact obl_nil | with_reducible refine obl_cons ?_ ?_ | ((with_reducible refine ik_obs ?_); first | exact obs_nil | refine obs_chkn rfl rfl (op_q rfl (op_ldCell rfl Tryz.underlying3 rfl (i3 _ gr_A))) ?_ | refine obs_chkn rfl rfl (op_q rfl (op_ldAt rfl at_A Tryz.underlying3 rfl (by rfl))) ?_ | refine obs_chkn rfl rfl (op_q rfl (op_ldAt rfl at_A Tryz.underlying41 rfl (by rfl))) ?_) | with_reducible refine sq_norm ?_ | with_reducible refine wc_seq ?_ | with_reducible refine wc_region ?_ | with_reducible refine wc_skip ?_ | with_reducible refine wc_ret ?_ | with_reducible refine wc_block ?_ | with_reducible refine bq_ret ?_ | with_reducible refine sq_ret ?_ | with_reducible refine lq_ret ?_ | (refine wc_if rfl (fun hb => ?_) (fun hb => dead_A hb); (try simp only [decide_eq_true_eq, decide_eq_false_iff_not, Bool.not_eq_true', Bool.not_eq_false', Int.not_lt, Int.not_le, Decidable.not_not, not_true_eq_false, not_false_eq_true, beq_self_eq_true, reduceCtorEq] at hb)) | refine wc_drawB (id := 7) 16 [0, 1, 0, 7, 15, 31, 63, 127, 255, 127, 1023, 2047, 127, 4223, 16383, 32767] [0, 1, 2, 3, 4, 5, 6, 7, 8, 9, 10, 11, 12, 13, 14, 15] (by kernel_rfl) (by kernel_rfl) rfl rfl ?_)
            all_goals exact rq1 rfl ⟨rfl, gr_A⟩
      · rw [if_neg he] at hv
        by_cases hk0 : 0 < k
        · obtain ⟨bd', j1, j3⟩ := in_atG (s.grow g1) (i := (k : Int) - 1) (q := k - 1) (by omega) (by omega)
          obtain ⟨y', hy'⟩ : ∃ z, rf.getD (k - 1) 0 = z := ⟨_, rfl⟩
          rw [hy'] at j3 hv
          by_cases q : x' ≤ y'
          · rw [if_pos ⟨hk0, q⟩] at hv
            rw [lnE_ind hname hnum (by rw [hit (by rw [hv]; decide), hv]; decide), hit (by rw [hv]; decide), hv]
            clear hit nxt hv
            repeat' (first | with_reducible refine wo_nil ?_ | ((with_reducible refine wo_any ?_); first | ((with_reducible refine ik_move ?_); refine wo_op rfl (op_move rfl) rfl rfl ?_) | ((with_reducible refine ik_assign ?_); refine wo_op rfl (op_assign rfl) rfl rfl ?_) | ((with_reducible refine ik_load ?_); refine wo_op rfl (op_ldAt rfl at_A Tryz.underlying41 rfl rfl) rfl rfl ?_) | ((with_reducible refine ik_fieldAddr ?_); refine wo_op rfl (op_fieldAddr (o := 11) rfl Tryz.underlying45 rfl zs41 rfl) rfl rfl ?_) | ((with_reducible refine ik_bin ?_); refine wo_op rfl (op_lss rfl rfl) rfl rfl ?_) | ((with_reducible refine ik_callb ?_); refine wo_op rfl (op_lenSl rfl Tryz.underlying41) rfl rfl ?_)) | ((with_reducible refine xk_any ?_); ((with_reducible refine xk_as0 ?_); first | ((with_reducible refine xk_move ?_); refine wx_q (wt_none rfl) rfl rfl (op_q rfl (op_move rfl)) rfl rfl rfl ?_) | ((with_reducible refine xk_indexAddr ?_); refine wx_q (wt_none rfl) rfl rfl (op_q rfl (op_indexAddr rfl rfl i1)) rfl rfl rfl ?_) | ((with_reducible refine xk_load ?_); first | refine wx_h0 (wt_none rfl) rfl (op_q rfl (op_ldCell rfl Tryz.underlying3 rfl (i3 _ gr_A))) rfl rfl rfl ?_ | refine wx_h0 (wt_none rfl) rfl (op_q rfl (op_ldAt rfl at_A Tryz.underlying41 rfl rfl)) rfl rfl rfl ?_) | ((with_reducible refine xk_fieldAddr ?_); refine wx_q (wt_none rfl) rfl rfl (op_q rfl (op_fieldAddr (o := 11) rfl Tryz.underlying45 rfl zs41 rfl)) rfl rfl rfl ?_) | ((with_reducible refine xk_bin ?_); first | refine wx_q (wt_none rfl) rfl rfl (op_q rfl (op_lss rfl rfl)) rfl rfl rfl ?_ | refine wx_q (wt_none rfl) rfl rfl (op_q rfl (op_gtr rfl rfl)) rfl rfl rfl ?_) | ((with_reducible refine xk_pick ?_); first | refine wx_q (wt_none rfl) rfl rfl (op_q rfl (op_pickt rfl rfl)) rfl rfl rfl ?_ | refine wx_q (wt_none rfl) rfl rfl (op_q rfl (op_pickf rfl rfl)) rfl rfl rfl ?_) | ((with_reducible refine xk_g ?_); first | ((with_reducible refine xg_move ?_); refine wx_q (wt_run rfl rfl rfl) rfl rfl (op_q rfl (op_move rfl)) rfl rfl rfl ?_) | ((with_reducible refine xg_indexAddr ?_); first | refine wx_q (wt_run rfl rfl rfl) rfl rfl (op_q rfl (op_indexAddr rfl rfl i1)) rfl rfl rfl ?_ | refine wx_q (wt_run rfl rfl rfl) rfl rfl (op_q rfl (op_indexAddr rfl rfl j1)) rfl rfl rfl ?_) | ((with_reducible refine xg_load ?_); first | refine wx_h0 (wt_run rfl rfl rfl) rfl (op_q rfl (op_ldCell rfl Tryz.underlying3 rfl (i3 _ gr_A))) rfl rfl rfl ?_ | refine wx_h0 (wt_run rfl rfl rfl) rfl (op_q rfl (op_ldCell rfl Tryz.underlying3 rfl (j3 _ gr_A))) rfl rfl rfl ?_ | refine wx_h0 (wt_run rfl rfl rfl) rfl (op_q rfl (op_ldAt rfl at_A Tryz.underlying3 rfl rfl)) rfl rfl rfl ?_ | refine wx_h0 (wt_run rfl rfl rfl) rfl (op_q rfl (op_ldAt rfl at_A Tryz.underlying41 rfl rfl)) rfl rfl rfl ?_) | ((with_reducible refine xg_fieldAddr ?_); first | refine wx_q (wt_run rfl rfl rfl) rfl rfl (op_q rfl (op_fieldAddr (o := 5) rfl Tryz.underlying45 rfl zs3 rfl)) rfl rfl rfl ?_ | refine wx_q (wt_run rfl rfl rfl) rfl rfl (op_q rfl (op_fieldAddr (o := 11) rfl Tryz.underlying45 rfl zs41 rfl)) rfl rfl rfl ?_) | ((with_reducible refine xg_bin ?_); first | refine wx_q (wt_run rfl rfl rfl) rfl rfl (op_q rfl (op_geq rfl rfl)) rfl rfl rfl ?_ | refine wx_q (wt_run rfl rfl rfl) rfl rfl (op_q rfl (op_sub' rfl rfl (w64 (by omega) (by omega)))) rfl rfl rfl ?_ | refine wx_q (wt_run rfl rfl rfl) rfl rfl (op_q rfl (op_leq rfl rfl)) rfl rfl rfl ?_) | (refine wx_split rfl rfl rfl (fun hb => dead_A hb) (fun hb => ?_); (try simp only [decide_eq_true_eq, decide_eq_false_iff_not, Bool.not_eq_true', Bool.not_eq_false', Int.not_lt, Int.not_le, Decidable.not_not, not_true_eq_false, not_false_eq_true, beq_self_eq_true, reduceCtorEq] at hb)) | (refine wx_split rfl rfl rfl (fun hb => ?_) (fun hb => dead_A hb); (try simp only [decide_eq_true_eq, decide_eq_false_iff_not, Bool.not_eq_true', Bool.not_eq_false', Int.not_lt, Int.not_le, Decidable.not_not, not_true_eq_false, not_false_eq_true, beq_self_eq_true, reduceCtorEq] at hb))) | with_reducible refine wx_nil0 ?_ ?_)) | with_reducible exact obl_nil | with_reducible refine obl_cons ?_ ?_ | ((with_reducible refine ik_obs ?_); first | exact obs_nil | refine obs_chkn rfl rfl (op_q rfl (op_ldCell rfl Tryz.underlying3 rfl (i3 _ gr_A))) ?_ | refine obs_chkn rfl rfl (op_q rfl (op_ldCell rfl Tryz.underlying3 rfl (j3 _ gr_A))) ?_ | refine obs_chkn rfl rfl (op_q rfl (op_ldAt rfl at_A Tryz.underlying3 rfl (by rfl))) ?_ | refine obs_chkn rfl rfl (op_q rfl (op_ldAt rfl at_A Tryz.underlying41 rfl (by rfl))) ?_) | with_reducible refine sq_norm ?_ | with_reducible refine wc_seq ?_ | with_reducible refine wc_region ?_ | with_reducible refine wc_skip ?_ | with_reducible refine wc_ret ?_ | with_reducible refine wc_block ?_ | with_reducible refine bq_ret ?_ | with_reducible refine sq_ret ?_ | with_reducible refine lq_ret ?_ | (refine wc_if rfl (fun hb => dead_A hb) (fun hb => ?_); (try simp only [decide_eq_true_eq, decide_eq_false_iff_not, Bool.not_eq_true', Bool.not_eq_false', Int.not_lt, Int.not_le, Decidable.not_not, not_true_eq_false, not_false_eq_true, beq_self_eq_true, reduceCtorEq] at hb)) | (refine wc_if rfl (fun hb => ?_) (fun hb => dead_A hb); (try simp only [decide_eq_true_eq, decide_eq_false_iff_not, Bool.not_eq_true', Bool.not_eq_false', Int.not_lt, Int.not_le, Decidable.not_not, not_true_eq_false, not_false_eq_true, beq_self_eq_true, reduceCtorEq] at hb)) | refine wc_drawB (id := 7) 16 [0, 1, 0, 7, 15, 31, 63, 127, 255, 127, 1023, 2047, 127, 4223, 16383, 32767] [0, 1, 2, 3, 4, 5, 6, 7, 8, 9, 10, 11, 12, 13, 14, 15] (by kernel_rfl) (by kernel_rfl) rfl rfl ?_ | refine wc_drawB (id := 9) 16 [0, 1, 3, 7, 15, 7, 63, 127, 7, 263, 7, 1031, 3847, 7943, 16383, 32767] [0, 1, 2, 3, 4, 5, 6, 7, 8, 9, 10, 11, 12, 13, 14, 15] (by kernel_rfl) (by kernel_rfl) rfl rfl ?_)
            all_goals exact rq1 rfl ⟨rfl, gr_A⟩
          · rw [if_neg (by omega)] at hv
            rw [hv] at nxt
            clear hit hv
            repeat' (first | with_reducible refine wo_nil ?_ | ((with_reducible refine wo_any ?_); first | ((with_reducible refine ik_move ?_); refine wo_op rfl (op_move rfl) rfl rfl ?_) | ((with_reducible refine ik_assign ?_); refine wo_op rfl (op_assign rfl) rfl rfl ?_) | ((with_reducible refine ik_load ?_); refine wo_op rfl (op_ldAt rfl at_A Tryz.underlying41 rfl rfl) rfl rfl ?_) | ((with_reducible refine ik_fieldAddr ?_); refine wo_op rfl (op_fieldAddr (o := 11) rfl Tryz.underlying45 rfl zs41 rfl) rfl rfl ?_) | ((with_reducible refine ik_bin ?_); first | refine wo_op rfl (op_lss rfl rfl) rfl rfl ?_ | refine wo_op rfl (op_add' rfl rfl (w64 (by omega) (by omega))) rfl rfl ?_) | ((with_reducible refine ik_callb ?_); refine wo_op rfl (op_lenSl rfl Tryz.underlying41) rfl rfl ?_)) | ((with_reducible refine xk_any ?_); ((with_reducible refine xk_as0 ?_); first | ((with_reducible refine xk_move ?_); refine wx_q (wt_none rfl) rfl rfl (op_q rfl (op_move rfl)) rfl rfl rfl ?_) | ((with_reducible refine xk_indexAddr ?_); refine wx_q (wt_none rfl) rfl rfl (op_q rfl (op_indexAddr rfl rfl i1)) rfl rfl rfl ?_) | ((with_reducible refine xk_load ?_); first | refine wx_h0 (wt_none rfl) rfl (op_q rfl (op_ldCell rfl Tryz.underlying3 rfl (i3 _ gr_A))) rfl rfl rfl ?_ | refine wx_h0 (wt_none rfl) rfl (op_q rfl (op_ldAt rfl at_A Tryz.underlying41 rfl rfl)) rfl rfl rfl ?_) | ((with_reducible refine xk_fieldAddr ?_); refine wx_q (wt_none rfl) rfl rfl (op_q rfl (op_fieldAddr (o := 11) rfl Tryz.underlying45 rfl zs41 rfl)) rfl rfl rfl ?_) | ((with_reducible refine xk_bin ?_); first | refine wx_q (wt_none rfl) rfl rfl (op_q rfl (op_lss rfl rfl)) rfl rfl rfl ?_ | refine wx_q (wt_none rfl) rfl rfl (op_q rfl (op_gtr rfl rfl)) rfl rfl rfl ?_) | ((with_reducible refine xk_pick ?_); first | refine wx_q (wt_none rfl) rfl rfl (op_q rfl (op_pickt rfl rfl)) rfl rfl rfl ?_ | refine wx_q (wt_none rfl) rfl rfl (op_q rfl (op_pickf rfl rfl)) rfl rfl rfl ?_) | ((with_reducible refine xk_g ?_); first | ((with_reducible refine xg_move ?_); refine wx_q (wt_run rfl rfl rfl) rfl rfl (op_q rfl (op_move rfl)) rfl rfl rfl ?_) | ((with_reducible refine xg_indexAddr ?_); first | refine wx_q (wt_run rfl rfl rfl) rfl rfl (op_q rfl (op_indexAddr rfl rfl i1)) rfl rfl rfl ?_ | refine wx_q (wt_run rfl rfl rfl) rfl rfl (op_q rfl (op_indexAddr rfl rfl j1)) rfl rfl rfl ?_) | ((with_reducible refine xg_load ?_); first | refine wx_h0 (wt_run rfl rfl rfl) rfl (op_q rfl (op_ldCell rfl Tryz.underlying3 rfl (i3 _ gr_A))) rfl rfl rfl ?_ | refine wx_h0 (wt_run rfl rfl rfl) rfl (op_q rfl (op_ldCell rfl Tryz.underlying3 rfl (j3 _ gr_A))) rfl rfl rfl ?_ | refine wx_h0 (wt_run rfl rfl rfl) rfl (op_q rfl (op_ldAt rfl at_A Tryz.underlying3 rfl rfl)) rfl rfl rfl ?_ | refine wx_h0 (wt_run rfl rfl rfl) rfl (op_q rfl (op_ldAt rfl at_A Tryz.underlying41 rfl rfl)) rfl rfl rfl ?_) | ((with_reducible refine xg_fieldAddr ?_); first | refine wx_q (wt_run rfl rfl rfl) rfl rfl (op_q rfl (op_fieldAddr (o := 5) rfl Tryz.underlying45 rfl zs3 rfl)) rfl rfl rfl ?_ | refine wx_q (wt_run rfl rfl rfl) rfl rfl (op_q rfl (op_fieldAddr (o := 11) rfl Tryz.underlying45 rfl zs41 rfl)) rfl rfl rfl ?_) | ((with_reducible refine xg_bin ?_); first | refine wx_q (wt_run rfl rfl rfl) rfl rfl (op_q rfl (op_geq rfl rfl)) rfl rfl rfl ?_ | refine wx_q (wt_run rfl rfl rfl) rfl rfl (op_q rfl (op_sub' rfl rfl (w64 (by omega) (by omega)))) rfl rfl rfl ?_ | refine wx_q (wt_run rfl rfl rfl) rfl rfl (op_q rfl (op_leq rfl rfl)) rfl rfl rfl ?_) | (refine wx_split rfl rfl rfl (fun hb => dead_A hb) (fun hb => ?_); (try simp only [decide_eq_true_eq, decide_eq_false_iff_not, Bool.not_eq_true', Bool.not_eq_false', Int.not_lt, Int.not_le, Decidable.not_not, not_true_eq_false, not_false_eq_true, beq_self_eq_true, reduceCtorEq] at hb)) | (refine wx_split rfl rfl rfl (fun hb => ?_) (fun hb => dead_A hb); (try simp only [decide_eq_true_eq, decide_eq_false_iff_not, Bool.not_eq_true', Bool.not_eq_false', Int.not_lt, Int.not_le, Decidable.not_not, not_true_eq_false, not_false_eq_true, beq_self_eq_true, reduceCtorEq] at hb))) | with_reducible refine wx_nil0 ?_ ?_)) | with_reducible exact obl_nil | with_reducible refine obl_cons ?_ ?_ | ((with_reducible refine ik_obs ?_); first | exact obs_nil | refine obs_chkn rfl rfl (op_q rfl (op_ldCell rfl Tryz.underlying3 rfl (i3 _ gr_A))) ?_ | refine obs_chkn rfl rfl (op_q rfl (op_ldCell rfl Tryz.underlying3 rfl (j3 _ gr_A))) ?_ | refine obs_chkn rfl rfl (op_q rfl (op_ldAt rfl at_A Tryz.underlying3 rfl (by rfl))) ?_ | refine obs_chkn rfl rfl (op_q rfl (op_ldAt rfl at_A Tryz.underlying41 rfl (by rfl))) ?_) | with_reducible refine sq_norm ?_ | with_reducible refine wc_seq ?_ | with_reducible refine wc_region ?_ | with_reducible refine wc_skip ?_ | with_reducible refine wc_block ?_ | with_reducible refine bq_norm ?_ | (refine wc_if rfl (fun hb => dead_A hb) (fun hb => ?_); (try simp only [decide_eq_true_eq, decide_eq_false_iff_not, Bool.not_eq_true', Bool.not_eq_false', Int.not_lt, Int.not_le, Decidable.not_not, not_true_eq_false, not_false_eq_true, beq_self_eq_true, reduceCtorEq] at hb)) | (refine wc_if rfl (fun hb => ?_) (fun hb => dead_A hb); (try simp only [decide_eq_true_eq, decide_eq_false_iff_not, Bool.not_eq_true', Bool.not_eq_false', Int.not_lt, Int.not_le, Decidable.not_not, not_true_eq_false, not_false_eq_true, beq_self_eq_true, reduceCtorEq] at hb)) | refine wc_drawB (id := 7) 16 [0, 1, 0, 7, 15, 31, 63, 127, 255, 127, 1023, 2047, 127, 4223, 16383, 32767] [0, 1, 2, 3, 4, 5, 6, 7, 8, 9, 10, 11, 12, 13, 14, 15] (by kernel_rfl) (by kernel_rfl) rfl rfl ?_ | refine wc_drawB (id := 9) 16 [0, 1, 3, 7, 15, 7, 63, 127, 7, 263, 7, 1031, 3847, 7943, 16383, 32767] [0, 1, 2, 3, 4, 5, 6, 7, 8, 9, 10, 11, 12, 13, 14, 15] (by kernel_rfl) (by kernel_rfl) rfl rfl ?_)
            all_goals exact lq_norm (k + 1) (by omega) (within_lk ⟨rfl, rfl, trivial⟩) ⟨⟨wf_A, gr_A, at_A⟩, by omega, nxt⟩
        · rw [if_neg (by omega)] at hv
          rw [hv] at nxt
          clear hit hv
          repeat' (first | with_reducible refine wo_nil ?_ | ((with_reducible refine wo_any ?_); first | ((with_reducible refine ik_move ?_); refine wo_op rfl (op_move rfl) rfl rfl ?_) | ((with_reducible refine ik_assign ?_); refine wo_op rfl (op_assign rfl) rfl rfl ?_) | ((with_reducible refine ik_load ?_); refine wo_op rfl (op_ldAt rfl at_A Tryz.underlying41 rfl rfl) rfl rfl ?_) | ((with_reducible refine ik_fieldAddr ?_); refine wo_op rfl (op_fieldAddr (o := 11) rfl Tryz.underlying45 rfl zs41 rfl) rfl rfl ?_) | ((with_reducible refine ik_bin ?_); first | refine wo_op rfl (op_lss rfl rfl) rfl rfl ?_ | refine wo_op rfl (op_add' rfl rfl (w64 (by omega) (by omega))) rfl rfl ?_) | ((with_reducible refine ik_callb ?_); refine wo_op rfl (op_lenSl rfl Tryz.underlying41) rfl rfl ?_)) | ((with_reducible refine xk_any ?_); ((with_reducible refine xk_as0 ?_); first | ((with_reducible refine xk_move ?_); refine wx_q (wt_none rfl) rfl rfl (op_q rfl (op_move rfl)) rfl rfl rfl ?_) | ((with_reducible refine xk_indexAddr ?_); refine wx_q (wt_none rfl) rfl rfl (op_q rfl (op_indexAddr rfl rfl i1)) rfl rfl rfl ?_) | ((with_reducible refine xk_load ?_); first | refine wx_h0 (wt_none rfl) rfl (op_q rfl (op_ldCell rfl Tryz.underlying3 rfl (i3 _ gr_A))) rfl rfl rfl ?_ | refine wx_h0 (wt_none rfl) rfl (op_q rfl (op_ldAt rfl at_A Tryz.underlying41 rfl rfl)) rfl rfl rfl ?_) | ((with_reducible refine xk_fieldAddr ?_); refine wx_q (wt_none rfl) rfl rfl (op_q rfl (op_fieldAddr (o := 11) rfl Tryz.underlying45 rfl zs41 rfl)) rfl rfl rfl ?_) | ((with_reducible refine xk_bin ?_); first | refine wx_q (wt_none rfl) rfl rfl (op_q rfl (op_lss rfl rfl)) rfl rfl rfl ?_ | refine wx_q (wt_none rfl) rfl rfl (op_q rfl (op_gtr rfl rfl)) rfl rfl rfl ?_) | ((with_reducible refine xk_pick ?_); refine wx_q (wt_none rfl) rfl rfl (op_q rfl (op_pickf rfl rfl)) rfl rfl rfl ?_) | ((with_reducible refine xk_g ?_); first | refine wx_s (wt_skip rfl rfl rfl rfl) rfl rfl ?_ | ((with_reducible refine xg_move ?_); refine wx_q (wt_run rfl rfl rfl) rfl rfl (op_q rfl (op_move rfl)) rfl rfl rfl ?_) | ((with_reducible refine xg_indexAddr ?_); refine wx_q (wt_run rfl rfl rfl) rfl rfl (op_q rfl (op_indexAddr rfl rfl i1)) rfl rfl rfl ?_) | ((with_reducible refine xg_load ?_); first | refine wx_h0 (wt_run rfl rfl rfl) rfl (op_q rfl (op_ldCell rfl Tryz.underlying3 rfl (i3 _ gr_A))) rfl rfl rfl ?_ | refine wx_h0 (wt_run rfl rfl rfl) rfl (op_q rfl (op_ldAt rfl at_A Tryz.underlying3 rfl rfl)) rfl rfl rfl ?_ | refine wx_h0 (wt_run rfl rfl rfl) rfl (op_q rfl (op_ldAt rfl at_A Tryz.underlying41 rfl rfl)) rfl rfl rfl ?_) | ((with_reducible refine xg_fieldAddr ?_); first | refine wx_q (wt_run rfl rfl rfl) rfl rfl (op_q rfl (op_fieldAddr (o := 5) rfl Tryz.underlying45 rfl zs3 rfl)) rfl rfl rfl ?_ | refine wx_q (wt_run rfl rfl rfl) rfl rfl (op_q rfl (op_fieldAddr (o := 11) rfl Tryz.underlying45 rfl zs41 rfl)) rfl rfl rfl ?_) | ((with_reducible refine xg_bin ?_); refine wx_q (wt_run rfl rfl rfl) rfl rfl (op_q rfl (op_geq rfl rfl)) rfl rfl rfl ?_) | (refine wx_split rfl rfl rfl (fun hb => dead_A hb) (fun hb => ?_); (try simp only [decide_eq_true_eq, decide_eq_false_iff_not, Bool.not_eq_true', Bool.not_eq_false', Int.not_lt, Int.not_le, Decidable.not_not, not_true_eq_false, not_false_eq_true, beq_self_eq_true, reduceCtorEq] at hb))) | with_reducible refine wx_nil0 ?_ ?_)) | with_reducible exact obl_nil | with_reducible refine obl_cons ?_ ?_ | ((with_reducible refine ik_obs ?_); first | exact obs_nil | refine obs_chkn rfl rfl (op_q rfl (op_ldCell rfl Tryz.underlying3 rfl (i3 _ gr_A))) ?_ | refine obs_chkn rfl rfl (op_q rfl (op_ldAt rfl at_A Tryz.underlying3 rfl (by rfl))) ?_ | refine obs_chkn rfl rfl (op_q rfl (op_ldAt rfl at_A Tryz.underlying41 rfl (by rfl))) ?_) | with_reducible refine sq_norm ?_ | with_reducible refine wc_seq ?_ | with_reducible refine wc_region ?_ | with_reducible refine wc_skip ?_ | with_reducible refine wc_block ?_ | with_reducible refine bq_norm ?_ | refine wc_iff rfl ?_ | (refine wc_if rfl (fun hb => dead_A hb) (fun hb => ?_); (try simp only [decide_eq_true_eq, decide_eq_false_iff_not, Bool.not_eq_true', Bool.not_eq_false', Int.not_lt, Int.not_le, Decidable.not_not, not_true_eq_false, not_false_eq_true, beq_self_eq_true, reduceCtorEq] at hb)) | (refine wc_if rfl (fun hb => ?_) (fun hb => dead_A hb); (try simp only [decide_eq_true_eq, decide_eq_false_iff_not, Bool.not_eq_true', Bool.not_eq_false', Int.not_lt, Int.not_le, Decidable.not_not, not_true_eq_false, not_false_eq_true, beq_self_eq_true, reduceCtorEq] at hb)) | refine wc_drawB (id := 7) 16 [0, 1, 0, 7, 15, 31, 63, 127, 255, 127, 1023, 2047, 127, 4223, 16383, 32767] [0, 1, 2, 3, 4, 5, 6, 7, 8, 9, 10, 11, 12, 13, 14, 15] (by kernel_rfl) (by kernel_rfl) rfl rfl ?_ | refine wc_drawB (id := 9) 16 [0, 1, 3, 7, 15, 7, 63, 127, 7, 263, 7, 1031, 3847, 7943, 16383, 32767] [0, 1, 2, 3, 4, 5, 6, 7, 8, 9, 10, 11, 12, 13, 14, 15] (by kernel_rfl) (by kernel_rfl) rfl rfl ?_)
          all_goals exact lq_norm (k + 1) (by omega) (within_lk ⟨rfl, rfl, trivial⟩) ⟨⟨wf_A, gr_A, at_A⟩, by omega, nxt⟩
    · have hkn : n = k := by omega
      subst hkn
      have hind : indE rf (S : Int) = 0 := by unfold indE; rw [hlen]; exact hz
      repeat' (first | with_reducible refine wo_nil ?_ | ((with_reducible refine wo_any ?_); first | ((with_reducible refine ik_move ?_); refine wo_op rfl (op_move rfl) rfl rfl ?_) | ((with_reducible refine ik_assign ?_); refine wo_op rfl (op_assign rfl) rfl rfl ?_) | ((with_reducible refine ik_fieldAddr ?_); refine wo_op rfl (op_fieldAddr (o := 11) rfl Tryz.underlying45 rfl zs41 rfl) rfl rfl ?_) | ((with_reducible refine ik_load ?_); refine wo_op rfl (op_ldAt rfl at_A Tryz.underlying41 rfl rfl) rfl rfl ?_) | ((with_reducible refine ik_bin ?_); refine wo_op rfl (op_lss rfl rfl) rfl rfl ?_) | ((with_reducible refine ik_callb ?_); refine wo_op rfl (op_lenSl rfl Tryz.underlying41) rfl rfl ?_)) | with_reducible refine sq_norm ?_ | with_reducible refine wc_seq ?_ | with_reducible refine wc_region ?_ | with_reducible refine wc_exit ?_ | with_reducible refine wc_block ?_ | with_reducible refine sq_exit ?_ | with_reducible refine lq_exit ?_ | refine bq_eq rfl ?_ | (refine wc_if rfl (fun hb => dead_A hb) (fun hb => ?_); (try simp only [decide_eq_true_eq, decide_eq_false_iff_not, Bool.not_eq_true', Bool.not_eq_false', Int.not_lt, Int.not_le, Decidable.not_not, not_true_eq_false, not_false_eq_true, beq_self_eq_true, reduceCtorEq] at hb)))
      clear hz
      refine wc_loop (fun i => S - i) (fun i : Nat => [(1, .pointer (some ⟨h.nx, 0, some 0⟩)), (5, .int .i64 i)]) (fun i h' => (Wf h' ∧ Grow h h' ∧ At h' h.nx (.cells (lnC nm x y tx ty S nx ny px py C a n c) 45 12 false)) ∧ i ≤ S ∧ ∀ i' k' : Nat, i' < i → k' < C → plaE (x + (i' : Int) * tx) (y + (i' : Int) * ty) (x + (i' : Int) * tx + 1 * nx + (k' : Int) * px) (y + (i' : Int) * ty + 1 * ny + (k' : Int) * py) = 0) 0 (within_lk ⟨rfl, rfl, trivial⟩) ⟨⟨wf_A, gr_A, at_A⟩, Nat.zero_le _, fun i' k' h _ => by omega⟩ ?_
      clear w1 g1 at1 n1 l1
      rintro i h1 ⟨⟨w1, g1, at1⟩, hi, hp⟩
      have n1 := g1.nx
      have l1 := at1.lt
      by_cases hlt : i < S
      · have q75 := fun (h' : H) (w' : Wf h') => c75b (G := G) (h := h') (nm := nm) (a := a) (n := n) (c := c) bd hlt w'
        have q67 := fun (h' : H) (w' : Wf h') => c67 (G := G) (h := h') (x := x + (i : Int) * tx) (y := y + (i : Int) * ty) (L := 100000) (by omega) (by omega) w'
        by_cases hs : ptE (x + (i : Int) * tx) (y + (i : Int) * ty) 100000 = 0
        · rw [hs] at q67
          repeat' (first | with_reducible refine wo_nil ?_ | ((with_reducible refine wo_any ?_); first | ((with_reducible refine ik_move ?_); refine wo_op rfl (op_move rfl) rfl rfl ?_) | ((with_reducible refine ik_assign ?_); refine wo_op rfl (op_assign rfl) rfl rfl ?_) | ((with_reducible refine ik_fieldAddr ?_); refine wo_op rfl (op_fieldAddr (o := 5) rfl Tryz.underlying45 rfl zs3 rfl) rfl rfl ?_) | ((with_reducible refine ik_load ?_); first | refine wo_op rfl (op_ldAt rfl at_A Tryz.underlying3 rfl rfl) rfl rfl ?_ | refine wo_op rfl (op_ldAgg rfl at_A Tryz.underlying45 rfl zs45 rfl rfl) rfl rfl ?_) | ((with_reducible refine ik_bin ?_); first | refine wo_op rfl (op_neq rfl rfl) rfl rfl ?_ | refine wo_op rfl (op_lss rfl rfl) rfl rfl ?_) | ((with_reducible refine ik_callv ?_); first | (refine wo_call rfl rfl rfl rfl (q75 _ wf_A) rfl rfl ?_; rintro _ _ ⟨rfl, hq⟩; all_goals ((try (have hqn := hq.nx)); (try simp only [H.nx_push, H.nx_set, H.nx_bump] at hqn))) | (refine wo_call rfl rfl rfl rfl (q67 _ wf_A) rfl rfl ?_; rintro _ _ ⟨rfl, hq⟩; all_goals ((try (have hqn := hq.nx)); (try simp only [H.nx_push, H.nx_set, H.nx_bump] at hqn))))) | with_reducible refine sq_norm ?_ | with_reducible refine wc_seq ?_ | with_reducible refine wc_region ?_ | with_reducible refine wc_skip ?_ | with_reducible refine wc_block ?_ | refine wc_iff rfl ?_ | (refine wc_if rfl (fun hb => ?_) (fun hb => dead_A hb); (try simp only [decide_eq_true_eq, decide_eq_false_iff_not, Bool.not_eq_true', Bool.not_eq_false', Int.not_lt, Int.not_le, Decidable.not_not, not_true_eq_false, not_false_eq_true, beq_self_eq_true, reduceCtorEq] at hb)))
          refine wc_loop (fun k => C - k) (fun k : Nat => [(1, .pointer (some ⟨h.nx, 0, some 0⟩)), (5, .int .i64 i), (6, .int .i64 k)]) (fun k h' => (Wf h' ∧ Grow h h' ∧ At h' h.nx (.cells (lnC nm x y tx ty S nx ny px py C a n c) 45 12 false)) ∧ k ≤ C ∧ ∀ k' : Nat, k' < k → plaE (x + (i : Int) * tx) (y + (i : Int) * ty) (x + (i : Int) * tx + 1 * nx + (k' : Int) * px) (y + (i : Int) * ty + 1 * ny + (k' : Int) * py) = 0) 0 (within_lk ⟨rfl, rfl, rfl, trivial⟩) ⟨⟨wf_A, gr_A, at_A⟩, Nat.zero_le _, fun k' h => by omega⟩ ?_
          clear w1 g1 at1 n1 l1 q75 q67
          rintro k h2 ⟨⟨w1, g1, at1⟩, hk2, hp2⟩
          have n1 := g1.nx
          have l1 := at1.lt
          by_cases hkc : k < C
          · have q76 := fun (h' : H) (w' : Wf h') => c76 (G := G) (h := h') (nm := nm) (a := a) (n := n) (c := c) bd hlt hkc w'
            have q67 := fun (h' : H) (w' : Wf h') => c67 (G := G) (h := h') (x := x + (i : Int) * tx + 1 * nx + (k : Int) * px) (y := y + (i : Int) * ty + 1 * ny + (k : Int) * py) (L := 100000) (by omega) (by omega) w'
            by_cases hr : ptE (x + (i : Int) * tx + 1 * nx + (k : Int) * px) (y + (i : Int) * ty + 1 * ny + (k : Int) * py) 100000 = 0
            · have hp3 : ∀ k' : Nat, k' < k + 1 → plaE (x + (i : Int) * tx) (y + (i : Int) * ty) (x + (i : Int) * tx + 1 * nx + (k' : Int) * px) (y + (i : Int) * ty + 1 * ny + (k' : Int) * py) = 0 := by
                intro k' h
                by_cases q : k' = k
                · rw [q]; exact pla_zero.2 ⟨hs, hr⟩
                · exact hp2 k' (by omega)
              rw [hr] at q67
              clear hp hp2 hs hr
              repeat' (first | with_reducible refine wo_nil ?_ | ((with_reducible refine wo_any ?_); first | ((with_reducible refine ik_move ?_); refine wo_op rfl (op_move rfl) rfl rfl ?_) | ((with_reducible refine ik_assign ?_); refine wo_op rfl (op_assign rfl) rfl rfl ?_) | ((with_reducible refine ik_fieldAddr ?_); refine wo_op rfl (op_fieldAddr (o := 10) rfl Tryz.underlying45 rfl zs3 rfl) rfl rfl ?_) | ((with_reducible refine ik_load ?_); first | refine wo_op rfl (op_ldAt rfl at_A Tryz.underlying3 rfl rfl) rfl rfl ?_ | refine wo_op rfl (op_ldAgg rfl at_A Tryz.underlying45 rfl zs45 rfl rfl) rfl rfl ?_) | ((with_reducible refine ik_bin ?_); first | refine wo_op rfl (op_neq rfl rfl) rfl rfl ?_ | refine wo_op rfl (op_lss rfl rfl) rfl rfl ?_ | refine wo_op rfl (op_add' rfl rfl (w64 (by omega) (by omega))) rfl rfl ?_) | ((with_reducible refine ik_callv ?_); first | (refine wo_call rfl rfl rfl rfl (q76 _ wf_A) rfl rfl ?_; rintro _ _ ⟨rfl, hq⟩; all_goals ((try (have hqn := hq.nx)); (try simp only [H.nx_push, H.nx_set, H.nx_bump] at hqn))) | (refine wo_call rfl rfl rfl rfl (q67 _ wf_A) rfl rfl ?_; rintro _ _ ⟨rfl, hq⟩; all_goals ((try (have hqn := hq.nx)); (try simp only [H.nx_push, H.nx_set, H.nx_bump] at hqn))))) | with_reducible refine sq_norm ?_ | with_reducible refine wc_seq ?_ | with_reducible refine wc_region ?_ | with_reducible refine wc_skip ?_ | with_reducible refine wc_block ?_ | with_reducible refine bq_norm ?_ | refine wc_iff rfl ?_ | (refine wc_if rfl (fun hb => ?_) (fun hb => dead_A hb); (try simp only [decide_eq_true_eq, decide_eq_false_iff_not, Bool.not_eq_true', Bool.not_eq_false', Int.not_lt, Int.not_le, Decidable.not_not, not_true_eq_false, not_false_eq_true, beq_self_eq_true, reduceCtorEq] at hb)))
              all_goals exact lq_norm (k + 1) (by omega) (within_lk ⟨rfl, rfl, rfl, trivial⟩) ⟨⟨wf_A, gr_A, at_A⟩, by omega, hp3⟩
            · have hb : BigP x y tx ty nx ny px py S C := by
                unfold BigP
                exact ⟨i, k, hlt, hkc, fun q => hr (pla_zero.1 q).2⟩
              rw [lnE_big hname hnum hind hb]
              generalize ptE (x + (i : Int) * tx + 1 * nx + (k : Int) * px) (y + (i : Int) * ty + 1 * ny + (k : Int) * py) 100000 = E at q67 hr
              clear hp hp2 hs
              repeat' (first | with_reducible refine wo_nil ?_ | ((with_reducible refine wo_any ?_); first | ((with_reducible refine ik_move ?_); refine wo_op rfl (op_move rfl) rfl rfl ?_) | ((with_reducible refine ik_assign ?_); refine wo_op rfl (op_assign rfl) rfl rfl ?_) | ((with_reducible refine ik_fieldAddr ?_); refine wo_op rfl (op_fieldAddr (o := 10) rfl Tryz.underlying45 rfl zs3 rfl) rfl rfl ?_) | ((with_reducible refine ik_load ?_); first | refine wo_op rfl (op_ldAt rfl at_A Tryz.underlying3 rfl rfl) rfl rfl ?_ | refine wo_op rfl (op_ldAgg rfl at_A Tryz.underlying45 rfl zs45 rfl rfl) rfl rfl ?_) | ((with_reducible refine ik_bin ?_); first | refine wo_op rfl (op_neq rfl rfl) rfl rfl ?_ | refine wo_op rfl (op_lss rfl rfl) rfl rfl ?_) | ((with_reducible refine ik_callv ?_); first | (refine wo_call rfl rfl rfl rfl (q76 _ wf_A) rfl rfl ?_; rintro _ _ ⟨rfl, hq⟩; all_goals ((try (have hqn := hq.nx)); (try simp only [H.nx_push, H.nx_set, H.nx_bump] at hqn))) | (refine wo_call rfl rfl rfl rfl (q67 _ wf_A) rfl rfl ?_; rintro _ _ ⟨rfl, hq⟩; all_goals ((try (have hqn := hq.nx)); (try simp only [H.nx_push, H.nx_set, H.nx_bump] at hqn))))) | with_reducible refine sq_norm ?_ | with_reducible refine wc_seq ?_ | with_reducible refine wc_region ?_ | with_reducible refine wc_skip ?_ | with_reducible refine wc_ret ?_ | with_reducible refine wc_block ?_ | with_reducible refine bq_ret ?_ | with_reducible refine sq_ret ?_ | with_reducible refine lq_ret ?_ | (refine wc_if rfl (fun hb => ?_) (fun hb => dead_A hb); (try simp only [decide_eq_true_eq, decide_eq_false_iff_not, Bool.not_eq_true', Bool.not_eq_false', Int.not_lt, Int.not_le, Decidable.not_not, not_true_eq_false, not_false_eq_true, beq_self_eq_true, reduceCtorEq] at hb)))
              all_goals exact rq1 rfl ⟨rfl, gr_A⟩
          · have hp3 : ∀ i' k' : Nat, i' < i + 1 → k' < C → plaE (x + (i' : Int) * tx) (y + (i' : Int) * ty) (x + (i' : Int) * tx + 1 * nx + (k' : Int) * px) (y + (i' : Int) * ty + 1 * ny + (k' : Int) * py) = 0 := by
              intro i' k' h1 h2
              by_cases q : i' = i
              · rw [q]; exact hp2 k' (by omega)
              · exact hp i' k' (by omega) h2
            clear hp hp2 hs
            repeat' (first | with_reducible refine wo_nil ?_ | ((with_reducible refine wo_any ?_); first | ((with_reducible refine ik_move ?_); refine wo_op rfl (op_move rfl) rfl rfl ?_) | ((with_reducible refine ik_assign ?_); refine wo_op rfl (op_assign rfl) rfl rfl ?_) | ((with_reducible refine ik_fieldAddr ?_); refine wo_op rfl (op_fieldAddr (o := 10) rfl Tryz.underlying45 rfl zs3 rfl) rfl rfl ?_) | ((with_reducible refine ik_load ?_); refine wo_op rfl (op_ldAt rfl at_A Tryz.underlying3 rfl rfl) rfl rfl ?_) | ((with_reducible refine ik_bin ?_); first | refine wo_op rfl (op_lss rfl rfl) rfl rfl ?_ | refine wo_op rfl (op_add' rfl rfl (w64 (by omega) (by omega))) rfl rfl ?_)) | with_reducible refine sq_norm ?_ | with_reducible refine wc_seq ?_ | with_reducible refine wc_region ?_ | with_reducible refine wc_exit ?_ | with_reducible refine bq_norm ?_ | with_reducible refine sq_exit ?_ | with_reducible refine lq_exit ?_ | refine bq_eq rfl ?_ | (refine wc_if rfl (fun hb => dead_A hb) (fun hb => ?_); (try simp only [decide_eq_true_eq, decide_eq_false_iff_not, Bool.not_eq_true', Bool.not_eq_false', Int.not_lt, Int.not_le, Decidable.not_not, not_true_eq_false, not_false_eq_true, beq_self_eq_true, reduceCtorEq] at hb)))
            all_goals exact lq_norm (i + 1) (by omega) (within_lk ⟨rfl, rfl, trivial⟩) ⟨⟨wf_A, gr_A, at_A⟩, by omega, hp3⟩
        · have hb : BigP x y tx ty nx ny px py S C := by
            unfold BigP
            exact ⟨i, 0, hlt, hC1, fun q => hs (pla_zero.1 q).1⟩
          rw [lnE_big hname hnum hind hb]
          generalize ptE (x + (i : Int) * tx) (y + (i : Int) * ty) 100000 = E at q67 hs
          clear hp
          repeat' (first | with_reducible refine wo_nil ?_ | ((with_reducible refine wo_any ?_); first | ((with_reducible refine ik_move ?_); refine wo_op rfl (op_move rfl) rfl rfl ?_) | ((with_reducible refine ik_assign ?_); refine wo_op rfl (op_assign rfl) rfl rfl ?_) | ((with_reducible refine ik_fieldAddr ?_); refine wo_op rfl (op_fieldAddr (o := 5) rfl Tryz.underlying45 rfl zs3 rfl) rfl rfl ?_) | ((with_reducible refine ik_load ?_); first | refine wo_op rfl (op_ldAt rfl at_A Tryz.underlying3 rfl rfl) rfl rfl ?_ | refine wo_op rfl (op_ldAgg rfl at_A Tryz.underlying45 rfl zs45 rfl rfl) rfl rfl ?_) | ((with_reducible refine ik_bin ?_); first | refine wo_op rfl (op_neq rfl rfl) rfl rfl ?_ | refine wo_op rfl (op_lss rfl rfl) rfl rfl ?_) | ((with_reducible refine ik_callv ?_); first | (refine wo_call rfl rfl rfl rfl (q75 _ wf_A) rfl rfl ?_; rintro _ _ ⟨rfl, hq⟩; all_goals ((try (have hqn := hq.nx)); (try simp only [H.nx_push, H.nx_set, H.nx_bump] at hqn))) | (refine wo_call rfl rfl rfl rfl (q67 _ wf_A) rfl rfl ?_; rintro _ _ ⟨rfl, hq⟩; all_goals ((try (have hqn := hq.nx)); (try simp only [H.nx_push, H.nx_set, H.nx_bump] at hqn))))) | with_reducible refine sq_norm ?_ | with_reducible refine wc_seq ?_ | with_reducible refine wc_region ?_ | with_reducible refine wc_skip ?_ | with_reducible refine wc_ret ?_ | with_reducible refine wc_block ?_ | with_reducible refine bq_ret ?_ | with_reducible refine sq_ret ?_ | with_reducible refine lq_ret ?_ | (refine wc_if rfl (fun hb => ?_) (fun hb => dead_A hb); (try simp only [decide_eq_true_eq, decide_eq_false_iff_not, Bool.not_eq_true', Bool.not_eq_false', Int.not_lt, Int.not_le, Decidable.not_not, not_true_eq_false, not_false_eq_true, beq_self_eq_true, reduceCtorEq] at hb)))
          all_goals exact rq1 rfl ⟨rfl, gr_A⟩
      · have hnb : ¬BigP x y tx ty nx ny px py S C := by
          unfold BigP
          rintro ⟨i', k', h1, h2, h3⟩
          exact h3 (hp i' k' (by omega) h2)
        rw [lnE_ok hname hnum hind hnb]
        clear hp
        repeat' (first | with_reducible refine wo_nil ?_ | ((with_reducible refine wo_any ?_); first | ((with_reducible refine ik_move ?_); refine wo_op rfl (op_move rfl) rfl rfl ?_) | ((with_reducible refine ik_assign ?_); refine wo_op rfl (op_assign rfl) rfl rfl ?_) | ((with_reducible refine ik_fieldAddr ?_); refine wo_op rfl (op_fieldAddr (o := 5) rfl Tryz.underlying45 rfl zs3 rfl) rfl rfl ?_) | ((with_reducible refine ik_load ?_); refine wo_op rfl (op_ldAt rfl at_A Tryz.underlying3 rfl rfl) rfl rfl ?_) | ((with_reducible refine ik_bin ?_); refine wo_op rfl (op_lss rfl rfl) rfl rfl ?_)) | with_reducible refine sq_norm ?_ | with_reducible refine wc_seq ?_ | with_reducible refine wc_region ?_ | with_reducible refine wc_ret ?_ | with_reducible refine wc_exit ?_ | with_reducible refine sq_exit ?_ | with_reducible refine lq_exit ?_ | refine bq_eq rfl ?_ | (refine wc_if rfl (fun hb => dead_A hb) (fun hb => ?_); (try simp only [decide_eq_true_eq, decide_eq_false_iff_not, Bool.not_eq_true', Bool.not_eq_false', Int.not_lt, Int.not_le, Decidable.not_not, not_true_eq_false, not_false_eq_true, beq_self_eq_true, reduceCtorEq] at hb)))
        all_goals exact rq1 rfl ⟨rfl, gr_A⟩
  · have hl : lnE nm x y tx ty sh nx ny px py ch rf = E := by
      cases hb : isNameB nm with
      | true =>
        rw [hb, if_pos rfl] at hre
        rw [lnE_num hb (by rw [← hre]; exact hz), hre]
      | false =>
        rw [hb, if_neg (by decide)] at hre
        rw [lnE_name hb, hre]
    rw [hl]
    repeat' (first | with_reducible refine wo_nil ?_ | ((with_reducible refine wo_any ?_); first | ((with_reducible refine ik_move ?_); refine wo_op rfl (op_move rfl) rfl rfl ?_) | ((with_reducible refine ik_assign ?_); refine wo_op rfl (op_assign rfl) rfl rfl ?_)) | with_reducible refine sq_norm ?_ | with_reducible refine wc_seq ?_ | with_reducible refine wc_region ?_ | with_reducible refine wc_ret ?_ | with_reducible refine sq_ret ?_ | (refine wc_if rfl (fun hb => ?_) (fun hb => dead_A hb); (try simp only [decide_eq_true_eq, decide_eq_false_iff_not, Bool.not_eq_true', Bool.not_eq_false', Int.not_lt, Int.not_le, Decidable.not_not, not_true_eq_false, not_false_eq_true, beq_self_eq_true, reduceCtorEq] at hb)))
    all_goals exact rq1 rfl ⟨rfl, gr_A⟩
end Go.Proofs.YtnkmencbnoipmaaGreatDoor
