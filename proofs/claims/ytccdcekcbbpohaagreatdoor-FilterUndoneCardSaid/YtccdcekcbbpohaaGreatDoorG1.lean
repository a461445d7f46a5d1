/- Rounding; lists by the reference; taps undone. -/
import Derived.Test.YtccdcekcbbpohaaGreatDoorL1
set_option linter.all false
/- Rounding; lists of integers by the reference; ghosts. -/
namespace Go.Proofs.YtccdcekcbbpohaaGreatDoor
open Go Go.Ab Go.Fl
attribute [local irreducible] SeqQ BlkQ LpQ RetQ Wc Wo WD WX Op1 Op1q Op1a Cf Cl From
attribute [local irreducible] Ieee.Format.order Ieee.Format.read Ieee.Format.nearest Ieee.Format.write Ieee.Format.mul Ieee.Format.div Ieee.Datum.order Ieee.Datum.integral smpE smp smpW K J U sumN lchk tchk trE hdrE appL
set_option maxRecDepth 10000
variable {G : Base} {h : H}
/-- A quotient, rounded: from the middle to the greater integer. -/
def rnd (a b : Int) : Int := (2 * a + b) / (2 * b)
theorem op_remV {M : Mc} {l : KL} {x y : Operand} {t ty : TypeId} {a b v : Int} {k : IntKind} (hx : val l x = some (.int k a)) (hy : val l y = some (.int k b)) (h0 : b ≠ 0) (hv : a.tmod b = v) : Op1 M (.binOp .rem t x y ty) l h (.int k v) h := by
  subst hv; exact op_rem hx hy h0
/-! lists of integers, made one by one -/
/-! ghosts -/
def ghoL (l : List Int) (d : Nat) : List Int := (List.range l.length).map fun i => l.getD i 0 - (if d ≤ i then l.getD (i - d) 0 else 0)
def gtap (d : Nat) : List Int := (List.range (d + 1)).map fun k => if k = 0 then 1 else if k = d then -1 else 0
set_option maxHeartbeats 1000000 in
theorem c91 {d : Nat} (hd : 1 ≤ d) (hd2 : d ≤ 64) (hw : Wf h) : Cf (mz G) (.func (.func 91) #[] #[]) [.int .i64 d] h fun r h' => (r = .slice (some ⟨h.nx, 0, some 0⟩) (d + 1) (d + 1) ∧ At h' h.nx (.cells ((gtap d).map (.int .i64)) 3 1 false)) ∧ Grow h h' := by
  obtain ⟨N, hN1, hN2⟩ : ∃ N : Nat, (d : Int) + 1 = (N : Int) ∧ N = d + 1 := ⟨d + 1, by omega, rfl⟩
  have hs1 : (List.replicate N (Value.int .i64 0)).set 0 (.int .i64 1) = ((List.range N).map fun k => if k = 0 then (1 : Int) else 0).map (Value.int .i64) := by
    refine List.ext_getElem (by simp) fun i h1 h2 => ?_
    simp only [List.getElem_set, List.getElem_map, List.getElem_range, List.getElem_replicate]
    by_cases q : i = 0
    · subst q; simp
    · rw [if_neg (fun e => q e.symm), if_neg q]
  have hs2 : (((List.range N).map fun k => if k = 0 then (1 : Int) else 0).map (Value.int .i64)).set d (.int .i64 (-1)) = (gtap d).map (Value.int .i64) := by
    unfold gtap
    rw [← hN2]
    exact row_set (by rw [if_neg (by omega), if_pos rfl]) fun i hi => by simp [hi]
  rw [← hN2]
  refine cf_enter0 13 [.tmp 2] Tryz.func91 rfl rfl rfl rfl ?_
  repeat' (first | with_reducible refine wo_nil ?_ | ((with_reducible refine wo_any ?_); first | ((with_reducible refine ik_move ?_); refine wo_op rfl (op_move rfl) rfl rfl ?_) | ((with_reducible refine ik_assign ?_); refine wo_op rfl (op_assign rfl) rfl rfl ?_) | ((with_reducible refine ik_makeSlice ?_); refine wo_op rfl (op_mkSlI N rfl rfl hN1 Tryz.underlying22 zs3 zb3 zz3 rfl (by omega) (by omega)) rfl rfl ?_) | ((with_reducible refine ik_indexAddr ?_); first | refine wo_op rfl (op_idxSl (o := 0) rfl rfl Tryz.underlying22 zs3 (by omega) (by omega) (by omega)) rfl rfl ?_ | refine wo_op rfl (op_idxSl (o := d) rfl rfl Tryz.underlying22 zs3 (by omega) (by omega) (by omega)) rfl rfl ?_) | ((with_reducible refine ik_store ?_); first | refine wo_op0 rfl (op_stIdx rfl rfl at_A rfl zs3 (by simp; omega) rfl hs1) rfl ?_ | refine wo_op0 rfl (op_stIdx rfl rfl at_A rfl zs3 (by simp; omega) rfl hs2) rfl ?_) | ((with_reducible refine ik_bin ?_); refine wo_op rfl (op_add' rfl rfl (w64 (by omega) (by omega))) rfl rfl ?_)) | with_reducible refine sq_norm ?_ | with_reducible refine wc_seq ?_ | with_reducible refine wc_region ?_ | with_reducible refine wc_ret ?_)
  exact rq1 rfl ⟨⟨rfl, at_A⟩, gr_A⟩
end Go.Proofs.YtccdcekcbbpohaaGreatDoor

/- Taps undone; ghosts by the program. -/
namespace Go.Proofs.YtccdcekcbbpohaaGreatDoor
open Go Go.Ab Go.Fl
attribute [local irreducible] SeqQ BlkQ LpQ RetQ Wc Wo WD WX Op1 Op1q Op1a Cf Cl From
attribute [local irreducible] Ieee.Format.order Ieee.Format.read Ieee.Format.nearest Ieee.Format.write Ieee.Format.mul Ieee.Format.div Ieee.Datum.order Ieee.Datum.integral smpE smp smpW K J U sumN lchk tchk trE hdrE appL
set_option maxRecDepth 10000
variable {G : Base} {h : H}

set_option maxHeartbeats 1000000 in
theorem c127 {ad : Addr} {n c : Nat} {l : List Int} (s : Sl G h 1 (.slice (some ad) n c) n (l.map (.int .i64))) (hn : n < 1000000) (hw : Wf h) : Cf (mz G) (.func (.func 127) #[] #[]) [.slice (some ad) n c] h fun r h' => (∃ b sf, r = .slice (some ⟨b, 0, some 0⟩) n n ∧ h.nx ≤ b ∧ At h' b (.cells (l.map (.int .i64)) 3 1 sf)) ∧ Grow h h' := by
  obtain ⟨r, h2, hap, s2, hg, hw⟩ := append_copy2 (M := mz G) (st := 22) (xt := 22) (h := h.push (.cells [] 3 1 false)) Tryz.underlying22 Tryz.underlying22 rfl zs3 zb3 zz3 rfl (At.new _ _) (s.grow ((Grow.refl _).push _)) (all_one_map (fun _ => rfl) l) (by omega)
  refine cf_enter0 8 [.tmp 2] Tryz.func127 rfl rfl rfl rfl ?_
  repeat' (first | with_reducible refine wo_nil ?_ | ((with_reducible refine wo_any ?_); first | ((with_reducible refine ik_move ?_); refine wo_op rfl (op_move rfl) rfl rfl ?_) | ((with_reducible refine ik_assign ?_); refine wo_op rfl (op_assign rfl) rfl rfl ?_) | ((with_reducible refine ik_bin ?_); refine wo_op rfl (op_aeq (r := false) rfl rfl rfl (by show aeq Tryz.prog 22 _ _ = _; simp only [aeq, Tryz.underlying22])) rfl rfl ?_) | ((with_reducible refine ik_callb ?_); refine wo_op rfl (op_append rfl rfl hap) rfl rfl ?_) | ((with_reducible refine ik_buildSlice ?_); refine wo_op rfl (op_buildSl rfl Tryz.underlying22 zs3 zz3 rfl rfl) rfl rfl ?_)) | with_reducible refine sq_norm ?_ | with_reducible refine wc_seq ?_ | with_reducible refine wc_region ?_ | with_reducible refine wc_skip ?_ | with_reducible refine wc_ret ?_ | refine wc_iff rfl ?_)
  exact rq1 rfl ⟨s2, Grow.trans ((Grow.refl _).push _) hg⟩
/-- What an integer of 64 bits holds. -/
def wr (x : Int) : Int := IntKind.wrap .i64 x
theorem wr_id {x : Int} (h : x.natAbs ≤ 1000000000000) : wr x = x := w64 (by omega) (by omega)
def undI (t o : List Int) (i : Nat) (x : Int) : Nat → Int
  | 0 => x
  | j + 1 => wr (undI t o i x j - wr (t.getD (j + 1) 0 * o.getD (i - j - 1) 0))
def undA (t l : List Int) : Nat → List Int
  | 0 => []
  | i + 1 => undA t l i ++ [wr (undI t (undA t l i) i (l.getD i 0) (min (t.length - 1) i) * t.getD 0 0)]
def undL (t l : List Int) : List Int := undA t l l.length
theorem undA_len (t l : List Int) : ∀ i, (undA t l i).length = i
  | 0 => rfl
  | i + 1 => by unfold undA; rw [List.length_append, undA_len t l i]; rfl
/-- The list while it is undone: the first i are, the next one is X. -/
def mixU (o l : List Int) (i : Nat) (X : Int) (k : Nat) : Int := if k < i then o.getD k 0 else if k = i then X else l.getD k 0
theorem mixU_next (o l : List Int) (X : Int) : mixU o l o.length X = mixU (o ++ [X]) l (o.length + 1) (l.getD (o.length + 1) 0) := by
  funext k
  unfold mixU
  by_cases h1 : k < o.length
  · rw [if_pos h1, if_pos (by omega)]
    simp [List.getD, List.getElem?_append_left h1]
  · rw [if_neg h1]
    by_cases h2 : k = o.length
    · subst h2
      rw [if_pos rfl, if_pos (by omega)]
      simp [List.getD]
    · rw [if_neg h2, if_neg (by omega)]
      split
      · rename_i q; rw [q]
      · rfl
theorem mixU_start (l : List Int) : (List.range l.length).map (mixU [] l 0 (l.getD 0 0)) = l := by
  refine List.ext_getElem (by simp) fun k h1 h2 => ?_
  simp only [List.getElem_map, List.getElem_range]
  unfold mixU
  rw [if_neg (by omega), getElem_getD h2]
  split
  · rename_i q; rw [q]
  · rfl
theorem mixU_end (o l : List Int) (X : Int) {n : Nat} (h : o.length = n) : (List.range n).map (mixU o l n X) = o := by
  refine List.ext_getElem (by simp [h]) fun k h1 h2 => ?_
  simp only [List.getElem_map, List.getElem_range]
  unfold mixU
  rw [if_pos (by omega), getElem_getD h2]
theorem mixU_set {o l : List Int} {n i : Nat} {X Y : Int} : (((List.range n).map (mixU o l i X)).map (Value.int .i64)).set i (.int .i64 Y) = ((List.range n).map (mixU o l i Y)).map (Value.int .i64) := by
  refine row_set (by unfold mixU; rw [if_neg (by omega), if_pos rfl]) fun k hk => ?_
  unfold mixU
  split
  · rfl
  · simp only [if_neg hk]
set_option maxHeartbeats 2000000 in
theorem c80 {v : Value} {ad : Addr} {n m cc : Nat} {t l : List Int} (s : Sl G h 1 v m (t.map (.int .i64))) (u : Sl G h 1 (.slice (some ad) n cc) n (l.map (.int .i64))) (hn : n ≤ 1024) (hm : 1 ≤ m) (hm2 : m ≤ 65) (hw : Wf h) :
    Cf (mz G) (.func (.func 80) #[] #[]) [v, .slice (some ad) n cc] h fun r h' => (∃ b sf, r = .slice (some ⟨b, 0, some 0⟩) n n ∧ h.nx ≤ b ∧ At h' b (.cells ((undL t l).map (.int .i64)) 3 1 sf)) ∧ Grow h h' := by
  obtain ⟨a, c, rfl⟩ := s.form
  have ht := s.length
  have hl := u.length
  simp at hl ht
  refine cf_enter0 54 [.tmp 4] Tryz.func80 rfl rfl rfl rfl ?_
  refine wc_mid (ι := Unit) (fun _ => [(0, .slice a m c), (1, .slice (some ad) n cc)]) (fun _ h' => Wf h' ∧ Grow h h') ?_ ?_
  · repeat' (first | with_reducible refine wo_nil ?_ | ((with_reducible refine wo_any ?_); ((with_reducible refine ik_assign ?_); refine wo_op rfl (op_assign rfl) rfl rfl ?_)) | with_reducible refine wc_region ?_)
    exact ⟨rfl, (), within_lk ⟨rfl, rfl, trivial⟩, wf_A, gr_A⟩
  rintro _ h1 ⟨w1, g1⟩
  have l1 := g1.nx
  refine wc_mid (ι := Nat × Bool) (fun p => [(0, .slice a m c), (5, .slice (some ⟨p.1, 0, some 0⟩) n n)]) (fun p h' => (Wf h' ∧ Grow h h') ∧ h.nx ≤ p.1 ∧ At h' p.1 (.cells (l.map (.int .i64)) 3 1 p.2)) ?_ ?_
  · repeat' (first | with_reducible refine wo_nil ?_ | ((with_reducible refine wo_any ?_); first | ((with_reducible refine ik_move ?_); refine wo_op rfl (op_move rfl) rfl rfl ?_) | ((with_reducible refine ik_assign ?_); refine wo_op rfl (op_assign rfl) rfl rfl ?_) | ((with_reducible refine ik_callF (f := 127) ?_); (refine wo_call rfl rfl rfl rfl (c127 (u.grow gr_A) (by omega) wf_A) rfl rfl ?_; rintro _ _ ⟨⟨B, sf, rfl, hB, atB⟩, hq⟩; all_goals ((try (have hqn := hq.nx)); (try simp only [H.nx_push, H.nx_set, H.nx_bump] at hqn))))) | with_reducible refine wc_region ?_)
    exact ⟨rfl, (B, sf), within_lk ⟨rfl, rfl, trivial⟩, ⟨wf_A, gr_A⟩, by simp only; omega, atB⟩
  rintro ⟨B, sf⟩ h2 ⟨⟨w2, g2⟩, hB, atB⟩
  simp only at hB atB ⊢
  have lB := atB.lt
  repeat' (first | with_reducible refine wo_nil ?_ | ((with_reducible refine wo_any ?_); first | ((with_reducible refine ik_move ?_); refine wo_op rfl (op_move rfl) rfl rfl ?_) | ((with_reducible refine ik_callb ?_); refine wo_op rfl (op_lenSl rfl Tryz.underlying22) rfl rfl ?_)) | with_reducible refine sq_norm ?_ | with_reducible refine wc_seq ?_ | with_reducible refine wc_region ?_ | with_reducible refine wc_block ?_)
  refine wc_loop (fun i => n - i) (fun i : Nat => [(0, .slice a m c), (5, .slice (some ⟨B, 0, some 0⟩) n n), (11, .int .i64 n), (12, .int .i64 i)])
    (fun i h' => (Wf h' ∧ Grow h h' ∧ At h' B (.cells (((List.range n).map (mixU (undA t l i) l i (l.getD i 0))).map (.int .i64)) 3 1 sf)) ∧ i ≤ n) 0 (within_lk ⟨rfl, rfl, rfl, rfl, trivial⟩) ⟨⟨wf_A, gr_A, ?_⟩, Nat.zero_le _⟩ ?_
  · have e := mixU_start l
    rw [hl] at e
    show At h2 B (.cells (((List.range n).map (mixU [] l 0 (l.getD 0 0))).map (.int .i64)) 3 1 sf)
    rw [e]; exact atB
  clear w1 g1 l1 w2 g2 atB lB
  rintro i h3 ⟨⟨w3, g3, a3⟩, hi⟩
  by_cases hlt : i < n
  · obtain ⟨M', hM1, hM2⟩ : ∃ M' : Nat, min ((m : Int) - 1) (i : Int) = (M' : Int) ∧ M' = min (m - 1) i := ⟨min (m - 1) i, by omega, rfl⟩
    repeat' (first | with_reducible refine wo_nil ?_ | ((with_reducible refine wo_any ?_); first | ((with_reducible refine ik_move ?_); refine wo_op rfl (op_move rfl) rfl rfl ?_) | ((with_reducible refine ik_assign ?_); refine wo_op rfl (op_assign rfl) rfl rfl ?_) | ((with_reducible refine ik_callb ?_); first | refine wo_op rfl (op_min rfl rfl) rfl rfl ?_ | refine wo_op rfl (op_lenSl rfl Tryz.underlying22) rfl rfl ?_) | ((with_reducible refine ik_bin ?_); first | refine wo_op rfl (op_lss rfl rfl) rfl rfl ?_ | refine wo_op rfl (op_sub' rfl rfl (w64 (by omega) (by omega))) rfl rfl ?_)) | with_reducible refine sq_norm ?_ | with_reducible refine wc_seq ?_ | with_reducible refine wc_region ?_ | with_reducible refine wc_skip ?_ | with_reducible refine wc_block ?_ | (refine wc_if rfl (fun hb => ?_) (fun hb => ?_) <;> (try simp only [decide_eq_true_eq, decide_eq_false_iff_not, Bool.not_eq_true', Bool.not_eq_false', Int.not_lt, Int.not_le, Decidable.not_not, not_true_eq_false, not_false_eq_true, beq_self_eq_true, reduceCtorEq] at hb) <;> (try (exfalso; omega))))
    rw [hM1]
    refine wc_loop (fun j => M' - j) (fun j : Nat => [(0, .slice a m c), (5, .slice (some ⟨B, 0, some 0⟩) n n), (11, .int .i64 n), (12, .int .i64 i), (6, .int .i64 i), (19, .int .i64 M'), (20, .int .i64 j)])
        (fun j h' => (Wf h' ∧ Grow h h' ∧ At h' B (.cells (((List.range n).map (mixU (undA t l i) l i (undI t (undA t l i) i (l.getD i 0) j))).map (.int .i64)) 3 1 sf)) ∧ j ≤ M') 0 (within_lk ⟨rfl, rfl, rfl, rfl, rfl, rfl, rfl, trivial⟩) ⟨⟨wf_A, gr_A, a3⟩, Nat.zero_le _⟩ ?_
    clear w3 g3 a3
    rintro j h4 ⟨⟨w4, g4, a4⟩, hj⟩
    have l4 := a4.lt
    by_cases hjt : j < M'
    · obtain ⟨d1, i1, i3⟩ := slI_at (s.grow g4) (i := (j : Int) + 1) (q := j + 1) (by omega) (by omega)
      have v1 := row_get (f := mixU (undA t l i) l i (undI t (undA t l i) i (l.getD i 0) j)) (n := n) (o := i) hlt
      have v2 := row_get (f := mixU (undA t l i) l i (undI t (undA t l i) i (l.getD i 0) j)) (n := n) (o := i - j - 1) (by omega)
      have e1 : mixU (undA t l i) l i (undI t (undA t l i) i (l.getD i 0) j) i = undI t (undA t l i) i (l.getD i 0) j := by unfold mixU; rw [if_neg (by omega), if_pos rfl]
      have e2 : mixU (undA t l i) l i (undI t (undA t l i) i (l.getD i 0) j) (i - j - 1) = (undA t l i).getD (i - j - 1) 0 := by unfold mixU; rw [if_pos (by omega)]
      rw [e1] at v1
      rw [e2] at v2
      have hst : undI t (undA t l i) i (l.getD i 0) (j + 1) = IntKind.wrap .i64 (undI t (undA t l i) i (l.getD i 0) j - IntKind.wrap .i64 (t.getD (j + 1) 0 * (undA t l i).getD (i - j - 1) 0)) := rfl
      obtain ⟨X, hX⟩ : ∃ X, undI t (undA t l i) i (l.getD i 0) j = X := ⟨_, rfl⟩
      obtain ⟨Y, hY⟩ : ∃ Y, undI t (undA t l i) i (l.getD i 0) (j + 1) = Y := ⟨_, rfl⟩
      obtain ⟨x, hx⟩ : ∃ x, t.getD (j + 1) 0 = x := ⟨_, rfl⟩
      obtain ⟨y, hy⟩ : ∃ y, (undA t l i).getD (i - j - 1) 0 = y := ⟨_, rfl⟩
      rw [hY, hX, hx, hy] at hst
      obtain ⟨P, hP⟩ : ∃ P, IntKind.wrap .i64 (x * y) = P := ⟨_, rfl⟩
      rw [hP] at hst
      have hst := hst.symm
      rw [hX] at a4 v1 v2
      rw [hx] at i3
      rw [hy] at v2
      have hset := mixU_set (o := undA t l i) (l := l) (n := n) (i := i) (X := X) (Y := Y)
      repeat' (first | with_reducible refine wo_nil ?_ | ((with_reducible refine wo_any ?_); first | ((with_reducible refine ik_move ?_); refine wo_op rfl (op_move rfl) rfl rfl ?_) | ((with_reducible refine ik_assign ?_); refine wo_op rfl (op_assign rfl) rfl rfl ?_) | ((with_reducible refine ik_bin ?_); first | refine wo_op rfl (op_lss rfl rfl) rfl rfl ?_ | refine wo_op rfl (op_add' rfl rfl (w64 (by omega) (by omega))) rfl rfl ?_)) | ((with_reducible refine xk_any ?_); ((with_reducible refine xk_as0 ?_); first | ((with_reducible refine xk_move ?_); refine wx_q (wt_none rfl) rfl rfl (op_q rfl (op_move rfl)) rfl rfl rfl ?_) | ((with_reducible refine xk_indexAddr ?_); first | refine wx_q (wt_none rfl) rfl rfl (op_q rfl (op_indexAddr rfl rfl i1)) rfl rfl rfl ?_ | refine wx_q (wt_none rfl) rfl rfl (op_q rfl (op_idxSl (o := i) rfl rfl Tryz.underlying22 zs3 (by omega) (by omega) (by omega))) rfl rfl rfl ?_ | refine wx_q (wt_none rfl) rfl rfl (op_q rfl (op_idxSl (o := i - j - 1) rfl rfl Tryz.underlying22 zs3 (by omega) (by omega) (by omega))) rfl rfl rfl ?_) | ((with_reducible refine xk_load ?_); first | refine wx_h0 (wt_none rfl) rfl (op_q rfl (op_ldCell rfl Tryz.underlying3 rfl i3)) rfl rfl rfl ?_ | refine wx_h0 (wt_none rfl) rfl (op_q rfl (op_ldIdx rfl at_A Tryz.underlying3 rfl v1)) rfl rfl rfl ?_ | refine wx_h0 (wt_none rfl) rfl (op_q rfl (op_ldIdx rfl at_A Tryz.underlying3 rfl v2)) rfl rfl rfl ?_) | ((with_reducible refine xk_bin ?_); first | refine wx_q (wt_none rfl) rfl rfl (op_q rfl (op_mul' rfl rfl hP)) rfl rfl rfl ?_ | refine wx_q (wt_none rfl) rfl rfl (op_q rfl (op_sub' rfl rfl hst)) rfl rfl rfl ?_ | refine wx_q (wt_none rfl) rfl rfl (op_q rfl (op_sub' rfl rfl (w64 (by omega) (by omega)))) rfl rfl rfl ?_ | refine wx_q (wt_none rfl) rfl rfl (op_q rfl (op_add' rfl rfl (w64 (by omega) (by omega)))) rfl rfl rfl ?_) | ((with_reducible refine xk_store ?_); refine wx_ee0 (wt_none rfl) rfl rfl (op_stIdx rfl rfl at_A rfl zs3 (by simp; omega) rfl hset) rfl ?_) | with_reducible refine wx_nil0 ?_ ?_)) | with_reducible exact obl_nil | with_reducible refine obl_cons ?_ ?_ | ((with_reducible refine ik_obs ?_); first | exact obs_nil | refine obs_skip rfl ?_ | refine obs_chkn rfl rfl (op_q rfl (op_ldCell rfl Tryz.underlying3 rfl i3)) ?_ | refine obs_chkn rfl rfl (op_q rfl (op_ldIdx rfl at_A Tryz.underlying3 rfl v1)) ?_ | refine obs_chkn rfl rfl (op_q rfl (op_ldIdx rfl at_A Tryz.underlying3 rfl v2)) ?_) | with_reducible refine sq_norm ?_ | with_reducible refine wc_seq ?_ | with_reducible refine wc_region ?_ | with_reducible refine wc_skip ?_ | with_reducible refine wc_block ?_ | with_reducible refine bq_norm ?_ | (refine wc_if rfl (fun hb => ?_) (fun hb => ?_) <;> (try simp only [decide_eq_true_eq, decide_eq_false_iff_not, Bool.not_eq_true', Bool.not_eq_false', Int.not_lt, Int.not_le, Decidable.not_not, not_true_eq_false, not_false_eq_true, beq_self_eq_true, reduceCtorEq] at hb) <;> (try (exfalso; omega))) | refine wc_drawB (id := 8) 20 [0, 0, 3, 7, 0, 0, 32, 112, 240, 0, 0, 0, 3072, 7168, 15872, 32256, 65520, 131071, 262143, 524287] [0, 1, 2, 3, 4, 5, 6, 7, 8, 9, 10, 11, 12, 13, 14, 15, 16, 17, 18, 19] (by kernel_rfl) (by kernel_rfl) rfl rfl ?_)
      refine lq_norm (j + 1) (by omega) (within_lk ⟨rfl, rfl, rfl, rfl, rfl, rfl, rfl, trivial⟩) ⟨⟨wf_A, gr_A, ?_⟩, by omega⟩
      rw [hY]; exact at_A
    · obtain rfl : M' = j := by omega
      obtain ⟨d1, i1, i3⟩ := slI_at (s.grow g4) (i := (0 : Int)) (q := 0) (by omega) rfl
      obtain ⟨X, hX⟩ : ∃ X, undI t (undA t l i) i (l.getD i 0) M' = X := ⟨_, rfl⟩
      rw [hX] at a4
      have v1 := row_get (f := mixU (undA t l i) l i X) (n := n) (o := i) hlt
      have e1 : mixU (undA t l i) l i X i = X := by unfold mixU; rw [if_neg (by omega), if_pos rfl]
      rw [e1] at v1
      obtain ⟨x, hx⟩ : ∃ x, t.getD 0 0 = x := ⟨_, rfl⟩
      rw [hx] at i3
      obtain ⟨P, hP⟩ : ∃ P, IntKind.wrap .i64 (X * x) = P := ⟨_, rfl⟩
      have hset := mixU_set (o := undA t l i) (l := l) (n := n) (i := i) (X := X) (Y := P)
      have hnx : undA t l (i + 1) = undA t l i ++ [P] := by
        have e : undA t l (i + 1) = undA t l i ++ [wr (undI t (undA t l i) i (l.getD i 0) (min (t.length - 1) i) * t.getD 0 0)] := rfl
        rw [e, ht, ← hM2, hX, hx]
        show _ ++ [IntKind.wrap .i64 (X * x)] = _
        rw [hP]
      have hmx := mixU_next (undA t l i) l P
      rw [undA_len, ← hnx] at hmx
      rw [hmx] at hset
      repeat' (first | with_reducible refine wo_nil ?_ | ((with_reducible refine wo_any ?_); first | ((with_reducible refine ik_move ?_); refine wo_op rfl (op_move rfl) rfl rfl ?_) | ((with_reducible refine ik_bin ?_); first | refine wo_op rfl (op_lss rfl rfl) rfl rfl ?_ | refine wo_op rfl (op_add' rfl rfl (w64 (by omega) (by omega))) rfl rfl ?_)) | ((with_reducible refine xk_any ?_); ((with_reducible refine xk_as0 ?_); first | ((with_reducible refine xk_move ?_); refine wx_q (wt_none rfl) rfl rfl (op_q rfl (op_move rfl)) rfl rfl rfl ?_) | ((with_reducible refine xk_indexAddr ?_); first | refine wx_q (wt_none rfl) rfl rfl (op_q rfl (op_indexAddr rfl rfl i1)) rfl rfl rfl ?_ | refine wx_q (wt_none rfl) rfl rfl (op_q rfl (op_idxSl (o := i) rfl rfl Tryz.underlying22 zs3 (by omega) (by omega) (by omega))) rfl rfl rfl ?_) | ((with_reducible refine xk_load ?_); first | refine wx_h0 (wt_none rfl) rfl (op_q rfl (op_ldCell rfl Tryz.underlying3 rfl i3)) rfl rfl rfl ?_ | refine wx_h0 (wt_none rfl) rfl (op_q rfl (op_ldIdx rfl at_A Tryz.underlying3 rfl v1)) rfl rfl rfl ?_) | ((with_reducible refine xk_bin ?_); refine wx_q (wt_none rfl) rfl rfl (op_q rfl (op_mul' rfl rfl hP)) rfl rfl rfl ?_) | ((with_reducible refine xk_store ?_); refine wx_ee0 (wt_none rfl) rfl rfl (op_stIdx rfl rfl at_A rfl zs3 (by simp; omega) rfl hset) rfl ?_) | with_reducible refine wx_nil0 ?_ ?_)) | with_reducible exact obl_nil | with_reducible refine obl_cons ?_ ?_ | ((with_reducible refine ik_obs ?_); first | exact obs_nil | refine obs_skip rfl ?_ | refine obs_chkn rfl rfl (op_q rfl (op_ldCell rfl Tryz.underlying3 rfl i3)) ?_ | refine obs_chkn rfl rfl (op_q rfl (op_ldIdx rfl at_A Tryz.underlying3 rfl v1)) ?_) | with_reducible refine sq_norm ?_ | with_reducible refine wc_seq ?_ | with_reducible refine wc_region ?_ | with_reducible refine wc_exit ?_ | with_reducible refine bq_norm ?_ | with_reducible refine sq_exit ?_ | with_reducible refine lq_exit ?_ | refine bq_eq rfl ?_ | (refine wc_if rfl (fun hb => ?_) (fun hb => ?_) <;> (try simp only [decide_eq_true_eq, decide_eq_false_iff_not, Bool.not_eq_true', Bool.not_eq_false', Int.not_lt, Int.not_le, Decidable.not_not, not_true_eq_false, not_false_eq_true, beq_self_eq_true, reduceCtorEq] at hb) <;> (try (exfalso; omega))) | refine wc_drawB (id := 10) 10 [0, 0, 3, 7, 0, 16, 48, 127, 255, 511] [0, 1, 2, 3, 4, 5, 6, 7, 8, 9] (by kernel_rfl) (by kernel_rfl) rfl rfl ?_)
      exact lq_norm (i + 1) (by omega) (within_lk ⟨rfl, rfl, rfl, rfl, trivial⟩) ⟨⟨wf_A, gr_A, at_A⟩, by omega⟩
  · have hin : i = n := by omega
    subst hin
    repeat' (first | with_reducible refine wo_nil ?_ | ((with_reducible refine wo_any ?_); first | ((with_reducible refine ik_move ?_); refine wo_op rfl (op_move rfl) rfl rfl ?_) | ((with_reducible refine ik_assign ?_); refine wo_op rfl (op_assign rfl) rfl rfl ?_) | ((with_reducible refine ik_bin ?_); refine wo_op rfl (op_lss rfl rfl) rfl rfl ?_)) | with_reducible refine sq_norm ?_ | with_reducible refine wc_seq ?_ | with_reducible refine wc_region ?_ | with_reducible refine wc_ret ?_ | with_reducible refine wc_exit ?_ | with_reducible refine sq_exit ?_ | with_reducible refine lq_exit ?_ | refine bq_eq rfl ?_ | (refine wc_if rfl (fun hb => ?_) (fun hb => ?_) <;> (try simp only [decide_eq_true_eq, decide_eq_false_iff_not, Bool.not_eq_true', Bool.not_eq_false', Int.not_lt, Int.not_le, Decidable.not_not, not_true_eq_false, not_false_eq_true, beq_self_eq_true, reduceCtorEq] at hb) <;> (try (exfalso; omega))))
    rw [mixU_end _ _ _ (undA_len t l i)] at a3
    refine rq1 rfl ⟨⟨B, sf, rfl, hB, ?_⟩, gr_A⟩
    unfold undL; rw [hl]; exact a3
end Go.Proofs.YtccdcekcbbpohaaGreatDoor
