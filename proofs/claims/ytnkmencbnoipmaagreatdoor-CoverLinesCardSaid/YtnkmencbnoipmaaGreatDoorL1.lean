/- The law CoverChanges, walked. -/
import Derived.Test.YtnkmencbnoipmaaGreatDoorC8
set_option linter.all false
/- The law CoverChanges. -/
namespace Go.Proofs.YtnkmencbnoipmaaGreatDoor
open Go Go.Ab Go.Fl
attribute [local irreducible] SeqQ BlkQ LpQ RetQ Wc Wo WD WX Op1 Op1q Op1a Cf Cl From
attribute [local irreducible] Ieee.Format.order Ieee.Format.read Ieee.Format.nearest Ieee.Format.write Ieee.Format.mul Ieee.Format.div Ieee.Format.sqrt Ieee.Datum.order Ieee.Datum.integral K U rngE errN cntE cmpI indE ptE plaE firstNZ numsE lnE BigP isNameB nmE ascA errL chgV chgE
set_option maxRecDepth 10000
variable {G : Base} {h : H}

/-- A middle condition behind code that may return. -/
theorem wc_midR {M : Mc} {ro : Option Nat} {a b : Code} {sz : Nat} {l : KL} {h : H} {Q : X → KL → H → Prop} {ι : Type} (L : ι → KL) (I : ι → H → Prop) (hA : Wc M ro a sz l h (fun x l' h' => (x = .norm ∧ ∃ i, (∀ t v, lk (L i) t = some v → lk l' t = some v) ∧ I i h') ∨ (x = .ret ∧ Q .ret l' h'))) (hB : ∀ i h, I i h → Wc M ro b sz (L i) h Q) : Wc M ro (a.seq b) sz l h Q :=
  wc_seq (wc_mono hA fun x l' h' q => by
    rcases q with ⟨e, i, hl, hi⟩ | ⟨e, q⟩
    · subst e
      exact sq_norm (wc_less hl (hB i h' hi))
    · subst e
      exact sq_ret q)
def Fre (h : H) (B : Nat) : Prop := ∀ c e es s, h.get B = some (.cells c e es s) → es = 12
theorem Fre.new {h h' : H} {k i : Nat} (w : Wf h) (g : Grow (h.bump k) h') (hi : i < k) : Fre h' (h.nx + i) := fun c e es s q => by
  rw [g.get _ (by rw [H.nx_bump]; omega)] at q
  have : (h.bump k).get (h.nx + i) = none := w _ (by omega)
  rw [this] at q
  cases q
theorem Fre.at {h : H} {B : Nat} {c : List Value} {e : TypeId} {s : Bool} (a : At h B (.cells c e 12 s)) : Fre h B := fun c e es s q => by
  rw [a.get] at q
  cases q
  rfl
theorem Sl.setG {es n B : Nat} {w : Value} {L : List Value} (sl : Sl G h es w n L) (hf : Fre h B) (hne : es ≠ 12) (o : AObj) : Sl G (h.set B o) es w n L := by
  cases sl with
  | nil => exact .nil
  | end' b o => exact .end' b o
  | mem a _ cc _ hl hc hnc ho =>
    have hb : a.spot = some 0 → a.block ≠ B := fun q e => by
      obtain ⟨c1, e1, s1, hg⟩ := ho q
      rw [e] at hg
      exact hne (hf _ _ _ _ hg)
    refine .mem a n cc L hl ⟨fun q => hc.lt q, fun i v q => ?_, hc.spot, fun q => ?_⟩ hnc fun q => ?_
    · have := hc.get i v q
      unfold acell at this ⊢
      rcases hc.spot with hs | hs
      · simp only [aadd, hs] at this ⊢; exact this
      · simp only [aadd, hs] at this ⊢
        rw [H.get_set, if_neg (hb hs)]; exact this
    · rw [H.get_set, if_neg (hb q)]; exact hc.own q
    · rw [H.get_set, if_neg (hb q)]; exact ho q/-- A line that lies in a block. -/
def LnAt (G : Base) (h' : H) (b ty : Nat) (V : LnV) : Prop := ∃ a c, At h' b (.cells (vC V a V.rf.length c) ty 12 false) ∧ Sl G h' 1 (.slice a V.rf.length c) V.rf.length (V.rf.map (.int .i64))
theorem LnAt.grow {h1 h2 : H} {b ty : Nat} {V : LnV} (q : LnAt G h1 b ty V) (g : Grow h1 h2) : LnAt G h2 b ty V := by
  obtain ⟨a, c, h3, h4⟩ := q
  exact ⟨a, c, h3.grow g, h4.grow g⟩
theorem LnAt.lt {h1 : H} {b ty : Nat} {V : LnV} (q : LnAt G h1 b ty V) : b < h1.nx := by
  obtain ⟨a, c, h3, _⟩ := q
  exact h3.lt
theorem LnAt.set {h1 : H} {b p ty ty2 : Nat} {V : LnV} {cs : List Value} {sf : Bool} (q : LnAt G h1 b ty V) (hp : At h1 p (.cells cs ty2 12 sf)) (hne : b ≠ p) (o : AObj) : LnAt G (h1.set p o) b ty V := by
  obtain ⟨a, c, h3, h4⟩ := q
  exact ⟨a, c, h3.set_ne hne _, Sl.set_ne h4 hp (by decide) _⟩
theorem feaV_len {L : LnV} {u v : Int} : (feaV L u v).rf.length ≤ L.rf.length := by
  unfold feaV chgV zL
  split
  · split
    · exact Nat.le_refl _
    · exact Nat.zero_le _
  · exact Nat.zero_le _
theorem shiV_len {L : LnV} {u v : Int} : (shiV L u v).rf.length ≤ L.rf.length := by
  unfold shiV chgV zL
  split
  · split
    · exact Nat.le_refl _
    · exact Nat.zero_le _
  · exact Nat.zero_le _
theorem revL_len {L : LnV} : (revL L).rf.length = L.rf.length := by unfold revL; simp
theorem cutL_len {L : LnV} {f t : Int} : (cutL L f t).rf.length ≤ L.rf.length := by
  unfold cutL
  exact Nat.le_trans keep_len (by simp)
set_option maxHeartbeats 16000000 in
theorem c4 {nm : ByteArray} {x y tx ty sh nx ny px py ch : Int} {a : Option Addr} {n c : Nat} {rf : List Int} {u v f t : Int} (s : Sl G h 1 (.slice a n c) n (rf.map (.int .i64))) (hw : Wf h) (hG : ∀ a v, laidBase a = some v → G a = some v) : Cf (mz G) (.func (.func 4) #[] #[]) [.agg ⟨lnC nm x y tx ty sh nx ny px py ch a n c⟩, .agg ⟨[.int .i64 u, .int .i64 v]⟩, .agg ⟨[.int .i64 f, .int .i64 t]⟩] h fun r h' => r = .bool true ∧ Grow h h' := by
  refine cf_enter0 125 [.tmp 6] Tryz.func4 rfl rfl rfl rfl ?_
  refine wc_mid (ι := Unit) (fun _ => [(3, .pointer (some ⟨h.nx, 0, some 0⟩)), (4, .pointer (some ⟨h.nx + 1, 0, some 0⟩)), (5, .pointer (some ⟨h.nx + 2, 0, some 0⟩))]) (fun _ h' => Wf h' ∧ Grow h h' ∧ At h' h.nx (.cells (lnC nm x y tx ty sh nx ny px py ch a n c) 45 12 false) ∧ At h' (h.nx + 1) (.cells [.int .i64 u, .int .i64 v] 23 2 false) ∧ At h' (h.nx + 2) (.cells [.int .i64 f, .int .i64 t] 54 2 false)) ?_ ?_
  · repeat' (first | with_reducible refine wo_nil ?_ | ((with_reducible refine wo_any ?_); first | ((with_reducible refine ik_assign ?_); refine wo_op rfl (op_assign rfl) rfl rfl ?_) | ((with_reducible refine ik_box ?_); first | refine wo_op rfl (op_boxAgg rfl zs45 rfl) rfl rfl ?_ | refine wo_op rfl (op_boxAgg rfl zs23 rfl) rfl rfl ?_)) | with_reducible refine wc_region ?_)
    exact ⟨rfl, (), within_lk ⟨rfl, rfl, rfl, trivial⟩, wf_A, gr_A, at_A, at_A, at_A⟩
  rintro _ g0 ⟨w0, gr0, x0, x1, x2⟩
  have q23 := fun (h' : H) => c23 (G := G) (h := h') (nm := nm) (x := x) (y := y) (tx := tx) (ty := ty) (sh := sh) (nx := nx) (ny := ny) (px := px) (py := py) (ch := ch) (a := a) (n := n) (c := c) (rf := rf)
  refine wc_midR (ι := Unit) (fun _ => [(3, .pointer (some ⟨h.nx, 0, some 0⟩)), (4, .pointer (some ⟨h.nx + 1, 0, some 0⟩)), (5, .pointer (some ⟨h.nx + 2, 0, some 0⟩))]) (fun _ h' => (n ≤ 10 ∧ nm.size ≤ 40) ∧ Wf h' ∧ Grow h h' ∧ At h' h.nx (.cells (lnC nm x y tx ty sh nx ny px py ch a n c) 45 12 false) ∧ At h' (h.nx + 1) (.cells [.int .i64 u, .int .i64 v] 23 2 false) ∧ At h' (h.nx + 2) (.cells [.int .i64 f, .int .i64 t] 54 2 false)) ?_ ?_
  · repeat' (first | with_reducible refine wo_nil ?_ | ((with_reducible refine wo_any ?_); first | ((with_reducible refine ik_assign ?_); refine wo_op rfl (op_assign rfl) rfl rfl ?_) | ((with_reducible refine ik_load ?_); refine wo_op rfl (op_ldAgg rfl at_A Tryz.underlying45 rfl zs45 rfl rfl) rfl rfl ?_) | ((with_reducible refine ik_un ?_); refine wo_op rfl (op_not rfl) rfl rfl ?_) | ((with_reducible refine ik_callF (f := 10) ?_); refine wo_op rfl (op_call rfl rfl (c10)) rfl rfl ?_) | ((with_reducible refine ik_callv ?_); (refine wo_call rfl rfl rfl rfl (q23 _) rfl rfl ?_; rintro _ _ ⟨(⟨rfl, s1, s2⟩ | rfl), hq⟩; all_goals ((try (have hqn := hq.nx)); (try simp only [H.nx_push, H.nx_set, H.nx_bump] at hqn))))) | with_reducible refine sq_norm ?_ | with_reducible refine wc_seq ?_ | with_reducible refine wc_region ?_ | with_reducible refine wc_skip ?_ | with_reducible refine wc_ret ?_ | refine wc_ift rfl ?_ | refine wc_iff rfl ?_)
    all_goals first
      | exact .inl ⟨rfl, (), within_lk ⟨rfl, rfl, rfl, trivial⟩, ⟨s1, s2⟩, wf_A, gr_A, at_A, at_A, at_A⟩
      | exact .inr ⟨rfl, rq1 rfl ⟨rfl, gr_A⟩⟩
  clear w0 gr0 x0 x1 x2 q23
  rintro _ g0 ⟨⟨hn10, hnm⟩, w0, gr0, x0, x1, x2⟩
  have hn : n < 1000000 := by omega
  have hnm : nm.size ≤ 1000000 := by omega
  have q17 := fun (h' : H) (g : Grow h h') => c17 (nm := nm) (x := x) (y := y) (tx := tx) (ty := ty) (sh := sh) (nx := nx) (ny := ny) (px := px) (py := py) (ch := ch) (s.grow g) hn
  have q24 := fun (h' : H) (a : Option Addr) (c : Nat) (s' : Sl G h' 1 (.slice a n c) n (rf.map (.int .i64))) (w' : Wf h') => c24 (nm := nm) (x := x) (y := y) (tx := tx) (ty := ty) (sh := sh) (nx := nx) (ny := ny) (px := px) (py := py) (ch := ch) (u := u) (v := v) s' hn w' hG
  have q25 := fun (h' : H) (a : Option Addr) (c : Nat) (s' : Sl G h' 1 (.slice a n c) n (rf.map (.int .i64))) (w' : Wf h') => c25 (nm := nm) (x := x) (y := y) (tx := tx) (ty := ty) (sh := sh) (nx := nx) (ny := ny) (px := px) (py := py) (ch := ch) (u := u) (v := v) s' hn w' hG
  have q26 := fun (h' : H) (a : Option Addr) (c : Nat) (s' : Sl G h' 1 (.slice a n c) n (rf.map (.int .i64))) (w' : Wf h') => c26 (nm := nm) (x := x) (y := y) (tx := tx) (ty := ty) (sh := sh) (nx := nx) (ny := ny) (px := px) (py := py) (ch := ch) s' hn w' hG rev_ok
  have q27 := fun (h' : H) (a : Option Addr) (c : Nat) (s' : Sl G h' 1 (.slice a n c) n (rf.map (.int .i64))) (w' : Wf h') => c27 (nm := nm) (x := x) (y := y) (tx := tx) (ty := ty) (sh := sh) (nx := nx) (ny := ny) (px := px) (py := py) (ch := ch) (f := f) (t := t) s' hn w' hG cut_ok
  have q28 := fun (h' : H) (g : Grow h h') (w' : Wf h') => c28 (nm := nm) (x := x) (y := y) (tx := tx) (ty := ty) (sh := sh) (nx := nx) (ny := ny) (px := px) (py := py) (ch := ch) (u := u) (v := v) (s.grow g) hn hnm w'
  have q29 := fun (h' : H) (g : Grow h h') (w' : Wf h') => c29 (nm := nm) (x := x) (y := y) (tx := tx) (ty := ty) (sh := sh) (nx := nx) (ny := ny) (px := px) (py := py) (ch := ch) (u := u) (v := v) (s.grow g) hn hnm w'
  have q18 := fun (h' : H) (g : Grow h h') (w' : Wf h') => c18 (nm := nm) (x := x) (y := y) (tx := tx) (ty := ty) (sh := sh) (nx := nx) (ny := ny) (px := px) (py := py) (ch := ch) (s.grow g) hn hnm w'
  have q30 := fun (h' : H) (g : Grow h h') (w' : Wf h') => c30 (nm := nm) (x := x) (y := y) (tx := tx) (ty := ty) (sh := sh) (nx := nx) (ny := ny) (px := px) (py := py) (ch := ch) (f := f) (t := t) (s.grow g) hn hnm w'
  have q31 := fun (h' : H) (g : Grow h h') (w' : Wf h') (hE : lnE nm x y tx ty sh nx ny px py ch rf = 0) => c31 (nm := nm) (x := x) (y := y) (tx := tx) (ty := ty) (sh := sh) (nx := nx) (ny := ny) (px := px) (py := py) (ch := ch) (s.grow g) hn w' hE
  have q32 := fun (h' : H) (g : Grow h h') (w' : Wf h') (hE : lnE nm x y tx ty sh nx ny px py ch rf = 0) (k1 : 0 ≤ f) (k2 : f < t) (k3 : t ≤ sh) => c32 (nm := nm) (x := x) (y := y) (tx := tx) (ty := ty) (sh := sh) (nx := nx) (ny := ny) (px := px) (py := py) (ch := ch) (s.grow g) hn w' hE k1 k2 k3
  have hl := s.length
  simp at hl
  have lnV1 : (feaV ⟨nm, x, y, tx, ty, sh, nx, ny, px, py, ch, rf⟩ u v).rf.length ≤ rf.length := feaV_len
  have lnV2 : (shiV ⟨nm, x, y, tx, ty, sh, nx, ny, px, py, ch, rf⟩ u v).rf.length ≤ rf.length := shiV_len
  have lnV3 : (if lnE nm x y tx ty sh nx ny px py ch rf = 0 then revL ⟨nm, x, y, tx, ty, sh, nx, ny, px, py, ch, rf⟩ else zL).rf.length ≤ rf.length := by
    split
    · exact Nat.le_of_eq revL_len
    · exact Nat.zero_le _
  have lnV4 : (if cutE ⟨nm, x, y, tx, ty, sh, nx, ny, px, py, ch, rf⟩ f t (lnE nm x y tx ty sh nx ny px py ch rf) = 0 then cutL ⟨nm, x, y, tx, ty, sh, nx, ny, px, py, ch, rf⟩ f t else zL).rf.length ≤ rf.length := by
    split
    · exact cutL_len
    · exact Nat.zero_le _
  have k123 : cutE ⟨nm, x, y, tx, ty, sh, nx, ny, px, py, ch, rf⟩ f t (lnE nm x y tx ty sh nx ny px py ch rf) = 0 → lnE nm x y tx ty sh nx ny px py ch rf = 0 ∧ 0 ≤ f ∧ f < t ∧ t ≤ sh := by
    intro q
    unfold cutE at q
    by_cases e : lnE nm x y tx ty sh nx ny px py ch rf = 0
    · rw [if_neg (by omega)] at q
      split at q
      · cases q
      · rename_i r
        exact ⟨e, by simp only at r; omega⟩
    · rw [if_pos e] at q; exact absurd q e
  obtain ⟨V1, hV1⟩ : ∃ V, feaV ⟨nm, x, y, tx, ty, sh, nx, ny, px, py, ch, rf⟩ u v = V := ⟨_, rfl⟩
  obtain ⟨e1, he1⟩ : ∃ e, feaE ⟨nm, x, y, tx, ty, sh, nx, ny, px, py, ch, rf⟩ u v = e := ⟨_, rfl⟩
  obtain ⟨V2, hV2⟩ : ∃ V, shiV ⟨nm, x, y, tx, ty, sh, nx, ny, px, py, ch, rf⟩ u v = V := ⟨_, rfl⟩
  obtain ⟨e2, he2⟩ : ∃ e, shiE ⟨nm, x, y, tx, ty, sh, nx, ny, px, py, ch, rf⟩ u v = e := ⟨_, rfl⟩
  obtain ⟨e4, he4⟩ : ∃ e, cutE ⟨nm, x, y, tx, ty, sh, nx, ny, px, py, ch, rf⟩ f t (lnE nm x y tx ty sh nx ny px py ch rf) = e := ⟨_, rfl⟩
  obtain ⟨e3, he3⟩ : ∃ e, lnE nm x y tx ty sh nx ny px py ch rf = e := ⟨_, rfl⟩
  rw [hV1] at q24 q28 lnV1
  rw [he1] at q24 q28
  rw [hV2] at q25 q29 lnV2
  rw [he2] at q25 q29
  rw [he4] at q27 q30 lnV4 k123
  rw [he3] at q26 q18 lnV3 q31 q32 k123
  obtain ⟨V3, hV3⟩ : ∃ V, (if e3 = 0 then revL ⟨nm, x, y, tx, ty, sh, nx, ny, px, py, ch, rf⟩ else zL) = V := ⟨_, rfl⟩
  obtain ⟨V4, hV4⟩ : ∃ V, (if e4 = 0 then cutL ⟨nm, x, y, tx, ty, sh, nx, ny, px, py, ch, rf⟩ f t else zL) = V := ⟨_, rfl⟩
  rw [hV3] at q26 lnV3
  rw [hV4] at q27 lnV4
  clear hV1 he1 hV2 he2 he4 he3 hn10
  refine wc_mid (ι := Nat) (fun p7 => [(3, .pointer (some ⟨h.nx, 0, some 0⟩)), (4, .pointer (some ⟨h.nx + 1, 0, some 0⟩)), (5, .pointer (some ⟨h.nx + 2, 0, some 0⟩)), (7, .pointer (some ⟨p7, 0, some 0⟩)), (8, .int .i64 e1)]) (fun p7 h' => h.nx ≤ p7 ∧ Wf h' ∧ Grow h h' ∧ At h' h.nx (.cells (lnC nm x y tx ty sh nx ny px py ch a n c) 45 12 false) ∧ At h' (h.nx + 1) (.cells [.int .i64 u, .int .i64 v] 23 2 false) ∧ At h' (h.nx + 2) (.cells [.int .i64 f, .int .i64 t] 54 2 false) ∧ LnAt G h' p7 43 V1) ?_ ?_
  · have lx0 := x0.lt
    have lx1 := x1.lt
    have lx2 := x2.lt
    repeat' (first | ((with_reducible refine xk_any ?_); first | ((with_reducible refine xk_as0 ?_); first | ((with_reducible refine xk_move ?_); refine wx_q (wt_none rfl) rfl rfl (op_q rfl (op_move rfl)) rfl rfl rfl ?_) | ((with_reducible refine xk_load ?_); first | refine wx_h0 (wt_none rfl) rfl (op_q rfl (op_ldAgg rfl at_A Tryz.underlying45 rfl zs45 rfl rfl)) rfl rfl rfl ?_ | refine wx_h0 (wt_none rfl) rfl (op_q rfl (op_ldAgg rfl at_A Tryz.underlying23 rfl zs23 rfl rfl)) rfl rfl rfl ?_) | ((with_reducible refine xk_extract ?_); refine wx_q (wt_none rfl) rfl rfl (op_q rfl (op_extract rfl rfl)) rfl rfl rfl ?_) | ((with_reducible refine xk_alloc ?_); refine wx_a0 (wt_none rfl) rfl (oa_alloc zz43 zs43 rfl rfl rfl) rfl rfl ?_) | ((with_reducible refine xk_callv ?_); first | (refine wx_call0 (wt_none rfl) rfl rfl rfl rfl (q17 _ gr_A) rfl rfl ?_; rintro _ _ ⟨⟨a', c', rfl, s'⟩, hq⟩; all_goals ((try (have hqn := hq.nx)); (try simp only [H.nx_push, H.nx_set, H.nx_bump] at hqn))) | (refine wx_call0 (wt_none rfl) rfl rfl rfl rfl (q24 _ _ _ (s'.grow gr_A) wf_A) rfl rfl ?_; rintro _ _ ⟨⟨al, cl, rfl, sl⟩, hq⟩; all_goals ((try (have hqn := hq.nx)); (try simp only [H.nx_push, H.nx_set, H.nx_bump] at hqn))))) | ((with_reducible refine xk_assign ?_); refine wx_q (wt_none rfl) rfl rfl (op_q rfl (op_assign rfl)) rfl rfl rfl ?_) | ((with_reducible refine xk_store ?_); ((with_reducible refine xk_as1 ?_); refine wx_e01 (wt_none rfl) rfl rfl rfl (op_stAgg rfl rfl at_A zs43 rfl rfl rfl rfl) rfl ?_)) | refine wx_niln ?_ ?_ rfl rfl ?_) | with_reducible exact obl_nil | with_reducible refine obl_cons ?_ ?_ | ((with_reducible refine ik_obs ?_); first | exact obs_nil | refine obs_skip rfl ?_ | refine obs_chkn rfl rfl (op_q rfl (op_ldAgg rfl at_A Tryz.underlying45 rfl zs45 (by rfl) rfl)) ?_ | refine obs_chkn rfl rfl (op_q rfl (op_ldAgg rfl at_A Tryz.underlying23 rfl zs23 (by rfl) rfl)) ?_) | with_reducible exact stk_nil | with_reducible refine stk_cons ?_ ?_ | ((with_reducible refine ik_stk ?_); first | exact stk_abs rfl rfl | exact stk_freeB rfl rfl wf_A gr_B) | refine wc_drawB (id := 3) 10 [0, 1, 0, 7, 15, 31, 31, 0, 191, 511] [0, 1, 2, 3, 4, 5, 6, 7, 8, 9] (by kernel_rfl) (by kernel_rfl) rfl rfl ?_)
    refine ⟨rfl, _, within_lk ⟨rfl, rfl, rfl, rfl, rfl, trivial⟩, ?_, wf_A, gr_A, at_A, at_A, at_A, ⟨al, cl, At.lay lt_A, Sl.setG (Sl.setG (sl.grow gr_A) (Fre.new w0 gr_A (by omega)) (by decide) _) (Fre.at at_A) (by decide) _⟩⟩
    first | omega | (simp only [H.nx_push, H.nx_set, H.nx_bump]; omega)
  clear w0 gr0 x0 x1 x2 
  rintro p7 g1 ⟨zp7, w0, gr0, x0, x1, x2, y7⟩
  refine wc_mid (ι := Nat) (fun p9 => [(3, .pointer (some ⟨h.nx, 0, some 0⟩)), (4, .pointer (some ⟨h.nx + 1, 0, some 0⟩)), (5, .pointer (some ⟨h.nx + 2, 0, some 0⟩)), (7, .pointer (some ⟨p7, 0, some 0⟩)), (8, .int .i64 e1), (9, .pointer (some ⟨p9, 0, some 0⟩)), (10, .int .i64 e2)]) (fun p9 h' => h.nx ≤ p9 ∧ Wf h' ∧ Grow h h' ∧ At h' h.nx (.cells (lnC nm x y tx ty sh nx ny px py ch a n c) 45 12 false) ∧ At h' (h.nx + 1) (.cells [.int .i64 u, .int .i64 v] 23 2 false) ∧ At h' (h.nx + 2) (.cells [.int .i64 f, .int .i64 t] 54 2 false) ∧ LnAt G h' p7 43 V1 ∧ LnAt G h' p9 43 V2) ?_ ?_
  · have lx0 := x0.lt
    have lx1 := x1.lt
    have lx2 := x2.lt
    have ly7 := y7.lt
    repeat' (first | ((with_reducible refine xk_any ?_); first | ((with_reducible refine xk_as0 ?_); first | ((with_reducible refine xk_move ?_); refine wx_q (wt_none rfl) rfl rfl (op_q rfl (op_move rfl)) rfl rfl rfl ?_) | ((with_reducible refine xk_load ?_); first | refine wx_h0 (wt_none rfl) rfl (op_q rfl (op_ldAgg rfl at_A Tryz.underlying45 rfl zs45 rfl rfl)) rfl rfl rfl ?_ | refine wx_h0 (wt_none rfl) rfl (op_q rfl (op_ldAgg rfl at_A Tryz.underlying23 rfl zs23 rfl rfl)) rfl rfl rfl ?_) | ((with_reducible refine xk_extract ?_); refine wx_q (wt_none rfl) rfl rfl (op_q rfl (op_extract rfl rfl)) rfl rfl rfl ?_) | ((with_reducible refine xk_alloc ?_); refine wx_a0 (wt_none rfl) rfl (oa_alloc zz43 zs43 rfl rfl rfl) rfl rfl ?_) | ((with_reducible refine xk_callv ?_); first | (refine wx_call0 (wt_none rfl) rfl rfl rfl rfl (q17 _ gr_A) rfl rfl ?_; rintro _ _ ⟨⟨a', c', rfl, s'⟩, hq⟩; all_goals ((try (have hqn := hq.nx)); (try simp only [H.nx_push, H.nx_set, H.nx_bump] at hqn))) | (refine wx_call0 (wt_none rfl) rfl rfl rfl rfl (q25 _ _ _ (s'.grow gr_A) wf_A) rfl rfl ?_; rintro _ _ ⟨⟨al, cl, rfl, sl⟩, hq⟩; all_goals ((try (have hqn := hq.nx)); (try simp only [H.nx_push, H.nx_set, H.nx_bump] at hqn))))) | ((with_reducible refine xk_assign ?_); refine wx_q (wt_none rfl) rfl rfl (op_q rfl (op_assign rfl)) rfl rfl rfl ?_) | ((with_reducible refine xk_store ?_); ((with_reducible refine xk_as1 ?_); refine wx_e01 (wt_none rfl) rfl rfl rfl (op_stAgg rfl rfl at_A zs43 rfl rfl rfl rfl) rfl ?_)) | refine wx_niln ?_ ?_ rfl rfl ?_) | with_reducible exact obl_nil | with_reducible refine obl_cons ?_ ?_ | ((with_reducible refine ik_obs ?_); first | exact obs_nil | refine obs_skip rfl ?_ | refine obs_chkn rfl rfl (op_q rfl (op_ldAgg rfl at_A Tryz.underlying45 rfl zs45 (by rfl) rfl)) ?_ | refine obs_chkn rfl rfl (op_q rfl (op_ldAgg rfl at_A Tryz.underlying23 rfl zs23 (by rfl) rfl)) ?_) | with_reducible exact stk_nil | with_reducible refine stk_cons ?_ ?_ | ((with_reducible refine ik_stk ?_); first | exact stk_abs rfl rfl | exact stk_freeB rfl rfl wf_A gr_B) | refine wc_drawB (id := 4) 10 [0, 1, 0, 7, 15, 31, 31, 0, 191, 511] [0, 1, 2, 3, 4, 5, 6, 7, 8, 9] (by kernel_rfl) (by kernel_rfl) rfl rfl ?_)
    refine ⟨rfl, _, within_lk ⟨rfl, rfl, rfl, rfl, rfl, rfl, rfl, trivial⟩, ?_, wf_A, gr_A, at_A, at_A, at_A, y7.grow gr_A, ⟨al, cl, At.lay lt_A, Sl.setG (Sl.setG (sl.grow gr_A) (Fre.new w0 gr_A (by omega)) (by decide) _) (Fre.at at_A) (by decide) _⟩⟩
    first | omega | (simp only [H.nx_push, H.nx_set, H.nx_bump]; omega)
  clear w0 gr0 x0 x1 x2 y7
  rintro p9 g2 ⟨zp9, w0, gr0, x0, x1, x2, y7, y9⟩
  refine wc_mid (ι := Nat) (fun p11 => [(3, .pointer (some ⟨h.nx, 0, some 0⟩)), (4, .pointer (some ⟨h.nx + 1, 0, some 0⟩)), (5, .pointer (some ⟨h.nx + 2, 0, some 0⟩)), (7, .pointer (some ⟨p7, 0, some 0⟩)), (8, .int .i64 e1), (9, .pointer (some ⟨p9, 0, some 0⟩)), (10, .int .i64 e2), (11, .pointer (some ⟨p11, 0, some 0⟩)), (12, .int .i64 e3)]) (fun p11 h' => h.nx ≤ p11 ∧ Wf h' ∧ Grow h h' ∧ At h' h.nx (.cells (lnC nm x y tx ty sh nx ny px py ch a n c) 45 12 false) ∧ At h' (h.nx + 1) (.cells [.int .i64 u, .int .i64 v] 23 2 false) ∧ At h' (h.nx + 2) (.cells [.int .i64 f, .int .i64 t] 54 2 false) ∧ LnAt G h' p7 43 V1 ∧ LnAt G h' p9 43 V2 ∧ LnAt G h' p11 43 V3) ?_ ?_
  · have lx0 := x0.lt
    have lx1 := x1.lt
    have lx2 := x2.lt
    have ly7 := y7.lt
    have ly9 := y9.lt
    repeat' (first | with_reducible refine wo_nil ?_ | ((with_reducible refine wo_any ?_); first | ((with_reducible refine ik_move ?_); refine wo_op rfl (op_move rfl) rfl rfl ?_) | ((with_reducible refine ik_assign ?_); refine wo_op rfl (op_assign rfl) rfl rfl ?_) | ((with_reducible refine ik_load ?_); refine wo_op rfl (op_ldAgg rfl at_A Tryz.underlying45 rfl zs45 rfl rfl) rfl rfl ?_) | ((with_reducible refine ik_extract ?_); refine wo_op rfl (op_extract rfl rfl) rfl rfl ?_) | ((with_reducible refine ik_alloc ?_); refine wo_op rfl (op_alloc zz43 zs43 rfl rfl rfl) rfl rfl ?_) | ((with_reducible refine ik_store ?_); refine wo_op0 rfl (op_stAgg rfl rfl at_A zs43 rfl rfl rfl rfl) rfl ?_) | ((with_reducible refine ik_callv ?_); first | (refine wo_call rfl rfl rfl rfl (q17 _ gr_A) rfl rfl ?_; rintro _ _ ⟨⟨a', c', rfl, s'⟩, hq⟩; all_goals ((try (have hqn := hq.nx)); (try simp only [H.nx_push, H.nx_set, H.nx_bump] at hqn))) | (refine wo_call rfl rfl rfl rfl (q26 _ _ _ (s'.grow gr_A) wf_A) rfl rfl ?_; rintro _ _ ⟨⟨al, cl, rfl, sl⟩, hq⟩; all_goals ((try (have hqn := hq.nx)); (try simp only [H.nx_push, H.nx_set, H.nx_bump] at hqn))))) | with_reducible refine wc_region ?_)
    refine ⟨rfl, _, within_lk ⟨rfl, rfl, rfl, rfl, rfl, rfl, rfl, rfl, rfl, trivial⟩, ?_, wf_A, gr_A, at_A, at_A, at_A, y7.grow gr_A, y9.grow gr_A, ⟨al, cl, At.lay lt_A, sl.grow gr_A⟩⟩
    first | omega | (simp only [H.nx_push, H.nx_set, H.nx_bump]; omega)
  clear w0 gr0 x0 x1 x2 y7 y9
  rintro p11 g3 ⟨zp11, w0, gr0, x0, x1, x2, y7, y9, y11⟩
  refine wc_mid (ι := Nat) (fun p13 => [(3, .pointer (some ⟨h.nx, 0, some 0⟩)), (4, .pointer (some ⟨h.nx + 1, 0, some 0⟩)), (5, .pointer (some ⟨h.nx + 2, 0, some 0⟩)), (7, .pointer (some ⟨p7, 0, some 0⟩)), (8, .int .i64 e1), (9, .pointer (some ⟨p9, 0, some 0⟩)), (10, .int .i64 e2), (11, .pointer (some ⟨p11, 0, some 0⟩)), (12, .int .i64 e3), (13, .pointer (some ⟨p13, 0, some 0⟩)), (14, .int .i64 e4)]) (fun p13 h' => h.nx ≤ p13 ∧ Wf h' ∧ Grow h h' ∧ At h' h.nx (.cells (lnC nm x y tx ty sh nx ny px py ch a n c) 45 12 false) ∧ At h' (h.nx + 1) (.cells [.int .i64 u, .int .i64 v] 23 2 false) ∧ At h' (h.nx + 2) (.cells [.int .i64 f, .int .i64 t] 54 2 false) ∧ LnAt G h' p7 43 V1 ∧ LnAt G h' p9 43 V2 ∧ LnAt G h' p11 43 V3 ∧ LnAt G h' p13 43 V4) ?_ ?_
  · have lx0 := x0.lt
    have lx1 := x1.lt
    have lx2 := x2.lt
    have ly7 := y7.lt
    have ly9 := y9.lt
    have ly11 := y11.lt
    repeat' (first | ((with_reducible refine xk_any ?_); first | ((with_reducible refine xk_as0 ?_); first | ((with_reducible refine xk_move ?_); refine wx_q (wt_none rfl) rfl rfl (op_q rfl (op_move rfl)) rfl rfl rfl ?_) | ((with_reducible refine xk_load ?_); first | refine wx_h0 (wt_none rfl) rfl (op_q rfl (op_ldAgg rfl at_A Tryz.underlying45 rfl zs45 rfl rfl)) rfl rfl rfl ?_ | refine wx_h0 (wt_none rfl) rfl (op_q rfl (op_ldAgg rfl at_A Tryz.underlying54 rfl zs54 rfl rfl)) rfl rfl rfl ?_) | ((with_reducible refine xk_extract ?_); refine wx_q (wt_none rfl) rfl rfl (op_q rfl (op_extract rfl rfl)) rfl rfl rfl ?_) | ((with_reducible refine xk_alloc ?_); refine wx_a0 (wt_none rfl) rfl (oa_alloc zz43 zs43 rfl rfl rfl) rfl rfl ?_) | ((with_reducible refine xk_callv ?_); first | (refine wx_call0 (wt_none rfl) rfl rfl rfl rfl (q17 _ gr_A) rfl rfl ?_; rintro _ _ ⟨⟨a', c', rfl, s'⟩, hq⟩; all_goals ((try (have hqn := hq.nx)); (try simp only [H.nx_push, H.nx_set, H.nx_bump] at hqn))) | (refine wx_call0 (wt_none rfl) rfl rfl rfl rfl (q27 _ _ _ (s'.grow gr_A) wf_A) rfl rfl ?_; rintro _ _ ⟨⟨al, cl, rfl, sl⟩, hq⟩; all_goals ((try (have hqn := hq.nx)); (try simp only [H.nx_push, H.nx_set, H.nx_bump] at hqn))))) | ((with_reducible refine xk_assign ?_); refine wx_q (wt_none rfl) rfl rfl (op_q rfl (op_assign rfl)) rfl rfl rfl ?_) | ((with_reducible refine xk_store ?_); ((with_reducible refine xk_as1 ?_); refine wx_e01 (wt_none rfl) rfl rfl rfl (op_stAgg rfl rfl at_A zs43 rfl rfl rfl rfl) rfl ?_)) | refine wx_niln ?_ ?_ rfl rfl ?_) | with_reducible exact obl_nil | with_reducible refine obl_cons ?_ ?_ | ((with_reducible refine ik_obs ?_); first | exact obs_nil | refine obs_skip rfl ?_ | refine obs_chkn rfl rfl (op_q rfl (op_ldAgg rfl at_A Tryz.underlying45 rfl zs45 (by rfl) rfl)) ?_ | refine obs_chkn rfl rfl (op_q rfl (op_ldAgg rfl at_A Tryz.underlying54 rfl zs54 (by rfl) rfl)) ?_) | with_reducible exact stk_nil | with_reducible refine stk_cons ?_ ?_ | ((with_reducible refine ik_stk ?_); first | exact stk_abs rfl rfl | exact stk_freeB rfl rfl wf_A gr_B) | refine wc_drawB (id := 6) 10 [0, 1, 0, 7, 15, 31, 31, 0, 191, 511] [0, 1, 2, 3, 4, 5, 6, 7, 8, 9] (by kernel_rfl) (by kernel_rfl) rfl rfl ?_)
    refine ⟨rfl, _, within_lk ⟨rfl, rfl, rfl, rfl, rfl, rfl, rfl, rfl, rfl, rfl, rfl, trivial⟩, ?_, wf_A, gr_A, at_A, at_A, at_A, y7.grow gr_A, y9.grow gr_A, y11.grow gr_A, ⟨al, cl, At.lay lt_A, Sl.setG (Sl.setG (sl.grow gr_A) (Fre.new w0 gr_A (by omega)) (by decide) _) (Fre.at at_A) (by decide) _⟩⟩
    first | omega | (simp only [H.nx_push, H.nx_set, H.nx_bump]; omega)
  clear w0 gr0 x0 x1 x2 y7 y9 y11
  rintro p13 g4 ⟨zp13, w0, gr0, x0, x1, x2, y7, y9, y11, y13⟩
  refine wc_mid (ι := Nat) (fun p15 => [(3, .pointer (some ⟨h.nx, 0, some 0⟩)), (4, .pointer (some ⟨h.nx + 1, 0, some 0⟩)), (5, .pointer (some ⟨h.nx + 2, 0, some 0⟩)), (7, .pointer (some ⟨p7, 0, some 0⟩)), (8, .int .i64 e1), (9, .pointer (some ⟨p9, 0, some 0⟩)), (10, .int .i64 e2), (11, .pointer (some ⟨p11, 0, some 0⟩)), (12, .int .i64 e3), (13, .pointer (some ⟨p13, 0, some 0⟩)), (14, .int .i64 e4), (15, .pointer (some ⟨p15, 0, some 0⟩)), (16, .int .i64 e1)]) (fun p15 h' => h.nx ≤ p15 ∧ Wf h' ∧ Grow h h' ∧ At h' h.nx (.cells (lnC nm x y tx ty sh nx ny px py ch a n c) 45 12 false) ∧ At h' (h.nx + 1) (.cells [.int .i64 u, .int .i64 v] 23 2 false) ∧ At h' (h.nx + 2) (.cells [.int .i64 f, .int .i64 t] 54 2 false) ∧ LnAt G h' p7 43 V1 ∧ LnAt G h' p9 43 V2 ∧ LnAt G h' p11 43 V3 ∧ LnAt G h' p13 43 V4 ∧ LnAt G h' p15 45 V1) ?_ ?_
  · have lx0 := x0.lt
    have lx1 := x1.lt
    have lx2 := x2.lt
    have ly7 := y7.lt
    have ly9 := y9.lt
    have ly11 := y11.lt
    have ly13 := y13.lt
    repeat' (first | with_reducible refine wo_nil ?_ | ((with_reducible refine wo_any ?_); first | ((with_reducible refine ik_move ?_); refine wo_op rfl (op_move rfl) rfl rfl ?_) | ((with_reducible refine ik_assign ?_); refine wo_op rfl (op_assign rfl) rfl rfl ?_) | ((with_reducible refine ik_load ?_); first | refine wo_op rfl (op_ldAgg rfl at_A Tryz.underlying45 rfl zs45 rfl rfl) rfl rfl ?_ | refine wo_op rfl (op_ldAgg rfl at_A Tryz.underlying23 rfl zs23 rfl rfl) rfl rfl ?_) | ((with_reducible refine ik_extract ?_); refine wo_op rfl (op_extract rfl rfl) rfl rfl ?_) | ((with_reducible refine ik_alloc ?_); refine wo_op rfl (op_alloc zz43 zs43 rfl rfl rfl) rfl rfl ?_) | ((with_reducible refine ik_store ?_); refine wo_op0 rfl (op_stAgg rfl rfl at_A zs43 rfl rfl rfl rfl) rfl ?_) | ((with_reducible refine ik_callv ?_); (refine wo_call rfl rfl rfl rfl (q28 _ gr_A wf_A) rfl rfl ?_; rintro _ _ ⟨⟨al, cl, rfl, sl⟩, hq⟩; all_goals ((try (have hqn := hq.nx)); (try simp only [H.nx_push, H.nx_set, H.nx_bump] at hqn))))) | with_reducible refine wc_region ?_)
    refine ⟨rfl, _, within_lk ⟨rfl, rfl, rfl, rfl, rfl, rfl, rfl, rfl, rfl, rfl, rfl, rfl, rfl, trivial⟩, ?_, wf_A, gr_A, at_A, at_A, at_A, y7.grow gr_A, y9.grow gr_A, y11.grow gr_A, y13.grow gr_A, ⟨al, cl, At.lay lt_A, sl.grow gr_A⟩⟩
    first | omega | (simp only [H.nx_push, H.nx_set, H.nx_bump]; omega)
  clear w0 gr0 x0 x1 x2 y7 y9 y11 y13
  rintro p15 g5 ⟨zp15, w0, gr0, x0, x1, x2, y7, y9, y11, y13, y15⟩
  refine wc_mid (ι := Nat) (fun p17 => [(3, .pointer (some ⟨h.nx, 0, some 0⟩)), (4, .pointer (some ⟨h.nx + 1, 0, some 0⟩)), (5, .pointer (some ⟨h.nx + 2, 0, some 0⟩)), (7, .pointer (some ⟨p7, 0, some 0⟩)), (8, .int .i64 e1), (9, .pointer (some ⟨p9, 0, some 0⟩)), (10, .int .i64 e2), (11, .pointer (some ⟨p11, 0, some 0⟩)), (12, .int .i64 e3), (13, .pointer (some ⟨p13, 0, some 0⟩)), (14, .int .i64 e4), (15, .pointer (some ⟨p15, 0, some 0⟩)), (16, .int .i64 e1), (17, .pointer (some ⟨p17, 0, some 0⟩)), (18, .int .i64 e2)]) (fun p17 h' => h.nx ≤ p17 ∧ Wf h' ∧ Grow h h' ∧ At h' h.nx (.cells (lnC nm x y tx ty sh nx ny px py ch a n c) 45 12 false) ∧ At h' (h.nx + 1) (.cells [.int .i64 u, .int .i64 v] 23 2 false) ∧ At h' (h.nx + 2) (.cells [.int .i64 f, .int .i64 t] 54 2 false) ∧ LnAt G h' p7 43 V1 ∧ LnAt G h' p9 43 V2 ∧ LnAt G h' p11 43 V3 ∧ LnAt G h' p13 43 V4 ∧ LnAt G h' p15 45 V1 ∧ LnAt G h' p17 45 V2) ?_ ?_
  · have lx0 := x0.lt
    have lx1 := x1.lt
    have lx2 := x2.lt
    have ly7 := y7.lt
    have ly9 := y9.lt
    have ly11 := y11.lt
    have ly13 := y13.lt
    have ly15 := y15.lt
    repeat' (first | with_reducible refine wo_nil ?_ | ((with_reducible refine wo_any ?_); first | ((with_reducible refine ik_move ?_); refine wo_op rfl (op_move rfl) rfl rfl ?_) | ((with_reducible refine ik_assign ?_); refine wo_op rfl (op_assign rfl) rfl rfl ?_) | ((with_reducible refine ik_load ?_); first | refine wo_op rfl (op_ldAgg rfl at_A Tryz.underlying45 rfl zs45 rfl rfl) rfl rfl ?_ | refine wo_op rfl (op_ldAgg rfl at_A Tryz.underlying23 rfl zs23 rfl rfl) rfl rfl ?_) | ((with_reducible refine ik_extract ?_); refine wo_op rfl (op_extract rfl rfl) rfl rfl ?_) | ((with_reducible refine ik_alloc ?_); refine wo_op rfl (op_alloc zz43 zs43 rfl rfl rfl) rfl rfl ?_) | ((with_reducible refine ik_store ?_); refine wo_op0 rfl (op_stAgg rfl rfl at_A zs43 rfl rfl rfl rfl) rfl ?_) | ((with_reducible refine ik_callv ?_); (refine wo_call rfl rfl rfl rfl (q29 _ gr_A wf_A) rfl rfl ?_; rintro _ _ ⟨⟨al, cl, rfl, sl⟩, hq⟩; all_goals ((try (have hqn := hq.nx)); (try simp only [H.nx_push, H.nx_set, H.nx_bump] at hqn))))) | with_reducible refine wc_region ?_)
    refine ⟨rfl, _, within_lk ⟨rfl, rfl, rfl, rfl, rfl, rfl, rfl, rfl, rfl, rfl, rfl, rfl, rfl, rfl, rfl, trivial⟩, ?_, wf_A, gr_A, at_A, at_A, at_A, y7.grow gr_A, y9.grow gr_A, y11.grow gr_A, y13.grow gr_A, y15.grow gr_A, ⟨al, cl, At.lay lt_A, sl.grow gr_A⟩⟩
    first | omega | (simp only [H.nx_push, H.nx_set, H.nx_bump]; omega)
  clear w0 gr0 x0 x1 x2 y7 y9 y11 y13 y15
  rintro p17 g6 ⟨zp17, w0, gr0, x0, x1, x2, y7, y9, y11, y13, y15, y17⟩
  refine wc_mid (ι := Unit) (fun _ => [(3, .pointer (some ⟨h.nx, 0, some 0⟩)), (4, .pointer (some ⟨h.nx + 1, 0, some 0⟩)), (5, .pointer (some ⟨h.nx + 2, 0, some 0⟩)), (7, .pointer (some ⟨p7, 0, some 0⟩)), (8, .int .i64 e1), (9, .pointer (some ⟨p9, 0, some 0⟩)), (10, .int .i64 e2), (11, .pointer (some ⟨p11, 0, some 0⟩)), (12, .int .i64 e3), (13, .pointer (some ⟨p13, 0, some 0⟩)), (14, .int .i64 e4), (15, .pointer (some ⟨p15, 0, some 0⟩)), (16, .int .i64 e1), (17, .pointer (some ⟨p17, 0, some 0⟩)), (18, .int .i64 e2), (19, .int .i64 e3), (20, .int .i64 e4)]) (fun _ h' => Wf h' ∧ Grow h h' ∧ At h' h.nx (.cells (lnC nm x y tx ty sh nx ny px py ch a n c) 45 12 false) ∧ At h' (h.nx + 1) (.cells [.int .i64 u, .int .i64 v] 23 2 false) ∧ At h' (h.nx + 2) (.cells [.int .i64 f, .int .i64 t] 54 2 false) ∧ LnAt G h' p7 43 V1 ∧ LnAt G h' p9 43 V2 ∧ LnAt G h' p11 43 V3 ∧ LnAt G h' p13 43 V4 ∧ LnAt G h' p15 45 V1 ∧ LnAt G h' p17 45 V2) ?_ ?_
  · have lx0 := x0.lt
    have lx1 := x1.lt
    have lx2 := x2.lt
    have ly7 := y7.lt
    have ly9 := y9.lt
    have ly11 := y11.lt
    have ly13 := y13.lt
    have ly15 := y15.lt
    have ly17 := y17.lt
    repeat' (first | ((with_reducible refine xk_any ?_); ((with_reducible refine xk_as0 ?_); first | ((with_reducible refine xk_assign ?_); refine wx_q (wt_none rfl) rfl rfl (op_q rfl (op_assign rfl)) rfl rfl rfl ?_) | ((with_reducible refine xk_load ?_); first | refine wx_h0 (wt_none rfl) rfl (op_q rfl (op_ldAgg rfl at_A Tryz.underlying45 rfl zs45 rfl rfl)) rfl rfl rfl ?_ | refine wx_h0 (wt_none rfl) rfl (op_q rfl (op_ldAgg rfl at_A Tryz.underlying54 rfl zs54 rfl rfl)) rfl rfl rfl ?_) | ((with_reducible refine xk_callv ?_); first | (refine wx_call0 (wt_none rfl) rfl rfl rfl rfl (q18 _ gr_A wf_A) rfl rfl ?_; rintro _ _ ⟨rfl, hq⟩; all_goals ((try (have hqn := hq.nx)); (try simp only [H.nx_push, H.nx_set, H.nx_bump] at hqn))) | (refine wx_call0 (wt_none rfl) rfl rfl rfl rfl (q30 _ gr_A wf_A) rfl rfl ?_; rintro _ _ ⟨rfl, hq⟩; all_goals ((try (have hqn := hq.nx)); (try simp only [H.nx_push, H.nx_set, H.nx_bump] at hqn)))) | with_reducible refine wx_nil0 ?_ ?_)) | with_reducible exact obl_nil | with_reducible refine obl_cons ?_ ?_ | ((with_reducible refine ik_obs ?_); first | exact obs_nil | refine obs_skip rfl ?_ | refine obs_chkn rfl rfl (op_q rfl (op_ldAgg rfl at_A Tryz.underlying45 rfl zs45 (by rfl) rfl)) ?_ | refine obs_chkn rfl rfl (op_q rfl (op_ldAgg rfl at_A Tryz.underlying54 rfl zs54 (by rfl) rfl)) ?_) | refine wc_drawB (id := 9) 7 [0, 1, 0, 0, 15, 31, 63] [0, 1, 2, 3, 4, 5, 6] (by kernel_rfl) (by kernel_rfl) rfl rfl ?_)
    exact ⟨rfl, (), within_lk ⟨rfl, rfl, rfl, rfl, rfl, rfl, rfl, rfl, rfl, rfl, rfl, rfl, rfl, rfl, rfl, rfl, rfl, trivial⟩, wf_A, gr_A, at_A, at_A, at_A, y7.grow gr_A, y9.grow gr_A, y11.grow gr_A, y13.grow gr_A, y15.grow gr_A, y17.grow gr_A⟩
  clear w0 gr0 x0 x1 x2 y7 y9 y11 y13 y15 y17 q18 q30 q17 q24 q25 q26 q27 q28 q29
  rintro _ g7 ⟨w0, gr0, x0, x1, x2, y7, y9, y11, y13, y15, y17⟩
  refine wc_mid (ι := Nat) (fun p21 => [(3, .pointer (some ⟨h.nx, 0, some 0⟩)), (4, .pointer (some ⟨h.nx + 1, 0, some 0⟩)), (5, .pointer (some ⟨h.nx + 2, 0, some 0⟩)), (7, .pointer (some ⟨p7, 0, some 0⟩)), (8, .int .i64 e1), (9, .pointer (some ⟨p9, 0, some 0⟩)), (10, .int .i64 e2), (11, .pointer (some ⟨p11, 0, some 0⟩)), (12, .int .i64 e3), (13, .pointer (some ⟨p13, 0, some 0⟩)), (14, .int .i64 e4), (15, .pointer (some ⟨p15, 0, some 0⟩)), (16, .int .i64 e1), (17, .pointer (some ⟨p17, 0, some 0⟩)), (18, .int .i64 e2), (19, .int .i64 e3), (20, .int .i64 e4), (21, .pointer (some ⟨p21, 0, some 0⟩)), (22, .pointer (some ⟨p21 + 1, 0, some 0⟩))]) (fun p21 h' => (h.nx + 2 < p21 ∧ p7 < p21 ∧ p9 < p21 ∧ p11 < p21 ∧ p13 < p21 ∧ p15 < p21 ∧ p17 < p21) ∧ Wf h' ∧ Grow h h' ∧ At h' h.nx (.cells (lnC nm x y tx ty sh nx ny px py ch a n c) 45 12 false) ∧ At h' (h.nx + 1) (.cells [.int .i64 u, .int .i64 v] 23 2 false) ∧ At h' (h.nx + 2) (.cells [.int .i64 f, .int .i64 t] 54 2 false) ∧ LnAt G h' p7 43 V1 ∧ LnAt G h' p9 43 V2 ∧ LnAt G h' p11 43 V3 ∧ LnAt G h' p13 43 V4 ∧ LnAt G h' p15 45 V1 ∧ LnAt G h' p17 45 V2 ∧ LnAt G h' p21 45 zL ∧ LnAt G h' (p21 + 1) 45 zL) ?_ ?_
  · have lx0 := x0.lt
    have lx1 := x1.lt
    have lx2 := x2.lt
    have ly7 := y7.lt
    have ly9 := y9.lt
    have ly11 := y11.lt
    have ly13 := y13.lt
    have ly15 := y15.lt
    have ly17 := y17.lt
    repeat' (first | with_reducible refine wo_nil ?_ | ((with_reducible refine wo_any ?_); ((with_reducible refine ik_alloc ?_); refine wo_op rfl (op_alloc zz43 zs43 rfl rfl rfl) rfl rfl ?_)) | with_reducible refine wc_region ?_)
    refine ⟨rfl, _, within_lk ⟨rfl, rfl, rfl, rfl, rfl, rfl, rfl, rfl, rfl, rfl, rfl, rfl, rfl, rfl, rfl, rfl, rfl, rfl, rfl, trivial⟩, ?_, wf_A, gr_A, at_A, at_A, at_A, y7.grow gr_A, y9.grow gr_A, y11.grow gr_A, y13.grow gr_A, y15.grow gr_A, y17.grow gr_A, ⟨none, 0, At.push (At.new _ _) _, .nil⟩, ⟨none, 0, At.new _ _, .nil⟩⟩
    first | omega | (simp only [H.nx_push, H.nx_set, H.nx_bump]; omega)
  clear w0 gr0 x0 x1 x2 y7 y9 y11 y13 y15 y17
  rintro p21 g8 ⟨zp21, w0, gr0, x0, x1, x2, y7, y9, y11, y13, y15, y17, y21, y22⟩
  refine wc_mid (ι := Unit) (fun _ => [(3, .pointer (some ⟨h.nx, 0, some 0⟩)), (4, .pointer (some ⟨h.nx + 1, 0, some 0⟩)), (5, .pointer (some ⟨h.nx + 2, 0, some 0⟩)), (7, .pointer (some ⟨p7, 0, some 0⟩)), (8, .int .i64 e1), (9, .pointer (some ⟨p9, 0, some 0⟩)), (10, .int .i64 e2), (11, .pointer (some ⟨p11, 0, some 0⟩)), (12, .int .i64 e3), (13, .pointer (some ⟨p13, 0, some 0⟩)), (14, .int .i64 e4), (15, .pointer (some ⟨p15, 0, some 0⟩)), (16, .int .i64 e1), (17, .pointer (some ⟨p17, 0, some 0⟩)), (18, .int .i64 e2), (19, .int .i64 e3), (20, .int .i64 e4), (21, .pointer (some ⟨p21, 0, some 0⟩)), (22, .pointer (some ⟨p21 + 1, 0, some 0⟩))]) (fun _ h' => (h.nx + 2 < p21 ∧ p7 < p21 ∧ p9 < p21 ∧ p11 < p21 ∧ p13 < p21 ∧ p15 < p21 ∧ p17 < p21) ∧ Wf h' ∧ Grow h h' ∧ At h' h.nx (.cells (lnC nm x y tx ty sh nx ny px py ch a n c) 45 12 false) ∧ At h' (h.nx + 1) (.cells [.int .i64 u, .int .i64 v] 23 2 false) ∧ At h' (h.nx + 2) (.cells [.int .i64 f, .int .i64 t] 54 2 false) ∧ LnAt G h' p7 43 V1 ∧ LnAt G h' p9 43 V2 ∧ LnAt G h' p11 43 V3 ∧ LnAt G h' p13 43 V4 ∧ LnAt G h' p15 45 V1 ∧ LnAt G h' p17 45 V2 ∧ LnAt G h' p21 45 V3 ∧ LnAt G h' (p21 + 1) 45 zL) ?_ ?_
  · have lx0 := x0.lt
    have lx1 := x1.lt
    have lx2 := x2.lt
    have ly7 := y7.lt
    have ly9 := y9.lt
    have ly11 := y11.lt
    have ly13 := y13.lt
    have ly15 := y15.lt
    have ly17 := y17.lt
    have ly22 := y22.lt
    by_cases he : e3 = 0
    · have q31 := fun (h' : H) (g : Grow h h') (w' : Wf h') => q31 h' g w' he
      rw [if_pos he] at hV3
      rw [hV3] at q31
      obtain ⟨_, _, ay, _⟩ := y21
      clear hV3 hV4 q32
      repeat' (first | with_reducible refine wo_nil ?_ | ((with_reducible refine wo_any ?_); first | ((with_reducible refine ik_move ?_); refine wo_op rfl (op_move rfl) rfl rfl ?_) | ((with_reducible refine ik_load ?_); refine wo_op rfl (op_ldAgg rfl at_A Tryz.underlying45 rfl zs45 rfl rfl) rfl rfl ?_) | ((with_reducible refine ik_store ?_); refine wo_op0 rfl (op_stAgg rfl rfl at_A zs43 rfl rfl rfl rfl) rfl ?_) | ((with_reducible refine ik_bin ?_); refine wo_op rfl (op_eql rfl rfl) rfl rfl ?_) | ((with_reducible refine ik_callv ?_); (refine wo_call rfl rfl rfl rfl (q31 _ gr_A wf_A) rfl rfl ?_; rintro _ _ ⟨⟨al, cl, rfl, sl⟩, hq⟩; all_goals ((try (have hqn := hq.nx)); (try simp only [H.nx_push, H.nx_set, H.nx_bump] at hqn))))) | with_reducible refine sq_norm ?_ | with_reducible refine wc_seq ?_ | with_reducible refine wc_region ?_ | (refine wc_if rfl (fun hb => ?_) (fun hb => dead_A hb); (try simp only [decide_eq_true_eq, decide_eq_false_iff_not, Bool.not_eq_true', Bool.not_eq_false', Int.not_lt, Int.not_le, Decidable.not_not, not_true_eq_false, not_false_eq_true, beq_self_eq_true, reduceCtorEq] at hb)))
      have ay' := At.grow ay (show Grow g8 _ from hq)
      exact ⟨rfl, (), within_lk ⟨rfl, rfl, rfl, rfl, rfl, rfl, rfl, rfl, rfl, rfl, rfl, rfl, rfl, rfl, rfl, rfl, rfl, rfl, rfl, trivial⟩, zp21, wf_A, gr_A, at_A, at_A, at_A, (y7.grow hq).set ay' (by omega) _, (y9.grow hq).set ay' (by omega) _, (y11.grow hq).set ay' (by omega) _, (y13.grow hq).set ay' (by omega) _, (y15.grow hq).set ay' (by omega) _, (y17.grow hq).set ay' (by omega) _, ⟨al, cl, At.lay lt_A, Sl.set_ne sl ay' (by decide) _⟩, (y22.grow hq).set ay' (by omega) _⟩
    · rw [if_neg he] at hV3
      repeat' (first | with_reducible refine wo_nil ?_ | ((with_reducible refine wo_any ?_); first | ((with_reducible refine ik_move ?_); refine wo_op rfl (op_move rfl) rfl rfl ?_) | ((with_reducible refine ik_bin ?_); refine wo_op rfl (op_eql rfl rfl) rfl rfl ?_)) | with_reducible refine sq_norm ?_ | with_reducible refine wc_seq ?_ | with_reducible refine wc_region ?_ | with_reducible refine wc_skip ?_ | (refine wc_if rfl (fun hb => dead_A hb) (fun hb => ?_); (try simp only [decide_eq_true_eq, decide_eq_false_iff_not, Bool.not_eq_true', Bool.not_eq_false', Int.not_lt, Int.not_le, Decidable.not_not, not_true_eq_false, not_false_eq_true, beq_self_eq_true, reduceCtorEq] at hb)))
      exact ⟨rfl, (), within_lk ⟨rfl, rfl, rfl, rfl, rfl, rfl, rfl, rfl, rfl, rfl, rfl, rfl, rfl, rfl, rfl, rfl, rfl, rfl, rfl, trivial⟩, zp21, wf_A, gr_A, at_A, at_A, at_A, y7.grow gr_A, y9.grow gr_A, y11.grow gr_A, y13.grow gr_A, y15.grow gr_A, y17.grow gr_A, by rw [← hV3]; exact y21.grow gr_A, y22.grow gr_A⟩
  clear w0 gr0 x0 x1 x2 y7 y9 y11 y13 y15 y17 y21 y22 q31
  rintro _ g9 ⟨zp21, w0, gr0, x0, x1, x2, y7, y9, y11, y13, y15, y17, y21, y22⟩
  refine wc_mid (ι := Unit) (fun _ => [(3, .pointer (some ⟨h.nx, 0, some 0⟩)), (4, .pointer (some ⟨h.nx + 1, 0, some 0⟩)), (5, .pointer (some ⟨h.nx + 2, 0, some 0⟩)), (7, .pointer (some ⟨p7, 0, some 0⟩)), (8, .int .i64 e1), (9, .pointer (some ⟨p9, 0, some 0⟩)), (10, .int .i64 e2), (11, .pointer (some ⟨p11, 0, some 0⟩)), (12, .int .i64 e3), (13, .pointer (some ⟨p13, 0, some 0⟩)), (14, .int .i64 e4), (15, .pointer (some ⟨p15, 0, some 0⟩)), (16, .int .i64 e1), (17, .pointer (some ⟨p17, 0, some 0⟩)), (18, .int .i64 e2), (19, .int .i64 e3), (20, .int .i64 e4), (21, .pointer (some ⟨p21, 0, some 0⟩)), (22, .pointer (some ⟨p21 + 1, 0, some 0⟩))]) (fun _ h' => (h.nx + 2 < p21 ∧ p7 < p21 ∧ p9 < p21 ∧ p11 < p21 ∧ p13 < p21 ∧ p15 < p21 ∧ p17 < p21) ∧ Wf h' ∧ Grow h h' ∧ At h' h.nx (.cells (lnC nm x y tx ty sh nx ny px py ch a n c) 45 12 false) ∧ At h' (h.nx + 1) (.cells [.int .i64 u, .int .i64 v] 23 2 false) ∧ At h' (h.nx + 2) (.cells [.int .i64 f, .int .i64 t] 54 2 false) ∧ LnAt G h' p7 43 V1 ∧ LnAt G h' p9 43 V2 ∧ LnAt G h' p11 43 V3 ∧ LnAt G h' p13 43 V4 ∧ LnAt G h' p15 45 V1 ∧ LnAt G h' p17 45 V2 ∧ LnAt G h' p21 45 V3 ∧ LnAt G h' (p21 + 1) 45 V4) ?_ ?_
  · have lx0 := x0.lt
    have lx1 := x1.lt
    have lx2 := x2.lt
    have ly7 := y7.lt
    have ly9 := y9.lt
    have ly11 := y11.lt
    have ly13 := y13.lt
    have ly15 := y15.lt
    have ly17 := y17.lt
    have ly21 := y21.lt
    by_cases he : e4 = 0
    · obtain ⟨k0, k1, k2, k3⟩ := k123 he
      have q32 := fun (h' : H) (g : Grow h h') (w' : Wf h') => q32 h' g w' k0 k1 k2 k3
      rw [if_pos he] at hV4
      rw [hV4] at q32
      obtain ⟨_, _, ay, _⟩ := y22
      clear hV4 hV3 k123 k0 k1 k2 k3
      repeat' (first | with_reducible refine wo_nil ?_ | ((with_reducible refine wo_any ?_); first | ((with_reducible refine ik_move ?_); refine wo_op rfl (op_move rfl) rfl rfl ?_) | ((with_reducible refine ik_load ?_); first | refine wo_op rfl (op_ldAgg rfl at_A Tryz.underlying45 rfl zs45 rfl rfl) rfl rfl ?_ | refine wo_op rfl (op_ldAgg rfl at_A Tryz.underlying54 rfl zs54 rfl rfl) rfl rfl ?_) | ((with_reducible refine ik_store ?_); refine wo_op0 rfl (op_stAgg rfl rfl at_A zs43 rfl rfl rfl rfl) rfl ?_) | ((with_reducible refine ik_bin ?_); refine wo_op rfl (op_eql rfl rfl) rfl rfl ?_) | ((with_reducible refine ik_callv ?_); (refine wo_call rfl rfl rfl rfl (q32 _ gr_A wf_A) rfl rfl ?_; rintro _ _ ⟨⟨al, cl, rfl, sl⟩, hq⟩; all_goals ((try (have hqn := hq.nx)); (try simp only [H.nx_push, H.nx_set, H.nx_bump] at hqn))))) | with_reducible refine sq_norm ?_ | with_reducible refine wc_seq ?_ | with_reducible refine wc_region ?_ | (refine wc_if rfl (fun hb => ?_) (fun hb => dead_A hb); (try simp only [decide_eq_true_eq, decide_eq_false_iff_not, Bool.not_eq_true', Bool.not_eq_false', Int.not_lt, Int.not_le, Decidable.not_not, not_true_eq_false, not_false_eq_true, beq_self_eq_true, reduceCtorEq] at hb)))
      have ay' := At.grow ay (show Grow g9 _ from hq)
      exact ⟨rfl, (), within_lk ⟨rfl, rfl, rfl, rfl, rfl, rfl, rfl, rfl, rfl, rfl, rfl, rfl, rfl, rfl, rfl, rfl, rfl, rfl, rfl, trivial⟩, zp21, wf_A, gr_A, at_A, at_A, at_A, (y7.grow hq).set ay' (by omega) _, (y9.grow hq).set ay' (by omega) _, (y11.grow hq).set ay' (by omega) _, (y13.grow hq).set ay' (by omega) _, (y15.grow hq).set ay' (by omega) _, (y17.grow hq).set ay' (by omega) _, (y21.grow hq).set ay' (by omega) _, ⟨al, cl, At.lay lt_A, Sl.set_ne sl ay' (by decide) _⟩⟩
    · rw [if_neg he] at hV4
      clear k123
      repeat' (first | with_reducible refine wo_nil ?_ | ((with_reducible refine wo_any ?_); first | ((with_reducible refine ik_move ?_); refine wo_op rfl (op_move rfl) rfl rfl ?_) | ((with_reducible refine ik_bin ?_); refine wo_op rfl (op_eql rfl rfl) rfl rfl ?_)) | with_reducible refine sq_norm ?_ | with_reducible refine wc_seq ?_ | with_reducible refine wc_region ?_ | with_reducible refine wc_skip ?_ | (refine wc_if rfl (fun hb => dead_A hb) (fun hb => ?_); (try simp only [decide_eq_true_eq, decide_eq_false_iff_not, Bool.not_eq_true', Bool.not_eq_false', Int.not_lt, Int.not_le, Decidable.not_not, not_true_eq_false, not_false_eq_true, beq_self_eq_true, reduceCtorEq] at hb)))
      exact ⟨rfl, (), within_lk ⟨rfl, rfl, rfl, rfl, rfl, rfl, rfl, rfl, rfl, rfl, rfl, rfl, rfl, rfl, rfl, rfl, rfl, rfl, rfl, trivial⟩, zp21, wf_A, gr_A, at_A, at_A, at_A, y7.grow gr_A, y9.grow gr_A, y11.grow gr_A, y13.grow gr_A, y15.grow gr_A, y17.grow gr_A, y21.grow gr_A, by rw [← hV4]; exact y22.grow gr_A⟩
  clear w0 gr0 x0 x1 x2 y7 y9 y11 y13 y15 y17 y21 y22 q32 k123 hV3 hV4
  rintro _ ga ⟨zp21, w0, gr0, x0, x1, x2, y7, y9, y11, y13, y15, y17, y21, y22⟩
  have q341 := fun (h' : H) (a : Option Addr) (c : Nat) (s' : Sl G h' 1 (.slice a V1.rf.length c) V1.rf.length (V1.rf.map (.int .i64))) => c34 (nm := V1.nm) (x := V1.x) (y := V1.y) (tx := V1.tx) (ty := V1.ty) (sh := V1.sh) (nx := V1.nx) (ny := V1.ny) (px := V1.px) (py := V1.py) (ch := V1.ch) s' (by omega)
  have q331 := fun (h' : H) (a b : Option Addr) (c d : Nat) (s' : Sl G h' 1 (.slice a V1.rf.length c) V1.rf.length (V1.rf.map (.int .i64))) (u' : Sl G h' 1 (.slice b V1.rf.length d) V1.rf.length (V1.rf.map (.int .i64))) (w' : Wf h') => c33 (nm := V1.nm) (x := V1.x) (y := V1.y) (tx := V1.tx) (ty := V1.ty) (sh := V1.sh) (nx := V1.nx) (ny := V1.ny) (px := V1.px) (py := V1.py) (ch := V1.ch) s' u' (by omega) w'
  have q342 := fun (h' : H) (a : Option Addr) (c : Nat) (s' : Sl G h' 1 (.slice a V2.rf.length c) V2.rf.length (V2.rf.map (.int .i64))) => c34 (nm := V2.nm) (x := V2.x) (y := V2.y) (tx := V2.tx) (ty := V2.ty) (sh := V2.sh) (nx := V2.nx) (ny := V2.ny) (px := V2.px) (py := V2.py) (ch := V2.ch) s' (by omega)
  have q332 := fun (h' : H) (a b : Option Addr) (c d : Nat) (s' : Sl G h' 1 (.slice a V2.rf.length c) V2.rf.length (V2.rf.map (.int .i64))) (u' : Sl G h' 1 (.slice b V2.rf.length d) V2.rf.length (V2.rf.map (.int .i64))) (w' : Wf h') => c33 (nm := V2.nm) (x := V2.x) (y := V2.y) (tx := V2.tx) (ty := V2.ty) (sh := V2.sh) (nx := V2.nx) (ny := V2.ny) (px := V2.px) (py := V2.py) (ch := V2.ch) s' u' (by omega) w'
  have q343 := fun (h' : H) (a : Option Addr) (c : Nat) (s' : Sl G h' 1 (.slice a V3.rf.length c) V3.rf.length (V3.rf.map (.int .i64))) => c34 (nm := V3.nm) (x := V3.x) (y := V3.y) (tx := V3.tx) (ty := V3.ty) (sh := V3.sh) (nx := V3.nx) (ny := V3.ny) (px := V3.px) (py := V3.py) (ch := V3.ch) s' (by omega)
  have q333 := fun (h' : H) (a b : Option Addr) (c d : Nat) (s' : Sl G h' 1 (.slice a V3.rf.length c) V3.rf.length (V3.rf.map (.int .i64))) (u' : Sl G h' 1 (.slice b V3.rf.length d) V3.rf.length (V3.rf.map (.int .i64))) (w' : Wf h') => c33 (nm := V3.nm) (x := V3.x) (y := V3.y) (tx := V3.tx) (ty := V3.ty) (sh := V3.sh) (nx := V3.nx) (ny := V3.ny) (px := V3.px) (py := V3.py) (ch := V3.ch) s' u' (by omega) w'
  have q344 := fun (h' : H) (a : Option Addr) (c : Nat) (s' : Sl G h' 1 (.slice a V4.rf.length c) V4.rf.length (V4.rf.map (.int .i64))) => c34 (nm := V4.nm) (x := V4.x) (y := V4.y) (tx := V4.tx) (ty := V4.ty) (sh := V4.sh) (nx := V4.nx) (ny := V4.ny) (px := V4.px) (py := V4.py) (ch := V4.ch) s' (by omega)
  have q334 := fun (h' : H) (a b : Option Addr) (c d : Nat) (s' : Sl G h' 1 (.slice a V4.rf.length c) V4.rf.length (V4.rf.map (.int .i64))) (u' : Sl G h' 1 (.slice b V4.rf.length d) V4.rf.length (V4.rf.map (.int .i64))) (w' : Wf h') => c33 (nm := V4.nm) (x := V4.x) (y := V4.y) (tx := V4.tx) (ty := V4.ty) (sh := V4.sh) (nx := V4.nx) (ny := V4.ny) (px := V4.px) (py := V4.py) (ch := V4.ch) s' u' (by omega) w'
  obtain ⟨a7, c7x, h7, s7⟩ := y7
  have l7 := h7.lt
  obtain ⟨a9, c9x, h9, s9⟩ := y9
  have l9 := h9.lt
  obtain ⟨a11, c11x, h11, s11⟩ := y11
  have l11 := h11.lt
  obtain ⟨a13, c13x, h13, s13⟩ := y13
  have l13 := h13.lt
  obtain ⟨a15, c15x, h15, s15⟩ := y15
  have l15 := h15.lt
  obtain ⟨a17, c17x, h17, s17⟩ := y17
  have l17 := h17.lt
  obtain ⟨a21, c21x, h21, s21⟩ := y21
  have l21 := h21.lt
  obtain ⟨a22, c22x, h22, s22⟩ := y22
  have l22 := h22.lt
  clear lnV1 lnV2 lnV3 lnV4 s
  repeat' (first | ((with_reducible refine xk_any ?_); ((with_reducible refine xk_as0 ?_); first | ((with_reducible refine xk_move ?_); refine wx_q (wt_none rfl) rfl rfl (op_q rfl (op_move rfl)) rfl rfl rfl ?_) | ((with_reducible refine xk_assign ?_); refine wx_q (wt_none rfl) rfl rfl (op_q rfl (op_assign rfl)) rfl rfl rfl ?_) | ((with_reducible refine xk_load ?_); refine wx_h0 (wt_none rfl) rfl (op_q rfl (op_ldAgg rfl at_A Tryz.underlying45 rfl zs45 rfl rfl)) rfl rfl rfl ?_) | ((with_reducible refine xk_pick ?_); refine wx_q (wt_none rfl) rfl rfl (op_q rfl (op_pickt rfl rfl)) rfl rfl rfl ?_) | ((with_reducible refine xk_callv ?_); first | (refine wx_call0 (wt_none rfl) rfl rfl rfl rfl (q341 _ _ _ (s7.grow gr_A)) rfl rfl ?_; rintro _ _ ⟨⟨a', c', rfl, s'⟩, hq⟩; all_goals ((try (have hqn := hq.nx)); (try simp only [H.nx_push, H.nx_set, H.nx_bump] at hqn))) | (refine wx_call0 (wt_none rfl) rfl rfl rfl rfl (q331 _ _ _ _ _ (s'.grow gr_A) (s15.grow gr_A) wf_A) rfl rfl ?_; rintro _ _ ⟨rfl, hq⟩; all_goals ((try (have hqn := hq.nx)); (try simp only [H.nx_push, H.nx_set, H.nx_bump] at hqn)))) | ((with_reducible refine xk_g ?_); first | ((with_reducible refine xg_move ?_); refine wx_q (wt_run rfl rfl rfl) rfl rfl (op_q rfl (op_move rfl)) rfl rfl rfl ?_) | ((with_reducible refine xg_load ?_); refine wx_h0 (wt_run rfl rfl rfl) rfl (op_q rfl (op_ldAgg rfl at_A Tryz.underlying45 rfl zs45 rfl rfl)) rfl rfl rfl ?_) | ((with_reducible refine xg_bin ?_); refine wx_q (wt_run rfl rfl rfl) rfl rfl (op_q rfl (op_eql rfl rfl)) rfl rfl rfl ?_) | ((with_reducible refine xg_callF (f := 10) ?_); refine wx_ee (wt_run rfl rfl rfl) rfl rfl (op_call rfl rfl (c10)) rfl rfl ?_) | ((with_reducible refine xg_callv ?_); first | (refine wx_call0 (wt_run rfl rfl rfl) rfl rfl rfl rfl (q342 _ _ _ (s9.grow gr_A)) rfl rfl ?_; rintro _ _ ⟨⟨a', c', rfl, s'⟩, hq⟩; all_goals ((try (have hqn := hq.nx)); (try simp only [H.nx_push, H.nx_set, H.nx_bump] at hqn))) | (refine wx_call0 (wt_run rfl rfl rfl) rfl rfl rfl rfl (q332 _ _ _ _ _ (s'.grow gr_A) (s17.grow gr_A) wf_A) rfl rfl ?_; rintro _ _ ⟨rfl, hq⟩; all_goals ((try (have hqn := hq.nx)); (try simp only [H.nx_push, H.nx_set, H.nx_bump] at hqn))) | (refine wx_call0 (wt_run rfl rfl rfl) rfl rfl rfl rfl (q343 _ _ _ (s11.grow gr_A)) rfl rfl ?_; rintro _ _ ⟨⟨a', c', rfl, s'⟩, hq⟩; all_goals ((try (have hqn := hq.nx)); (try simp only [H.nx_push, H.nx_set, H.nx_bump] at hqn))) | (refine wx_call0 (wt_run rfl rfl rfl) rfl rfl rfl rfl (q333 _ _ _ _ _ (s'.grow gr_A) (s21.grow gr_A) wf_A) rfl rfl ?_; rintro _ _ ⟨rfl, hq⟩; all_goals ((try (have hqn := hq.nx)); (try simp only [H.nx_push, H.nx_set, H.nx_bump] at hqn))) | (refine wx_call0 (wt_run rfl rfl rfl) rfl rfl rfl rfl (q344 _ _ _ (s13.grow gr_A)) rfl rfl ?_; rintro _ _ ⟨⟨a', c', rfl, s'⟩, hq⟩; all_goals ((try (have hqn := hq.nx)); (try simp only [H.nx_push, H.nx_set, H.nx_bump] at hqn))) | (refine wx_call0 (wt_run rfl rfl rfl) rfl rfl rfl rfl (q334 _ _ _ _ _ (s'.grow gr_A) (s22.grow gr_A) wf_A) rfl rfl ?_; rintro _ _ ⟨rfl, hq⟩; all_goals ((try (have hqn := hq.nx)); (try simp only [H.nx_push, H.nx_set, H.nx_bump] at hqn)))) | (refine wx_split rfl rfl rfl (fun hb => ?_) (fun hb => (of_decide_eq_false hb rfl).elim); (try simp only [decide_eq_true_eq, decide_eq_false_iff_not, Bool.not_eq_true', Bool.not_eq_false', Int.not_lt, Int.not_le, Decidable.not_not, not_true_eq_false, not_false_eq_true, beq_self_eq_true, reduceCtorEq] at hb))) | with_reducible refine wx_nil0 ?_ ?_)) | with_reducible exact obl_nil | with_reducible refine obl_cons ?_ ?_ | ((with_reducible refine ik_obs ?_); first | exact obs_nil | refine obs_skip rfl ?_ | refine obs_chkn rfl rfl (op_q rfl (op_ldAgg rfl at_A Tryz.underlying45 rfl zs45 (by rfl) rfl)) ?_) | with_reducible refine sq_norm ?_ | with_reducible refine wc_seq ?_ | with_reducible refine wc_ret ?_ | refine wc_drawB (id := 15) 46 [0, 1, 0, 7, 15, 31, 31, 127, 255, 511, 1023, 2047, 1023, 8191, 16383, 32767, 65535, 65535, 262143, 524287, 1048575, 2097151, 4194303, 2097151, 16777215, 33554431, 67108863, 134217727, 134217727, 536870911, 1073741823, 2147483647, 4294967295, 8589934591, 4294967295, 34359738367, 68719476735, 137438953471, 274877906943, 274877906943, 1099511627775, 2199023255551, 4398046511103, 8796093022207, 17592186044415, 35184372088831] [0, 1, 2, 3, 4, 5, 6, 7, 8, 9, 10, 11, 12, 13, 14, 15, 16, 17, 18, 19, 20, 21, 22, 23, 24, 25, 26, 27, 28, 29, 30, 31, 32, 33, 34, 35, 36, 37, 38, 39, 40, 41, 42, 43, 44, 45] (by kernel_rfl) (by kernel_rfl) rfl rfl ?_)
  exact rq1 rfl ⟨rfl, gr_A⟩
end Go.Proofs.YtnkmencbnoipmaaGreatDoor
