/- Cover: bins by the reference; counts of bins and classes: what they are. -/
import Derived.Test.YtnkmencbnoipmaaGreatDoorC3
import Derived.Test.YtnkmencbnoipmaaGreatDoorM3
set_option linter.all false
/- Cover: bins by the reference. -/
namespace Go.Proofs.YtnkmencbnoipmaaGreatDoor
open Go Go.Ab Go.Fl
attribute [local irreducible] SeqQ BlkQ LpQ RetQ Wc Wo WD WX Op1 Op1q Op1a Cf Cl From
attribute [local irreducible] Ieee.Format.order Ieee.Format.read Ieee.Format.nearest Ieee.Format.write Ieee.Format.mul Ieee.Format.div Ieee.Format.sqrt Ieee.Datum.order Ieee.Datum.integral K U rngE firstNZ ptE errN cntE cmpI plaE griE sqD clsE clsG
set_option maxRecDepth 10000
variable {G : Base} {h : H}

end Go.Proofs.YtnkmencbnoipmaaGreatDoor

/- Counts of bins and classes: what they are. -/
namespace Go.Proofs.YtnkmencbnoipmaaGreatDoor
open Go Go.Ab Go.Fl
attribute [local irreducible] SeqQ BlkQ LpQ RetQ Wc Wo WD WX Op1 Op1q Op1a Cf Cl From
attribute [local irreducible] Ieee.Format.order Ieee.Format.read Ieee.Format.nearest Ieee.Format.write Ieee.Format.mul Ieee.Format.div Ieee.Format.sqrt Ieee.Datum.order Ieee.Datum.integral K U rngE errN cntE cmpI indE ptE plaE firstNZ numsE lnE BigP isNameB nmE ascA errL chgV chgE griE clsE clsG sqD
set_option maxRecDepth 10000
variable {G : Base} {h : H}

structure GrOk (ox oy w u p q : Int) : Prop where
  o1 : ox.natAbs ≤ 100000
  o2 : oy.natAbs ≤ 100000
  w1 : 1 ≤ w
  w2 : w ≤ 10000
  u1 : 1 ≤ u
  u2 : u ≤ 10000
  p1 : 1 ≤ p
  p2 : p ≤ 16
  q1 : 1 ≤ q
  q2 : q ≤ 16
theorem pt_in {x y L : Int} (h : ptE x y L = 0) : (-L ≤ x ∧ x ≤ L) ∧ (-L ≤ y ∧ y ≤ L) := by
  rw [ptE_eq] at h
  split at h
  · cases h
  · omega
theorem pla_in {a b c d : Int} (h : plaE a b c d = 0) : (a.natAbs ≤ 100000 ∧ b.natAbs ≤ 100000) ∧ c.natAbs ≤ 100000 ∧ d.natAbs ≤ 100000 := by
  unfold plaE at h
  have h1 := pt_in (firstNZ_zero h _ (by simp : ptE a b 100000 ∈ _))
  have h2 := pt_in (firstNZ_zero h _ (by simp : ptE c d 100000 ∈ _))
  omega
theorem gri_ok {ox oy w u p q : Int} (h : griE ox oy w u p q = 0) : GrOk ox oy w u p q := by
  unfold griE at h
  have h1 := pt_in (firstNZ_zero h _ (by simp : ptE ox oy 100000 ∈ _))
  have h2 := rng_ok (firstNZ_zero h _ (by simp : rngE w 1 10000 ∈ _))
  have h3 := rng_ok (firstNZ_zero h _ (by simp : rngE u 1 10000 ∈ _))
  have h4 := rng_ok (firstNZ_zero h _ (by simp : rngE p 1 16 ∈ _))
  have h5 := rng_ok (firstNZ_zero h _ (by simp : rngE q 1 16 ∈ _))
  exact ⟨by omega, by omega, by omega, by omega, by omega, by omega, by omega, by omega, by omega, by omega⟩
theorem gri_bins {ox oy w u p q : Int} (g : GrOk ox oy w u p q) : ∃ B : Nat, p * q = (B : Int) ∧ 1 ≤ B ∧ B ≤ 256 := by
  have m1 : 1 * 1 ≤ p * q := Int.mul_le_mul g.p1 g.q1 (by omega) (by have := g.p1; omega)
  have m2 : p * q ≤ 16 * 16 := Int.mul_le_mul g.p2 g.q2 (by have := g.q1; omega) (by omega)
  exact ⟨(p * q).toNat, by omega, by omega, by omega⟩
theorem mul_lt_stepI {a b w : Int} (hw : 0 ≤ w) (h : a < b) : a * w + w ≤ b * w := by
  have := Int.mul_le_mul_of_nonneg_right (show a + 1 ≤ b by omega) hw
  rw [Int.add_mul, Int.one_mul] at this
  exact this
theorem bin_rng {ox oy w u p q a b c d : Int} {B : Nat} (g : GrOk ox oy w u p q) (hB : p * q = (B : Int)) : -1 ≤ binI ox oy w u p q a b c d ∧ binI ox oy w u p q a b c d < B := by
  unfold binI
  have p1 := g.p1
  split
  · rename_i hin
    obtain ⟨z1, z2, z3, z4⟩ := hin
    generalize (a + c - 2 * ox) / (2 * w) = C at z1 z2 ⊢
    generalize (b + d - 2 * oy) / (2 * u) = R at z3 z4 ⊢
    have m1 : 0 ≤ R * p := Int.mul_nonneg z3 (by omega)
    have m2 := mul_lt_stepI (w := p) (by omega) z4
    rw [Int.mul_comm q p, hB] at m2
    omega
  · obtain ⟨B', e1, e2, e3⟩ := gri_bins g
    omega
theorem cls_rng : ∀ (l : List Int) (s : Int) (k : Nat), clsG l s k = -1 ∨ ((k : Int) ≤ clsG l s k ∧ clsG l s k < k + l.length)
  | [], s, k => .inl (by unfold clsG; rfl)
  | x :: l, s, k => by
    rw [clsG]
    split
    · exact .inr ⟨by omega, by simp only [List.length_cons]; omega⟩
    · rcases cls_rng l s (k + 1) with h | ⟨h1, h2⟩
      · exact .inl h
      · exact .inr ⟨by omega, by simp only [List.length_cons]; omega⟩
theorem cls_rng0 (l : List Int) (s : Int) : -1 ≤ clsG l s 0 ∧ clsG l s 0 < l.length := by
  rcases cls_rng l s 0 with h | ⟨h1, h2⟩
  · rw [h]; omega
  · omega
/-! one place more -/
def hit (b k : Int) (m : Nat) (l : List Int) : List Int := if 0 ≤ b ∧ 0 ≤ k then l.set (b * m + k).toNat (l.getD (b * m + k).toNat 0 + 1) else l
theorem hit_no {b k : Int} {m : Nat} {l : List Int} (h : ¬(0 ≤ b ∧ 0 ≤ k)) : hit b k m l = l := if_neg h
theorem hit_at {b k : Int} {m o : Nat} {l : List Int} (h1 : 0 ≤ b) (h2 : 0 ≤ k) (ho : b * m + k = (o : Int)) : hit b k m l = l.set o (l.getD o 0 + 1) := by
  unfold hit; rw [if_pos ⟨h1, h2⟩, ho]; rfl
theorem hit_idx {b k : Int} {B m N : Nat} (h1 : 0 ≤ b) (h2 : 0 ≤ k) (hb : b < B) (hk : k < m) (hN : B * m = N) : ∃ o : Nat, b * m + k = (o : Int) ∧ o < N := by
  have m1 : 0 ≤ b * (m : Int) := Int.mul_nonneg h1 (by omega)
  have m2 := mul_lt_stepI (w := (m : Int)) (by omega) hb
  rw [show (B : Int) * (m : Int) = (N : Int) by rw [← hN]; exact (Int.natCast_mul B m).symm] at m2
  exact ⟨(b * m + k).toNat, by omega, by omega⟩
theorem hit_len {b k : Int} {m : Nat} {l : List Int} : (hit b k m l).length = l.length := by
  unfold hit; split
  · exact List.length_set
  · rfl
def AllIn (M : Nat) (l : List Int) : Prop := ∀ x ∈ l, 0 ≤ x ∧ x ≤ (M : Int)
theorem AllIn.getD {M : Nat} {l : List Int} (h : AllIn M l) (i : Nat) : 0 ≤ l.getD i 0 ∧ l.getD i 0 ≤ (M : Int) := by
  by_cases hi : i < l.length
  · rw [← getElem_getD hi]; exact h _ (List.getElem_mem hi)
  · rw [show l.getD i 0 = 0 by simp [List.getD, List.getElem?_eq_none (show l.length ≤ i by omega)]]; omega
theorem AllIn.le {M K : Nat} {l : List Int} (h : AllIn M l) (hk : M ≤ K) : AllIn K l := fun x hx => by have := h x hx; omega
theorem AllIn.hit {M : Nat} {l : List Int} (h : AllIn M l) (b k : Int) (m : Nat) : AllIn (M + 1) (hit b k m l) := by
  unfold Go.Proofs.YtnkmencbnoipmaaGreatDoor.hit
  split
  · intro x hx
    rcases List.mem_or_eq_of_mem_set hx with hx | rfl
    · have := h x hx; omega
    · have := h.getD (b * m + k).toNat; omega
  · exact h.le (by omega)
theorem allIn_zero (N : Nat) : AllIn 0 (List.replicate N 0) := fun x hx => by rw [List.eq_of_mem_replicate hx]; omega
def stepP (ox oy w u p q : Int) (cl : List Int) (l : List Int) (P : Pl) : List Int := hit (binI ox oy w u p q P.x P.y P.u P.v) (clsG cl (sqD P.x P.y P.u P.v) 0) cl.length l
def covP (ox oy w u p q : Int) (cl : List Int) (l : List Int) (ps : List Pl) : List Int := ps.foldl (stepP ox oy w u p q cl) l
def plsV (V : LnV) : List Pl := plsP V.x V.y V.tx V.ty V.nx V.ny V.px V.py V.rf V.ch.toNat V.sh.toNat
def covV (ox oy w u p q : Int) (cl : List Int) (N : Nat) (vs : List LnV) : List Int := vs.foldl (fun l V => covP ox oy w u p q cl l (plsV V)) (List.replicate N 0)
theorem covP_snoc {ox oy w u p q : Int} {cl l : List Int} {ps : List Pl} {P : Pl} : covP ox oy w u p q cl l (ps ++ [P]) = stepP ox oy w u p q cl (covP ox oy w u p q cl l ps) P := by unfold covP; rw [List.foldl_append]; rfl
theorem covP_nil {ox oy w u p q : Int} {cl l : List Int} : covP ox oy w u p q cl l [] = l := rfl
theorem covP_len {ox oy w u p q : Int} {cl : List Int} : ∀ {ps : List Pl} {l : List Int}, (covP ox oy w u p q cl l ps).length = l.length
  | [], _ => rfl
  | P :: ps, l => (covP_len (ps := ps) (l := stepP ox oy w u p q cl l P)).trans hit_len
theorem covP_in {ox oy w u p q : Int} {cl : List Int} : ∀ {ps : List Pl} {l : List Int} {M : Nat}, AllIn M l → AllIn (M + ps.length) (covP ox oy w u p q cl l ps)
  | [], _, _, h => h
  | P :: ps, l, M, h => (covP_in (ps := ps) (l := stepP ox oy w u p q cl l P) (M := M + 1) (h.hit _ _ _)).le (by simp only [List.length_cons]; omega)
theorem covV_snoc {ox oy w u p q : Int} {cl : List Int} {N : Nat} {vs : List LnV} {V : LnV} : covV ox oy w u p q cl N (vs ++ [V]) = covP ox oy w u p q cl (covV ox oy w u p q cl N vs) (plsV V) := by unfold covV; rw [List.foldl_append]; rfl
theorem covV_nil {ox oy w u p q : Int} {cl : List Int} {N : Nat} : covV ox oy w u p q cl N [] = List.replicate N 0 := rfl
theorem covV_len {ox oy w u p q : Int} {cl : List Int} {N : Nat} {vs : List LnV} : (covV ox oy w u p q cl N vs).length = N := by
  unfold covV
  have : ∀ (vs : List LnV) (l : List Int), (vs.foldl (fun l V => covP ox oy w u p q cl l (plsV V)) l).length = l.length := by
    intro vs
    induction vs with
    | nil => intro l; rfl
    | cons V vs ih => intro l; exact (ih _).trans covP_len
  rw [this, List.length_replicate]
theorem plsV_len {V : LnV} (h : errL V = 0) : (plsV V).length ≤ 1024 := by
  obtain ⟨nm, x, y, tx, ty, sh, nx, ny, px, py, ch, rf⟩ := V
  rw [errL_eq] at h
  obtain ⟨sh, ch, rfl, rfl, _, _, bd⟩ := nums_lnok (lnE_inv h).2.1
  have hb : sh * ch ≤ 64 * 16 := Nat.mul_le_mul bd.hS bd.hC
  exact Nat.le_trans (plsP_len (x := x) (y := y) (tx := tx) (ty := ty) (nx := nx) (ny := ny) (px := px) (py := py) (rf := rf) (ch := ch) sh) hb
theorem covV_in {ox oy w u p q : Int} {cl : List Int} {N : Nat} {vs : List LnV} (hv : ∀ V ∈ vs, errL V = 0) : AllIn (1024 * vs.length) (covV ox oy w u p q cl N vs) := by
  unfold covV
  have : ∀ (vs : List LnV) (l : List Int) (M : Nat), (∀ V ∈ vs, errL V = 0) → AllIn M l → AllIn (M + 1024 * vs.length) (vs.foldl (fun l V => covP ox oy w u p q cl l (plsV V)) l) := by
    intro vs
    induction vs with
    | nil => intro l M _ h; exact h
    | cons V vs ih =>
      intro l M hv h
      have h1 := plsV_len (hv V (List.mem_cons_self ..))
      exact (ih _ (M + (plsV V).length) (fun W hW => hv W (List.mem_cons_of_mem _ hW)) (covP_in h)).le (by simp only [List.length_cons]; omega)
  exact (this vs _ 0 hv (allIn_zero N)).le (by omega)
theorem pl_in {x y tx ty nx ny px py : Int} {sh ch i k : Nat} (h : ¬BigP x y tx ty nx ny px py sh ch) (hi : i < sh) (hk : k < ch) : ((plAt x y tx ty nx ny px py i k).x.natAbs ≤ 100000 ∧ (plAt x y tx ty nx ny px py i k).y.natAbs ≤ 100000) ∧ (plAt x y tx ty nx ny px py i k).u.natAbs ≤ 100000 ∧ (plAt x y tx ty nx ny px py i k).v.natAbs ≤ 100000 :=
  pla_in (Classical.byContradiction fun q => h (by unfold BigP; exact ⟨i, k, hi, hk, q⟩))
theorem outI_zero {x y tx ty nx ny px py : Int} {rf : List Int} {ch : Nat} : outI x y tx ty nx ny px py rf ch 0 0 = [] := by unfold outI plsP; rw [rowP_0]; rfl
theorem outI_end {x y tx ty nx ny px py : Int} {rf : List Int} {ch sh : Nat} : outI x y tx ty nx ny px py rf ch sh 0 = plsP x y tx ty nx ny px py rf ch sh := by unfold outI; rw [rowP_0, List.append_nil]
theorem lins_ok : ∀ {l : List LnV} {tl : List ByteArray}, linsE l tl = 0 → ∀ V ∈ l, errL V = 0
  | L :: l, tl, h, V, hV => by
    unfold linsE at h
    split at h
    · rename_i h1; exact absurd h h1
    · rename_i h1
      split at h
      · cases h
      · rcases List.mem_cons.1 hV with rfl | hV
        · exact Classical.byContradiction h1
        · exact lins_ok h V hV
/-- A list of numbers of one's own. -/
def OwI (lo : Nat) (h : H) (r : Value) (l : List Int) : Prop := ∃ e, lo ≤ e ∧ r = .slice (some ⟨e, 0, some 0⟩) l.length l.length ∧ At h e (.cells (l.map (.int .i64)) 3 1 false)
theorem OwI.sl {lo : Nat} {h : H} {r : Value} {l : List Int} (o : OwI lo h r l) : Sl G h 1 r l.length (l.map (.int .i64)) := by
  obtain ⟨e, _, rfl, a⟩ := o
  exact Sl.ofAt a (by simp) (Nat.le_refl _)
theorem OwI.grow {lo : Nat} {h h' : H} {r : Value} {l : List Int} (o : OwI lo h r l) (g : Grow h h') : OwI lo h' r l := by
  obtain ⟨e, h1, h2, a⟩ := o
  exact ⟨e, h1, h2, a.grow g⟩
theorem OwI.lo {lo lo' : Nat} {h : H} {r : Value} {l : List Int} (o : OwI lo h r l) (q : lo' ≤ lo) : OwI lo' h r l := by
  obtain ⟨e, h1, h2, a⟩ := o
  exact ⟨e, Nat.le_trans q h1, h2, a⟩
theorem map_getI {l : List Int} {o : Nat} (h : o < l.length) : (l.map (Value.int .i64))[o]? = some (.int .i64 (l.getD o 0)) := by
  rw [List.getElem?_map, List.getElem?_eq_getElem h, ← getElem_getD h]; rfl
theorem map_setI {l : List Int} {o : Nat} {x : Int} : (l.map (Value.int .i64)).set o (.int .i64 x) = (l.set o x).map (.int .i64) := (List.map_set).symm
theorem c140 {ox oy w u p q : Int} (g : GrOk ox oy w u p q) (hw : Wf h) : Cf (mz G) (.func (.func 140) #[] #[]) [.agg ⟨[.int .i64 ox, .int .i64 oy, .int .i64 w, .int .i64 u, .int .i64 p, .int .i64 q]⟩] h fun r h' => r = .int .i64 (p * q) ∧ Grow h h' := by
  have m1 : 0 ≤ p * q := Int.mul_nonneg (by have := g.p1; omega) (by have := g.q1; omega)
  have m2 : p * q ≤ 16 * 16 := Int.mul_le_mul g.p2 g.q2 (by have := g.q1; omega) (by omega)
  refine cf_enter0 8 [.tmp 2] Tryz.func140 rfl rfl rfl rfl ?_
  repeat' (first | with_reducible refine wo_nil ?_ | ((with_reducible refine wo_any ?_); first | ((with_reducible refine ik_assign ?_); refine wo_op rfl (op_assign rfl) rfl rfl ?_) | ((with_reducible refine ik_box ?_); refine wo_op rfl (op_boxAgg rfl zs32 rfl) rfl rfl ?_) | ((with_reducible refine ik_fieldAddr ?_); first | refine wo_op rfl (op_fieldAddr (o := 4) rfl Tryz.underlying32 rfl zs3 rfl) rfl rfl ?_ | refine wo_op rfl (op_fieldAddr (o := 5) rfl Tryz.underlying32 rfl zs3 rfl) rfl rfl ?_) | ((with_reducible refine ik_load ?_); refine wo_op rfl (op_ldAt rfl at_A Tryz.underlying3 rfl rfl) rfl rfl ?_) | ((with_reducible refine ik_bin ?_); refine wo_op rfl (op_mul' rfl rfl (w64 (by omega) (by omega))) rfl rfl ?_)) | with_reducible refine sq_norm ?_ | with_reducible refine wc_seq ?_ | with_reducible refine wc_region ?_ | with_reducible refine wc_ret ?_)
  exact rq1 rfl ⟨rfl, gr_A⟩
end Go.Proofs.YtnkmencbnoipmaaGreatDoor
