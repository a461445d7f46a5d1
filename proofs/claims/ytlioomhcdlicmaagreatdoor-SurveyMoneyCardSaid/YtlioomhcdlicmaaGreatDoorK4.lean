/- Slices of slices; lists as arguments. -/
import Derived.Test.YtlioomhcdlicmaaGreatDoorK2
import Derived.Test.YtlioomhcdlicmaaGreatDoorA6
import Derived.ChangeSlices
set_option linter.all false
/- Lists of structs made, copied and cut. -/
namespace Go.Ab
open Go
section
variable {M : Mc} {l : KL} {h h' : H} {v u : Value} {x y z : Operand} {t ty : TypeId} {b off es : Nat} {c cs vs : List Value} {e : TypeId} {s : Bool} {dd : TypeDesc} {n : Nat}
theorem op_mkAgg {k : IntKind} {by' : Nat} {z' : Value} (hx : val l x = some (.int k n)) (hy : val l y = some (.int k n)) (hu : M.P.underlying t = some (.slice e)) (hn : tsz M.P e = some es) (hb : tby M.P e = some by') (hz : tzero M.P e = some z') (hg : (gd z' && Nat.beq z'.cells.size es) = true) (hle : n * by' ≤ 70368744177664) (hle' : n ≤ 70368744177664) (hcs : z'.cells.toList = cs) :
   Op1 M (.makeSlice t x y) l h (.slice (some ⟨h.nx, 0, some 0⟩) n n) (h.push (.cells (repeatCells n cs) e es false)) := by
 simp only [Bool.and_eq_true] at hg
 refine op_makeSlice hx hy ?_
 unfold amakeSlice
 have hd : decide ((0 : Int) ≤ (n : Int) ∧ (n : Int) ≤ n ∧ (n : Int) ≤ 70368744177664 ∧ (by' : Int) * n ≤ 140737488355328) = true := by
   refine decide_eq_true ⟨by omega, by omega, by omega, ?_⟩
   rw [Int.mul_comm]
   have h1 : ((n * by' : Nat) : Int) ≤ ((70368744177664 : Nat) : Int) := Int.ofNat_le.2 hle
   rw [Int.natCast_mul] at h1
   omega
 simp only [hu, hn, hb, hz, hg.1, hg.2, hd, Bool.and_self, Int.toNat_natCast, hcs]
def cutA (es : Nat) (a : Option Addr) (c lo : Nat) : Option Addr :=
 match a with
 | none => none
 | some a => match a.spot with
   | none => some (match Nat.beq c lo with | true => a | false => aadd a (lo * es))
   | some 0 => match Nat.beq c lo with | true => some ⟨a.block, a.off, some 1⟩ | false => some (aadd a (lo * es))
   | _ => some a
theorem Sl.slice {a : Option Addr} {c : Nat} {L : List Value} (sl : Sl M.G h es (.slice a n c) n L) (hu : M.P.underlying t = some (.slice e)) (hn : tsz M.P e = some es) {lo hi : Nat} (h1 : lo ≤ hi) (h2 : hi ≤ n) {k k' : IntKind} {A B : Int} (hA : A = (lo : Int)) (hB : B = (hi : Int)) :
   aslice M.P h t (.slice a n c) (some (.int k A)) (some (.int k' B)) none = some (.slice (cutA es a c lo) (hi - lo) (c - lo)) := by
 subst hA hB
 cases sl with
 | nil =>
   have hl0 : lo = 0 := by omega
   have hh0 : hi = 0 := by omega
   subst hl0 hh0
   simp [aslice, hu, hn, optInt, asInt?, cutA]
 | end' b o =>
   have hl0 : lo = 0 := by omega
   have hh0 : hi = 0 := by omega
   subst hl0 hh0
   simp [aslice, hu, hn, optInt, asInt?, cutA]
 | mem a _ cc _ hl hc hnc ho =>
   have hd : (decide ((0 : Int) ≤ (c : Int) ∧ (c : Int) ≤ c) && decide ((0 : Int) ≤ (hi : Int) ∧ (hi : Int) ≤ (c : Int)) && decide ((0 : Int) ≤ (lo : Int) ∧ (lo : Int) ≤ (hi : Int))) = true := by
     rw [decide_eq_true (by omega), decide_eq_true (by omega), decide_eq_true (by omega)]; rfl
   by_cases hml : c = lo
   · subst hml
     have hhi : hi = c := by omega
     subst hhi
     rcases hc.spot with hs | hs
     · simp [aslice, hu, hn, optInt, asInt?, hs, bC_, cutA]
     · obtain ⟨c1, e1, s1, hg⟩ := ho hs
       simp [aslice, hu, hn, optInt, asInt?, hs, hg, bC_, cutA]
   · have hb0 : Nat.beq c lo = false := by rw [beq_dec]; simpa using hml
     rcases hc.spot with hs | hs
     · simp only [aslice, hu, hn, optInt, asInt?, Option.isNone_none, Option.isSome_some, Bool.or_self, hd, Int.toNat_natCast, hs, hb0, cutA]
     · obtain ⟨c1, e1, s1, hg⟩ := ho hs
       simp only [aslice, hu, hn, optInt, asInt?, Option.isNone_none, Option.isSome_some, Bool.or_self, hd, Int.toNat_natCast, hs, hb0, hg, bC_, cutA]
theorem Sl.part {a : Option Addr} {c : Nat} {L : List Value} {G : Base} (sl : Sl G h es (.slice a n c) n L) {lo hi : Nat} (h1 : lo ≤ hi) (h2 : hi ≤ n) : Sl G h es (.slice (cutA es a c lo) (hi - lo) (c - lo)) (hi - lo) ((L.drop (lo * es)).take ((hi - lo) * es)) := by
 cases sl with
 | nil =>
   have hl0 : lo = 0 := by omega
   have hh0 : hi = 0 := by omega
   subst hl0 hh0
   simpa [cutA] using Sl.nil
 | end' b o =>
   have hl0 : lo = 0 := by omega
   have hh0 : hi = 0 := by omega
   subst hl0 hh0
   simpa [cutA] using Sl.end' b o
 | mem a _ cc _ hl hc hnc ho =>
   have hln : ((L.drop (lo * es)).take ((hi - lo) * es)).length = (hi - lo) * es := by
     rw [List.length_take, List.length_drop, hl]
     have : (hi - lo) * es ≤ n * es - lo * es := by rw [← Nat.sub_mul]; exact Nat.mul_le_mul_right _ (by omega)
     omega
   have hcl : Cells G h (aadd a (lo * es)) ((L.drop (lo * es)).take ((hi - lo) * es)) := (hc.drop _).take _
   by_cases hml : c = lo
   · subst hml
     have hhi : hi = c := by omega
     subst hhi
     simp only [Nat.sub_self, Nat.zero_mul, List.take_zero]
     rcases hc.spot with hs | hs
     · have e : cutA es (some a) hi hi = some a := by simp [cutA, hs, bC_]
       rw [e]
       refine .mem a 0 0 [] (by simp) (hc.take 0) (Nat.le_refl _) ?_
       intro q; rw [hs] at q; cases q
     · have e : cutA es (some a) hi hi = some ⟨a.block, a.off, some 1⟩ := by simp [cutA, hs, bC_]
       rw [e]
       exact .end' _ _
   · have hb0 : Nat.beq c lo = false := by rw [beq_dec]; simpa using hml
     have e : cutA es (some a) c lo = some (aadd a (lo * es)) := by rcases hc.spot with hs | hs <;> simp [cutA, hs, hb0]
     rw [e]
     exact .mem _ _ _ _ hln hcl (by omega) (fun q => ho q)
theorem Sl.set_ne {G : Base} {es' : Nat} {w : Value} {L : List Value} (sl : Sl G h es w n L) (hat : At h b (.cells c e es' s)) (hne : es ≠ es') (o : AObj) : Sl G (h.set b o) es w n L := by
 cases sl with
 | nil => exact .nil
 | end' b o => exact .end' b o
 | mem a _ cc _ hl hc hnc ho =>
   have hb : a.spot = some 0 → a.block ≠ b := fun q e => by
     obtain ⟨c1, e1, s1, hg⟩ := ho q
     rw [e, hat.get] at hg
     cases hg
     exact hne rfl
   refine .mem a n cc L hl ⟨fun q => hc.lt q, fun i v q => ?_, hc.spot, fun q => ?_⟩ hnc fun q => ?_
   · have := hc.get i v q
     unfold acell at this ⊢
     rcases hc.spot with hs | hs
     · simp only [aadd, hs] at this ⊢; exact this
     · simp only [aadd, hs] at this ⊢
       rw [H.get_set, if_neg (hb hs)]; exact this
   · rw [H.get_set, if_neg (hb q)]; exact hc.own q
   · rw [H.get_set, if_neg (hb q)]; exact ho q
theorem Sl.kill_ne {G : Base} {es' : Nat} {w : Value} {L : List Value} (sl : Sl G h es w n L) (hat : At h b (.cells c e es' s)) (hne : es ≠ es') : Sl G (h.kill b) es w n L := by
 cases sl with
 | nil => exact .nil
 | end' b o => exact .end' b o
 | mem a _ cc _ hl hc hnc ho =>
   have hb : a.spot = some 0 → a.block ≠ b := fun q e => by
     obtain ⟨c1, e1, s1, hg⟩ := ho q
     rw [e, hat.get] at hg
     cases hg
     exact hne rfl
   refine .mem a n cc L hl ⟨fun q => hc.lt q, fun i v q => ?_, hc.spot, fun q => ?_⟩ hnc fun q => ?_
   · have := hc.get i v q
     unfold acell at this ⊢
     rcases hc.spot with hs | hs
     · simp only [aadd, hs] at this ⊢; exact this
     · simp only [aadd, hs] at this ⊢
       rw [H.get_kill, if_neg (hb hs)]; exact this
   · rw [H.get_kill, if_neg (hb q)]; exact hc.own q
   · rw [H.get_kill, if_neg (hb q)]; exact ho q
end
/- More operations of the logic: greatest and least of three, quotients, arrays as slices, two blocks laid in one drawn region. -/
section
variable {M : Mc} {l : KL} {h h1 : H} {v : Value} {x y z : Operand} {t ty : TypeId}
theorem min2_int {a b : Int} {k : IntKind} : Builtin.min2 (.int k a) (.int k b) = pure (.int k (min a b)) := by
 by_cases hab : b < a
 · have : min a b = b := by omega
   rw [this]
   simp only [Builtin.min2, if_pos hab]
 · have : min a b = a := by omega
   rw [this]
   simp only [Builtin.min2, if_neg hab]
theorem op_min {a b : Int} {k : IntKind} {tys : Array TypeId} (hx : val l x = some (.int k a)) (hy : val l y = some (.int k b)) : Op1 M (.call ⟨.builtin .min, #[x, y], tys⟩) l h (.int k (min a b)) h :=
 op_blt fun e he => by
   have h1 := he.val (x := x) (by simp [Op.operands, Call.operands]) hx
   have h2 := he.val (x := y) (by simp [Op.operands, Call.operands]) hy
   have hp : prun M.P (Builtin.min_ tys 0 ⟨[.int k a, .int k b]⟩) = some (.int k (min a b)) := by
     show prun M.P (Builtin.min2 (.int k a) (.int k b) >>= fun s => List.foldlM Builtin.min2 s []) = _
     simp only [min2_int, List.foldlM_nil]
     rfl
   simp [aop, h1, h2, gd, gnd, hp]
theorem op_sliceArr {b k n es : Nat} {e et : TypeId} {c : List Value} (hx : val l x = some (.pointer (some ⟨b, 0, some 0⟩))) (hat : At h b (.cells c et es false)) (hu : M.P.underlying t = some (.array (k + 1) e)) (hn : tsz M.P e = some n) :
   Op1 M (.slice t x none none none) l h (.slice (some ⟨b, 0, some 0⟩) (k + 1) (k + 1)) h :=
 op_slice (a := none) (b := none) (c := none) hx rfl rfl rfl (by
   have e1 : ((k + 1 : Nat) : Int).toNat = k + 1 := by omega
   have e2 : Nat.beq (k + 1) 0 = false := rfl
   have e3 : (decide (0 ≤ ((k + 1 : Nat) : Int) ∧ ((k + 1 : Nat) : Int) ≤ ((k + 1 : Nat) : Int)) && decide (0 ≤ (0 : Int) ∧ (0 : Int) ≤ ((k + 1 : Nat) : Int))) = true := by
     rw [decide_eq_true (by omega), decide_eq_true (by omega)]; rfl
   simp only [aslice, hu, optInt, hn, hat.get, e3, Int.toNat_zero, Nat.zero_mul, aadd_zero, Nat.sub_zero, e1, e2])
end
theorem none_grow {a b : H} {n : Nat} (g : Grow a b) (hlt : n < a.nx) (q : a.get n = none) : b.get n = none := (g.get n hlt).trans q
theorem none_bump {h : H} {n k : Nat} (q : h.get n = none) : (h.bump k).get n = none := q
theorem none_new {h : H} {j : Nat} (w : Wf h) : h.get (h.nx + j) = none := w _ (Nat.le_add_right _ _)
end Go.Ab
/- Slices as arguments; a world's cells as a base. -/
namespace Go.Ab
open Go Go.RowKit Go.ChangeShapes Go.WideShapes Go.ChangeAt
theorem cell_lt {w : World} {a : Addr} {v : Value} (h : w.cell? a = some v) : a.block < w.heap.size := by
 unfold World.cell? at h
 split at h
 · rename_i c _ _ hh
   exact (Array.getElem?_eq_some_iff.1 hh).1
 · cases h
theorem cell_spot {w : World} {a : Addr} {v : Value} (h : w.cell? a = some v) : a.spot = none := by
 unfold World.cell? at h
 split at h
 · split at h
   · cases h
   · rename_i q; simpa using q
 · cases h
variable {P : Program} {H' : Type} {enc : TypeId × Value → H'} {w : World} {base : Nat} {sp : Nat → Bool} {held : Bool}
end Go.Ab
/- Cells that are slices, in a base. -/
namespace Go.Ab
open Go Go.RowKit Go.ChangeShapes Go.WideShapes Go.ChangeAt
def baseV : Value → Option Value
 | .slice none l c => some (.slice none l c)
 | .slice (some a) l c => match l with
   | 0 => some (.slice (some ⟨0, 0, some 1⟩) 0 0)
   | l + 1 => match a.spot with
     | none => some (.slice (some a) (l + 1) c)
     | some _ => none
 | v => match gd v with
   | true => some v
   | false => none
theorem baseV_rel {v u : Value} (h : baseV v = some u) : VRel (fun _ => none) u v := by
 unfold baseV at h
 split at h
 · cases h; exact .nils _ _
 · split at h
   · cases h; exact .loose 0 0 _ _
   · split at h
     · rename_i hs; cases h; exact .bsl _ _ _ hs
     · cases h
 · split at h
   · rename_i hg; cases h; exact VRel.gd_refl hg
   · cases h
def wbase2 (w : World) : Base := fun a => match a.spot with
 | none => match w.cell? a with
   | some v => baseV v
   | none => none
 | some _ => none
theorem wbase2_some {w : World} {a : Addr} {v u : Value} (h : w.cell? a = some v) (g : baseV v = some u) : wbase2 w a = some u := by
 unfold wbase2
 rw [cell_spot h]
 simp only [h, g]
theorem wbase2_ok (w : World) : BaseOk w.heap.size (wbase2 w) w := by
 refine ⟨fun a v e => ?_, Nat.le_refl _⟩
 unfold wbase2 at e
 split at e
 · rename_i hs
   split at e
   · rename_i u hu
     exact ⟨hs, cell_lt hu, u, hu, baseV_rel e⟩
   · cases e
 · cases e
theorem baseV_gd {v : Value} (g : gd v = true) : baseV v = some v := by
 unfold baseV
 split
 · rfl
 · simp [gd, gnd] at g
 · rw [g]
/- Lists of structs as arguments: their cells in a base. -/
variable {P : Program} {H' : Type} {enc : TypeId × Value → H'} {w : World} {base : Nat} {sp : Nat → Bool} {held : Bool}
theorem flat_get {α : Type} (f : α → List Value) {es : Nat} (hes : es ≠ 0) (hf : ∀ a, (f a).length = es) : ∀ (l : List α) (q : Nat) (v : Value), (l.flatMap f)[q]? = some v → ∃ i a j, q = i * es + j ∧ j < es ∧ l[i]? = some a ∧ (f a)[j]? = some v
 | [], q, v, h => by simp at h
 | a :: l, q, v, h => by
   rw [List.flatMap_cons] at h
   by_cases hq : q < es
   · rw [List.getElem?_append_left (by rw [hf]; exact hq)] at h
     exact ⟨0, a, q, by omega, hq, rfl, h⟩
   · rw [List.getElem?_append_right (by rw [hf]; omega), hf] at h
     obtain ⟨i, b, j, e1, e2, e3, e4⟩ := flat_get f hes hf l _ v h
     exact ⟨i + 1, b, j, by rw [Nat.succ_mul]; omega, e2, by simpa using e3, e4⟩
theorem trod_slN {α : Type} (f : α → List Value) (R : α → Prop) {es : Nat} (hes : es ≠ 0) (hf : ∀ a, (f a).length = es) {t e : TypeId} {fuel : Nat} {cs : List Value} {x : DataW H' × List MemPlace} (ht : P.underlying t = some (.slice e)) (hc : P.cellsOf e = es)
   (hel : ∀ (fuel : Nat) (cs : List Value) (x : DataW H' × List MemPlace), cs.length = es → DataW.trod enc P w base sp held fuel e cs = some x → ∃ y, R y ∧ ∀ (j : Nat) u, (f y)[j]? = some u → ∃ z, cs[j]? = some z ∧ baseV z = some u)
   (hfu : DataW.trod enc P w base sp held fuel t cs = some x) : ∃ (v v0 : Value) (n : Nat) (l : List α), cs = [v] ∧ baseV v = some v0 ∧ Sl (wbase2 w) H.empty es v0 n (l.flatMap f) ∧ l.length = n ∧ ∀ a ∈ l, R a := by
 rcases DataW.trod_slice ht hfu with ⟨rfl, _⟩ | ⟨a, n0, c0, elems, rest, m, _, rfl, _, hb, hl, hm, hlen, hel2, _, _⟩
 · exact ⟨_, .slice none 0 0, 0, [], rfl, rfl, .nil, rfl, fun _ h => by cases h⟩
 · refine ⟨.slice (some a) n0 c0, ?_⟩
   by_cases h0 : n0 = 0
   · subst h0
     exact ⟨.slice (some ⟨0, 0, some 1⟩) 0 0, 0, [], rfl, rfl, .end' 0 0, rfl, fun _ h => by cases h⟩
   have each : ∀ i, i < n0 → ∃ y, R y ∧ ∀ (j : Nat) u, (f y)[j]? = some u → ∃ z, w.cell? ((a.add (i * es)).add j) = some z ∧ baseV z = some u := by
     intro i hi
     obtain ⟨y, hy⟩ : ∃ y, elems[i]? = some y := ⟨_, List.getElem?_eq_getElem (by omega)⟩
     have h1 := hel2 i hi
     rw [hy, hc, Option.bind_eq_some_iff] at h1
     obtain ⟨cs', hcs', hy'⟩ := h1
     obtain ⟨_, c1, c2⟩ := World.cells?_some hcs'
     obtain ⟨q, hR, hq⟩ := hel _ _ _ c1 hy'
     refine ⟨q, hR, fun j u hj => ?_⟩
     obtain ⟨z, z1, z2⟩ := hq j u hj
     have : j < es := by rw [← hf q]; exact (List.getElem?_eq_some_iff.1 hj).1
     exact ⟨z, by rw [c2 j this]; exact z1, z2⟩
   have hs : a.spot = none := by
     obtain ⟨y0, _, hy0⟩ := each 0 (by omega)
     obtain ⟨u, hu⟩ : ∃ u, (f y0)[0]? = some u := ⟨_, List.getElem?_eq_getElem (by rw [hf]; omega)⟩
     obtain ⟨z, z1, _⟩ := hy0 0 u hu
     have := cell_spot z1
     simpa [Addr.add] using this
   have hl2 : ∀ k, k ≤ n0 → ∃ l : List α, l.length = k ∧ (∀ a ∈ l, R a) ∧ ∀ i y, l[i]? = some y → ∀ (j : Nat) u, (f y)[j]? = some u → ∃ z, w.cell? ((a.add (i * es)).add j) = some z ∧ baseV z = some u := by
     intro k
     induction k with
     | zero => exact fun _ => ⟨[], rfl, (fun _ h => by cases h), fun i y q => by simp at q⟩
     | succ k ih =>
       intro hk
       obtain ⟨l, e1, e3, e2⟩ := ih (by omega)
       obtain ⟨y, hR, hy⟩ := each k (by omega)
       refine ⟨l ++ [y], by simp [e1], fun a ha => ?_, fun i z q => ?_⟩
       · rcases List.mem_append.1 ha with ha | ha
         · exact e3 a ha
         · simp at ha; subst ha; exact hR
       · by_cases hi : i < l.length
         · rw [List.getElem?_append_left hi] at q
           exact e2 i z q
         · rw [List.getElem?_append_right (by omega)] at q
           have : i = k := by
             have := (List.getElem?_eq_some_iff.1 q).1
             simp at this
             omega
           subst this
           rw [e1, Nat.sub_self] at q
           simp at q
           subst q
           exact hy
   obtain ⟨l, e1, e3, e2⟩ := hl2 n0 (Nat.le_refl _)
   obtain ⟨n1, rfl⟩ : ∃ n1, n0 = n1 + 1 := ⟨n0 - 1, by omega⟩
   have hflen : (l.flatMap f).length = (n1 + 1) * es := by
     rw [← e1]
     clear e1 e2 e3
     induction l with
     | nil => simp
     | cons b l ih => rw [List.flatMap_cons, List.length_append, ih, hf, List.length_cons, Nat.succ_mul]; omega
   refine ⟨.slice (some a) (n1 + 1) c0, n1 + 1, l, rfl, by simp only [baseV, hs], .mem a _ c0 _ hflen ⟨(fun q => by rw [hs] at q; cases q), fun i v q => ?_, .inl hs, (fun q => by rw [hs] at q; cases q)⟩ hl (fun q => by rw [hs] at q; cases q), e1, e3⟩
   obtain ⟨k, y, j, q1, q2, q3, q4⟩ := flat_get f hes hf l i v q
   obtain ⟨z, z1, z2⟩ := e2 k y q3 j v q4
   have hadd : (a.add (k * es)).add j = aadd a i := by
     subst q1
     unfold Addr.add aadd
     obtain ⟨ab, ao, as⟩ := a
     simp only at hs
     subst hs
     split <;> split <;> simp_all <;> omega
   rw [hadd] at z1
   unfold acell
   have hs2 : (aadd a i).spot = none := hs
   rw [hs2]
   exact wbase2_some z1 z2
theorem open_slN {α : Type} (f : α → List Value) (R : α → Prop) {es : Nat} (hes : es ≠ 0) (hf : ∀ a, (f a).length = es) {t e : TypeId} {r : Reach} {b0 : Nat} {v : Value} {d : DataW H'} {ps : List MemPlace} (ht : P.underlying t = some (.slice e)) (hc : P.cellsOf e = es)
   (hel : ∀ (fuel : Nat) (cs : List Value) (x : DataW H' × List MemPlace), cs.length = es → DataW.trod enc P w base sp held fuel e cs = some x → ∃ y, R y ∧ ∀ (j : Nat) u, (f y)[j]? = some u → ∃ z, cs[j]? = some z ∧ baseV z = some u)
   (hval : Value.okWide P w r b0 t v) (hd : DataW.Trod enc P w base sp held t v d ps) : ∃ (v0 : Value) (n : Nat) (l : List α), VRel (fun _ => none) v0 v ∧ Sl (wbase2 w) H.empty es v0 n (l.flatMap f) ∧ l.length = n ∧ ∀ a ∈ l, R a := by
 have hv : ∃ a n c, v = .slice a n c := by
   simp only [Value.okWide, ht, Cell.okWide] at hval
   cases v <;> simp_all [Cell.ok]
 obtain ⟨a0, n0, c0, rfl⟩ := hv
 obtain ⟨fuel, hfu⟩ := hd
 obtain ⟨v, v0, n, l, e1, e2, e3⟩ := trod_slN f R hes hf ht hc hel hfu
 have e1 : [Value.slice a0 n0 c0] = [v] := e1
 cases e1
 exact ⟨v0, n, l, baseV_rel e2, e3⟩
theorem bT_ {t : TypeId} {fs : Array Field} {fuel : Nat} {cs : List Value} {x : DataW H' × List MemPlace} (ht : P.underlying t = some (.struct fs)) (h : DataW.trod enc P w base sp held fuel t cs = some x) :
   cs.length = P.cellsOf t ∧ ∀ f ∈ fs.toList, ∃ fuel' y, DataW.trod enc P w base sp held fuel' f.type ((cs.drop f.offset).take (P.cellsOf f.type)) = some y := by
 cases fuel with
 | zero => simp [DataW.trod] at h
 | succ m =>
   simp only [DataW.trod, ht] at h
   split at h
   · rename_i hl
     obtain ⟨xs, hm, _⟩ := Option.map_eq_some_iff.1 h
     refine ⟨hl, fun f hf => ?_⟩
     obtain ⟨y, q⟩ := mapM_each hm f hf
     exact ⟨m, y, q⟩
   · cases h
end Go.Ab
