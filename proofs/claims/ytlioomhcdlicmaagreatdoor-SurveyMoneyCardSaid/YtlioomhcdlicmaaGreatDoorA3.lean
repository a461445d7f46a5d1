/- The single operations: what the evaluator answers is what the machine does. -/
import Derived.Test.YtlioomhcdlicmaaGreatDoorA2
import Derived.IntWalk
import Derived.Laws.Append
import Derived.Lib.Strings
import Derived.Laws.Slices
set_option linter.all false
namespace Go.Ab
open Go
variable {P : Program} {B : Nat} {G : Base} {ρ : Ctx} {h h' : H} {w : World} {e : Env} {a : Act}
def Out (B : Nat) (G : Base) (ρ : Ctx) (h : H) (w : World) (v : Value) (h' : H) (nx : Next) (w' : World) : Prop :=
 ∃ v' ρ', (nx = .value v' ∨ (nx = .skip ∧ v' = undef)) ∧ VRel ρ' v v' ∧ Rep B G ρ' h' w' ∧ Step ρ h w ρ' h' w'
def Good (P : Program) (B : Nat) (G : Base) (ρ : Ctx) (h : H) (w : World) (s : Sem Next) (v : Value) (h' : H) : Prop :=
 ∃ nx w', s.run P w = .ok nx w' ∧ Out B G ρ h w v h' nx w'
def GoodV (P : Program) (B : Nat) (G : Base) (ρ : Ctx) (h : H) (w : World) (s : Sem Value) (v : Value) (h' : H) : Prop :=
 ∃ v' w' ρ', s.run P w = .ok v' w' ∧ VRel ρ' v v' ∧ Rep B G ρ' h' w' ∧ Step ρ h w ρ' h' w'
theorem GoodV.good {s : Sem Value} {v : Value} (g : GoodV P B G ρ h w s v h') : Good P B G ρ h w (do pure (.value (← s))) v h' := by
 obtain ⟨v', w', ρ', h1, h2, h3, h4⟩ := g
 exact ⟨.value v', w', by simp [h1], v', ρ', .inl rfl, h2, h3, h4⟩
theorem GoodV.still (R : Rep B G ρ h w) {s : Sem Value} {v v' : Value} (hr : s.run P w = .ok v' w) (hv : VRel ρ v v') : GoodV P B G ρ h w s v h :=
 ⟨v', w, ρ, hr, hv, R, .refl _ _ _⟩
theorem GoodV.of_run {s s' : Sem Value} {v : Value} (g : GoodV P B G ρ h w s v h') (e : s'.run P w = s.run P w) : GoodV P B G ρ h w s' v h' := by
 obtain ⟨v', w', ρ', h1, h2⟩ := g
 exact ⟨v', w', ρ', e.trans h1, h2⟩
theorem GoodV.pure_ground (R : Rep B G ρ h w) {s : Sem Value} {v : Value} (hr : prun P s = some v) (hv : gd v = true) : GoodV P B G ρ h w s v h :=
 .still R (prun_run hr w) (.gd_refl hv)
theorem LRel.nil : LRel ρ [] [] := ⟨rfl, fun j v v' x => by simp at x⟩
theorem LRel.append {a a' b b' : List Value} (x : LRel ρ a a') (y : LRel ρ b b') : LRel ρ (a ++ b) (a' ++ b') := by
 refine ⟨by simp [x.1, y.1], fun j v v' p q => ?_⟩
 rcases Nat.lt_or_ge j a.length with hj | hj
 · rw [List.getElem?_append_left hj] at p
   rw [List.getElem?_append_left (by rw [← x.1]; exact hj)] at q
   exact x.2 _ _ _ p q
 · rw [List.getElem?_append_right hj] at p
   rw [List.getElem?_append_right (by rw [← x.1]; exact hj)] at q
   rw [x.1] at p
   exact y.2 _ _ _ p q
theorem LRel.take {a a' : List Value} (x : LRel ρ a a') (n : Nat) : LRel ρ (a.take n) (a'.take n) := by
 refine ⟨by simp [x.1], fun j v v' p q => ?_⟩
 rw [List.getElem?_take] at p q
 split at p
 · rename_i hj
   rw [if_pos hj] at q
   exact x.2 _ _ _ p q
 · cases p
theorem LRel.drop {a a' : List Value} (x : LRel ρ a a') (n : Nat) : LRel ρ (a.drop n) (a'.drop n) := by
 refine ⟨by simp [x.1], fun j v v' p q => ?_⟩
 rw [List.getElem?_drop] at p q
 exact x.2 _ _ _ p q
theorem LRel.cons {v v' : Value} {l l' : List Value} (x : VRel ρ v v') (y : LRel ρ l l') : LRel ρ (v :: l) (v' :: l') := by
 refine ⟨by simp [y.1], fun j u u' p q => ?_⟩
 cases j with
 | zero => simp at p q; subst p; subst q; exact x
 | succ j => exact y.2 j u u' (by simpa using p) (by simpa using q)
theorem LRel.setRange {a a' b b' : List Value} (x : LRel ρ a a') (y : LRel ρ b b') (n : Nat) : LRel ρ (setRange a n b) (setRange a' n b') := by
 unfold Ab.setRange
 have := y.1
 rw [this]
 exact (x.take n).append (y.append (x.drop _))
theorem LRel.gnd {l : List Value} (n : Nat) (x : l.all (Ab.gnd n) = true) : LRel ρ l l :=
 ⟨rfl, fun j v v' p q => by rw [p] at q; cases q; exact .refl_gnd n v (List.all_eq_true.1 x v (List.mem_of_getElem? p))⟩
theorem LRel.rep {z z' : List Value} (x : LRel ρ z z') : ∀ n, LRel ρ (repeatCells n z) (repeatCells n z')
 | 0 => .nil
 | n + 1 => x.append (LRel.rep x n)
theorem cN_ (z : List Value) : ∀ n, (repeatCells n z).length = n * z.length
 | 0 => by simp [repeatCells]
 | n + 1 => by simp [repeatCells, cN_ z n, Nat.succ_mul, Nat.add_comm]
theorem VRel.cells {v v' : Value} (x : VRel ρ v v') (ht : ∀ vs, v ≠ .tuple vs) : LRel ρ v.cells.toList v'.cells.toList := by
 cases x with
 | top v => exact absurd rfl (ht _)
 | agg cs cs' hl hh => exact ⟨hl, hh⟩
 | tuple c cs cs' hl hh => exact absurd rfl (ht _)
 | skip => exact .cons .skip .nil
 | bool b => exact .cons (.bool b) .nil
 | int k n => exact .cons (.int k n) .nil
 | float k n => exact .cons (.float k n) .nil
 | complex k a b => exact .cons (.complex k a b) .nil
 | string x => exact .cons (.string x) .nil
 | nilp => exact .cons .nilp .nil
 | bptr a h => exact .cons (.bptr a h) .nil
 | optr n off i h => exact .cons (.optr n off i h) .nil
 | nils l c => exact .cons (.nils l c) .nil
 | bsl a l c h => exact .cons (.bsl a l c h) .nil
 | osl n off l c c' i h hc => exact .cons (.osl n off l c c' i h hc) .nil
 | loose n off a c' => exact .cons (.loose n off a c') .nil
 | nilm => exact .cons .nilm .nil
 | omap n i h => exact .cons (.omap n i h) .nil
 | nilFunc => exact .cons .nilFunc .nil
 | nilIface => exact .cons .nilIface .nil
 | iface t v v' h => exact .cons (.iface t v v' h) .nil
 | func f f' a a' c c' hf ha hc h1 h2 => exact .cons (.func f f' a a' c c' hf ha hc h1 h2) .nil
theorem VRel.one {v v' : Value} (x : VRel ρ v v') (h : Ab.one v = true) : v'.oneCell' = true := by
 cases x <;> first
   | rfl
   | (simp [Ab.one, undef] at h; done)
   | (simp [Ab.one, skipV] at h; done)
   | (simp [Ab.one] at h; done)
theorem LRel.ones {l l' : List Value} (x : LRel ρ l l') (h : l.all Ab.one = true) : ∀ v ∈ l', v.oneCell' = true := by
 intro v hv
 obtain ⟨j, hj⟩ := List.getElem?_of_mem hv
 have hlt : j < l.length := by rw [x.1]; exact (List.getElem?_eq_some_iff.1 hj).1
 have e : l[j]? = some l[j] := List.getElem?_eq_getElem hlt
 exact (x.2 j _ _ e hj).one (List.all_eq_true.1 h _ (List.mem_of_getElem? e))
theorem gd_cells {z : Value} (g : gd z = true) : LRel ρ z.cells.toList z.cells.toList := by
 cases z with
 | agg cs =>
   obtain ⟨cs⟩ := cs
   have : cs.all (Ab.gnd 5) = true := by simpa [Ab.gd, Ab.gnd] using g
   exact LRel.gnd 5 this
 | tuple cs => exact .cons (.gd_refl g) .nil
 | _ => exact .cons (.gd_refl g) .nil
theorem tsz_run {t : TypeId} {n : Nat} (x : tsz P t = some n) : ∃ i, P.info? t = some i ∧ i.size = n := by
 unfold tsz at x
 split at x
 · rename_i i hi; cases x; exact ⟨i, hi, rfl⟩
 · cases x
theorem tby_run {t : TypeId} {n : Nat} (x : tby P t = some n) : ∃ i, P.info? t = some i ∧ i.bytes = n := by
 unfold tby at x
 split at x
 · rename_i i hi; cases x; exact ⟨i, hi, rfl⟩
 · cases x
theorem run_tinfo {t : TypeId} {i : TypeInfo} (x : P.info? t = some i) (w : World) : (typeInfo t).run P w = .ok i w := by
 simp [typeInfo, x]
theorem bS_ {t : TypeId} {n : Nat} (x : tsz P t = some n) (w : World) : (sizeOf t).run P w = .ok n w := by
 obtain ⟨i, hi, rfl⟩ := tsz_run x
 simp [sizeOf, run_tinfo hi]
theorem cr_ {t : TypeId} {z : Value} (x : tzero P t = some z) (w : World) : (zeroValue t).run P w = .ok z w := by
 unfold tzero at x
 split at x
 · rename_i i hi; simp [zeroValue, run_tinfo hi, x]
 · cases x
theorem run_agg {t : TypeId} {d : TypeDesc} (x : P.underlying t = some d) (w : World) : (isAgg t).run P w = .ok (isAggD d) w := by
 simp only [isAgg, Sem.run_bind, run_underlying x, Result.andThen_ok]
 cases d <;> rfl
theorem new_cells (R : Rep B G ρ h w) (t : TypeId) (es : Nat) (soft : Bool) {c c' : List Value} {cr : Array Value} (hl : LRel ρ c c') (hcr : cr.toList = c' ++ List.drop c.length cr.toList)
   (hs : soft = false → cr.size = c.length) {w1 : World} (hw : w1.heap = w.heap.push (.cells cr t (0, 0))) (h1 : w1.os = w.os) (h2 : w1.tape = w.tape) (h3 : w1.output = w.output) :
   ∃ ρ', ρ' h.nx = some { blk := w.heap.size, size := c.length, es := es, rsz := cr.size, soft := soft } ∧ Sub ρ ρ' ∧
     Rep B G ρ' (h.push (.cells c t es soft)) w1 ∧ Step ρ h w ρ' (h.push (.cells c t es soft)) w1 := by
 have hsz : c.length ≤ cr.size := by
   have := congrArg List.length hcr
   simp at this
   have e := hl.1
   omega
 obtain ⟨r1, r2⟩ := R.alloc { blk := w.heap.size, size := c.length, es := es, rsz := cr.size, soft := soft } (.cells c t es soft) (.cells cr t (0, 0)) rfl (by
   obtain ⟨crl⟩ := cr
   refine .cells c crl t es soft (0, 0) rfl rfl rfl rfl hsz hs (.inl rfl) (fun j v v' x y => ?_)
   have hj : j < c.length := (List.getElem?_eq_some_iff.1 x).1
   simp only at hcr
   rw [hcr, List.getElem?_append_left (by rw [← hl.1]; exact hj)] at y
   refine (hl.2 j v v' x y).mono fun n i e => ?_
   have := R.fresh n i e
   exact (if_neg (by omega)).trans e) hw h1 h2 h3
 exact ⟨_, by simp, R.sub_of r2, r1, r2⟩
theorem good_newVar (R : Rep B G ρ h w) (t : TypeId) {n : Nat} {v v' : Value} (hv : LRel ρ v.cells.toList v'.cells.toList) (hn : v.cells.size = n) :
   GoodV P B G ρ h w (do pure (.pointer (some (← newVar t v')))) (newCells h t n v.cells.toList false).1 (newCells h t n v.cells.toList false).2 := by
 obtain ⟨ρ', r1, r2, r3, r4⟩ := new_cells R t n false (cr := v'.cells) hv (by have := hv.1; simp at this; simp [this]) (fun _ => by have := hv.1; simp at this ⊢; omega)
   (w1 := w.alloc (.cells v'.cells t)) rfl rfl rfl rfl
 refine ⟨.pointer (some ⟨w.heap.size, 0, none⟩), w.alloc (.cells v'.cells t), ρ', ?_, ?_, r3, r4⟩
 · simp [newVar, newRow]
 · exact .optr h.nx 0 _ r1
theorem good_load (R : Rep B G ρ h w) {t : TypeId} {x x' : Addr} {v : Value} (ha : ARel ρ x x') (hl : aloadVar P G h t x = some v) : GoodV P B G ρ h w (loadVar t x') v h := by
 unfold aloadVar at hl
 split at hl
 · cases hl
 · rename_i d hd
   split at hl
   · rename_i hg
     split at hl
     · rename_i n hn
       split at hl
       · rename_i l hc
         cases hl
         obtain ⟨l', h1, h2⟩ := acells_rel R ha hc
         refine .still R (v' := .agg l'.toArray) ?_ (.agg l l' h1.1 h1.2)
         simp only [loadVar, Sem.run_bind, run_agg hd, Result.andThen_ok, hg, if_true, bS_ hn, h2 P w rfl, Sem.run_pure]
       · cases hl
     · cases hl
   · rename_i hg
     obtain ⟨v', h1, h2⟩ := acell_rel R ha hl
     refine .still R (v' := v') ?_ h2
     simp only [loadVar, Sem.run_bind, run_agg hd, Result.andThen_ok, hg, Bool.false_eq_true, if_false, run_load, h1]
theorem asto_rel (R : Rep B G ρ h w) {x x' : Addr} {vs vs' : List Value} (ha : ARel ρ x x') (hv : LRel ρ vs vs') (hs : asto h x vs = some h') :
   ∃ w', (∀ P : Program, (storeCells x' vs').run P w = .ok () w') ∧ Rep B G ρ h' w' ∧ Step ρ h w ρ h' w' := by
 unfold asto at hs
 rcases ha with ⟨h1, rfl⟩ | ⟨h1, i, h2, rfl⟩
 · simp [h1] at hs
 · simp only [h1] at hs
   split at hs
   · rename_i c t es soft hg
     split at hs
     · rename_i hb
       cases hs
       simp only [Bool.and_eq_true] at hb
       obtain ⟨b1, b2⟩ := hb
       have b1 := Nat.le_of_ble_eq_true b1
       obtain ⟨j, o', g1, g2, g3, g4⟩ := R.own _ _ hg
       rw [h2] at g1; cases g1
       cases g4 with
       | cells _ c' _ _ _ fr k1 k2 k3 k4 k5 k6 k7 k8 =>
         have hlen := hv.1
         have hrun := fun P : Program => run_sto P i.blk x.off t fr vs' 0 ⟨c'⟩ w g3 (fun j a b => thawed k7 j (by omega)) (by simp; omega) (hv.ones b2)
         refine ⟨_, hrun, ?_⟩
         refine R.update hg h2 (o2' := .cells (List.take (x.off + 0) c' ++ vs' ++ List.drop (x.off + 0 + vs'.length) c').toArray t fr) ?_ (setRow_heap w i.blk _ _ t fr g3) (fun r hr => setRow_other w i.blk r _ hr) (by simp) rfl rfl rfl
         refine .cells _ _ t es soft fr ?_ k2 k3 ?_ k5 k6 k7 (fun j v v' p q => ?_)
         · simp; omega
         · simp; omega
         · have hx : LRel ρ (c.take x.off ++ (vs ++ c.drop (x.off + vs.length))) (setRange (c'.take c.length) x.off vs') := by
             have := LRel.setRange (ρ := ρ) (a := c) (a' := c'.take c.length) (b := vs) (b' := vs') ⟨by simp; omega, fun j v v' p q => by
               rw [List.getElem?_take] at q
               split at q
               · exact k8 j v v' p q
               · cases q⟩ hv x.off
             exact this
           have hj : j < c.length := by
             have := (List.getElem?_eq_some_iff.1 p).1
             simp at this; omega
           refine hx.2 j v v' p ?_
           simp only [Nat.add_zero, List.append_assoc] at q
           unfold setRange
           rw [List.take_take, List.drop_take] at *
           rw [Nat.min_eq_left (by omega)]
           rcases Nat.lt_or_ge j x.off with q1 | q1
           · rw [List.getElem?_append_left (by simp; omega)] at q ⊢
             exact q
           · rw [List.getElem?_append_right (by simp; omega)] at q ⊢
             rcases Nat.lt_or_ge (j - (c'.take x.off).length) vs'.length with q2 | q2
             · rw [List.getElem?_append_left q2] at q ⊢
               exact q
             · rw [List.getElem?_append_right q2] at q ⊢
               rw [List.getElem?_take, if_pos]
               · exact q
               · simp at q2 ⊢; omega
     · cases hs
   · cases hs
theorem good_store (R : Rep B G ρ h w) {t : TypeId} {x x' : Addr} {v v' : Value} (ha : ARel ρ x x') (hv : VRel ρ v v') (hs : astoreVar P h t x v = some h') :
   ∃ w', (storeVar t x' v').run P w = .ok () w' ∧ Rep B G ρ h' w' ∧ Step ρ h w ρ h' w' := by
 unfold astoreVar at hs
 split at hs
 · cases hs
 · rename_i hnt
   split at hs
   · rename_i n hn
     split at hs
     · rename_i hb
       have hb := Nat.eq_of_beq_eq_true hb
       have hc := hv.cells hnt
       obtain ⟨w', h1, h2, h3⟩ := asto_rel R ha hc hs
       refine ⟨w', ?_, h2, h3⟩
       have e : v'.cells.size = n := by have := hc.1; simp at this; omega
       simp only [storeVar, Sem.run_bind, bS_ hn, Result.andThen_ok]
       rw [if_neg (by omega)]
       exact h1 P
     · cases hs
   · cases hs
theorem foldl_fill (off : Nat) : ∀ (vs : List Value) (k : Nat) (cells : Array Value), off + k + vs.length ≤ cells.size →
   ((vs.zipIdx k).foldl (fun cs (c, j) => cs.setIfInBounds (off + j) c) cells).toList = cells.toList.take (off + k) ++ vs ++ cells.toList.drop (off + k + vs.length)
 | [], k, cells, _ => by simp
 | v :: vs, k, cells, hk => by
   simp only [List.length_cons] at hk
   simp only [List.zipIdx_cons, List.foldl_cons]
   rw [foldl_fill off vs (k + 1) _ (by simp; omega)]
   have e := list_seg_step cells.toList (off + k) v vs (by simp; omega)
   simpa [Array.toList_setIfInBounds, Nat.add_assoc] using e
theorem fill_rel {place : Nat → Option (Nat × Nat)} : ∀ (ps ps' : List (Nat × Value)) (cs : List Value) (cs' : Array Value) (out : List Value), LRel ρ cs cs'.toList →
   ps.length = ps'.length → (∀ (j : Nat) p p', ps[j]? = some p → ps'[j]? = some p' → p'.1 = p.1 ∧ VRel ρ p.2 p'.2) → afill place cs ps = some out →
   ∃ out', Instr.fill place cs' ps' = some out' ∧ LRel ρ out out'.toList
 | [], ps', cs, cs', out, hc, hl, _, hf => by
   simp at hl
   have : ps' = [] := List.eq_nil_of_length_eq_zero hl.symm
   subst this
   simp only [afill] at hf; cases hf
   exact ⟨cs', rfl, hc⟩
 | (i, v) :: ps, [], cs, cs', out, _, hl, _, _ => by simp at hl
 | (i, v) :: ps, (i', v') :: ps', cs, cs', out, hc, hl, hp, hf => by
   obtain ⟨e1, hv⟩ := hp 0 (i, v) (i', v') rfl rfl
   simp only at e1 hv
   subst e1
   simp only [afill] at hf
   split at hf
   · cases hf
   · rename_i hnt
     split at hf
     · cases hf
     · rename_i off size hpl
       split at hf
       · rename_i hb
         simp only [Bool.and_eq_true] at hb
         have b1 := Nat.eq_of_beq_eq_true hb.1
         have b2 := Nat.le_of_ble_eq_true hb.2
         have hcl := hv.cells hnt
         have e := hcl.1
         have e2 := hc.1
         simp at e e2
         simp only [Instr.fill, hpl]
         rw [if_neg (by simp; omega)]
         refine fill_rel ps ps' _ _ out ?_ (by simpa using hl) (fun j p p' x y => hp (j + 1) p p' (by simpa using x) (by simpa using y)) hf
         have := foldl_fill off v'.cells.toList 0 cs' (by simp; omega)
         simp only [Nat.add_zero] at this
         rw [← Array.foldl_toList, Array.toList_zipIdx, this]
         have hx := hc.setRange hcl off
         unfold setRange at hx
         simp only [List.append_assoc]
         exact hx
       · cases hf
theorem places_run : ∀ (fs : List Field) (pl : List (Nat × Nat)), aplaces P fs = some pl → (fs.mapM fun f => do pure (f.offset, ← sizeOf f.type) : Sem (List (Nat × Nat))).run P w = .ok pl w
 | [], pl, hx => by simp only [aplaces] at hx; cases hx; simp
 | f :: fs, pl, hx => by
   simp only [aplaces] at hx
   split at hx
   · rename_i n l hn hl
     cases hx
     have ih := places_run fs l hl
     simp only [List.mapM_cons, Sem.run_bind, bS_ hn, Result.andThen_ok, Sem.run_pure, ih]
   · cases hx
theorem parts_rel (E : ERel ρ e a.tmps) (ps : List (Nat × Operand)) : ∀ (j : Nat) (p p' : Nat × Value), (ps.map fun p => (p.1, aeval e p.2))[j]? = some p → (ps.map fun p => (p.1, a.eval p.2))[j]? = some p' → p'.1 = p.1 ∧ VRel ρ p.2 p'.2 := by
 intro j p p' x y
 rw [List.getElem?_map] at x y
 cases hj : ps[j]? with
 | none => rw [hj] at x; cases x
 | some q =>
   rw [hj] at x y
   cases x; cases y
   exact ⟨rfl, E.eval q.2⟩
theorem good_build (R : Rep B G ρ h w) {t : TypeId} {ps ps' : List (Nat × Value)} {v : Value} (hl : ps.length = ps'.length)
   (hp : ∀ (j : Nat) p p', ps[j]? = some p → ps'[j]? = some p' → p'.1 = p.1 ∧ VRel ρ p.2 p'.2) (hb : abuild P t ps = some v) :
   GoodV P B G ρ h w (Instr.build t ps'.toArray) v h := by
 unfold abuild at hb
 split at hb
 · cases hb
 · rename_i z hz
   split at hb
   · rename_i fields hg hu
     split at hb
     · rename_i pl hpl
       split at hb
       · rename_i cs hcs
         cases hb
         obtain ⟨out', h1, h2⟩ := fill_rel (ρ := ρ) ps ps' z.cells.toList z.cells cs (gd_cells hg) hl hp hcs
         refine .still R (v' := .agg out') ?_ (.agg cs out'.toList h2.1 h2.2)
         have hpr := places_run (w := w) fields.toList pl hpl
         simp only [Instr.build, Sem.run_bind, cr_ hz, Result.andThen_ok, run_underlying hu]
         rw [Array.mapM_eq_mapM_toList]
         simp only [Sem.run_map, hpr, Result.andThen_ok]
         have e : (fun (x : Nat) => pl.toArray[x]?) = fun (i : Nat) => pl[i]? := by funext i; simp
         simp only [e, h1, Sem.run_pure]
       · cases hb
     · cases hb
   · rename_i hg hu
     split at hb
     · rename_i n hn
       split at hb
       · rename_i cs hcs
         cases hb
         obtain ⟨out', h1, h2⟩ := fill_rel (ρ := ρ) ps ps' z.cells.toList z.cells cs (gd_cells hg) hl hp hcs
         refine .still R (v' := .agg out') ?_ (.agg cs out'.toList h2.1 h2.2)
         simp only [Instr.build, Sem.run_bind, cr_ hz, Result.andThen_ok, run_underlying hu, bS_ hn, h1, Sem.run_pure]
       · cases hb
     · cases hb
   · cases hb
theorem rep_get (z : List Value) (s : Nat) (hz : z.length = s) (hs : 0 < s) : ∀ (n j : Nat), j < n * s → (repeatCells n z)[j]? = z[j % s]?
 | 0, j, hj => by omega
 | n + 1, j, hj => by
   simp only [repeatCells]
   rcases Nat.lt_or_ge j z.length with h1 | h1
   · rw [List.getElem?_append_left h1, Nat.mod_eq_of_lt (by omega)]
   · rw [List.getElem?_append_right h1, rep_get z s hz hs n (j - z.length) (by rw [Nat.succ_mul] at hj; omega), hz, ← Nat.mod_eq_sub_mod (by omega)]
theorem range_rep (zc : Array Value) (n : Nat) : ((Array.range (n * zc.size)).map fun i => zc[i % zc.size]!).toList = repeatCells n zc.toList := by
 rcases Nat.eq_zero_or_pos zc.size with hs | hs
 · have : zc.toList = [] := by simpa using hs
   rw [this, hs]
   simp only [Nat.mul_zero]
   have hr : ∀ n, repeatCells n ([] : List Value) = [] := by
     intro n; induction n with
     | zero => rfl
     | succ n ih => simp [repeatCells, ih]
   rw [hr]; simp
 · apply List.ext_getElem?
   intro j
   rcases Nat.lt_or_ge j (n * zc.size) with hj | hj
   · rw [rep_get zc.toList zc.size (by simp) hs n j hj]
     have hm : j % zc.size < zc.size := Nat.mod_lt _ hs
     simp [hj, hm]
   · rw [List.getElem?_eq_none (by simp; omega), List.getElem?_eq_none (by rw [cN_]; simpa using hj)]
theorem good_buildSlice (R : Rep B G ρ h w) {t : TypeId} {len : Nat} {ps ps' : List (Nat × Value)} {r : Value × H} (hl : ps.length = ps'.length)
   (hp : ∀ (j : Nat) p p', ps[j]? = some p → ps'[j]? = some p' → p'.1 = p.1 ∧ VRel ρ p.2 p'.2) (hb : abuildSlice P h t len ps = some r) :
   GoodV P B G ρ h w (Instr.buildSlice t len ps'.toArray) r.1 r.2 := by
 unfold abuildSlice at hb
 split at hb
 · rename_i el hu
   split at hb
   · rename_i n z hn hz
     split at hb
     · rename_i hg
       simp only [Bool.and_eq_true] at hg
       obtain ⟨⟨g1, g2⟩, g3⟩ := hg
       have g2 := Nat.le_of_ble_eq_true g2
       have g3 := Nat.eq_of_beq_eq_true g3
       split at hb
       · rename_i cs hcs
         cases hb
         have hrep : LRel ρ (repeatCells len z.cells.toList) ((Array.range (len * n)).map fun i => z.cells[i % z.cells.size]!).toList := by
           rw [← g3, range_rep]
           exact LRel.rep (gd_cells g1) len
         obtain ⟨out', h1, h2⟩ := fill_rel (ρ := ρ) ps ps' _ _ cs hrep hl hp hcs
         obtain ⟨ρ', r1, _, r3, r4⟩ := new_cells R el n false (cr := out') h2 (by have := h2.1; simp at this; simp [this]) (fun _ => by have := h2.1; simp at this ⊢; omega)
           (w1 := w.alloc (.cells out' el)) rfl rfl rfl rfl
         refine ⟨.slice (some ⟨w.heap.size, 0, none⟩) len len, w.alloc (.cells out' el), ρ', ?_, .osl h.nx 0 len len len _ r1 (.inl rfl), r3, r4⟩
         simp only [Instr.buildSlice, Sem.run_bind, run_underlying hu, Result.andThen_ok, bS_ hn]
         rw [if_neg (by omega)]
         by_cases e0 : len * n = 0
         · have e1 : ((Array.range (len * n)).map fun i => (#[] : Array Value)[i % (#[] : Array Value).size]!) = ((Array.range (len * n)).map fun i => z.cells[i % z.cells.size]!) := by simp [e0]
           simp only [if_pos e0, Sem.run_pure, Result.andThen_ok, Sem.run_bind, e1, h1]
           simp [newRow]
         · simp only [if_neg e0, Sem.run_pure, Result.andThen_ok, Sem.run_bind, cr_ hz, h1]
           simp [newRow]
       · cases hb
     · cases hb
   · cases hb
 · cases hb
theorem good_makeSlice (R : Rep B G ρ h w) {t : TypeId} {l c : Value} {r : Value × H} (hb : amakeSlice P h t l c = some r) : GoodV P B G ρ h w (Instr.makeSlice t l c) r.1 r.2 := by
 unfold amakeSlice at hb
 split at hb
 · rename_i el k1 l k2 c hu
   split at hb
   · rename_i n by' z hn hby hz
     split at hb
     · rename_i hg
       cases hb
       simp only [Bool.and_eq_true, decide_eq_true_eq] at hg
       obtain ⟨⟨g1, g3⟩, g4, g5, g6, g7⟩ := hg
       have g3 := Nat.eq_of_beq_eq_true g3
       obtain ⟨i, hi, rfl⟩ := tby_run hby
       have hrep : LRel ρ (repeatCells c.toNat z.cells.toList) ((Array.range (c.toNat * n)).map fun i => z.cells[i % z.cells.size]!).toList := by
         rw [← g3, range_rep]
         exact LRel.rep (gd_cells g1) _
       obtain ⟨ρ', r1, _, r3, r4⟩ := new_cells R el n false (cr := (Array.range (c.toNat * n)).map fun i => z.cells[i % z.cells.size]!) hrep (by have := hrep.1; rw [List.drop_eq_nil_of_le (by omega)]; simp) (fun _ => by have := hrep.1; simp at this ⊢; omega)
         (w1 := w.alloc (.cells ((Array.range (c.toNat * n)).map fun i => z.cells[i % z.cells.size]!) el)) rfl rfl rfl rfl
       refine ⟨.slice (some ⟨w.heap.size, 0, none⟩) l.toNat c.toNat, _, ρ', ?_, .osl h.nx 0 _ _ _ _ r1 (.inl rfl), r3, r4⟩
       have w1 : IntKind.i64.wrap l = l := IntWalk.i64_in _ (by omega)
       have w2 : IntKind.i64.wrap c = c := IntWalk.i64_in _ (by omega)
       simp only [Instr.makeSlice, asInt, asIntOf, Sem.run_bind, run_underlying hu, Result.andThen_ok, Sem.run_pure, run_tinfo hi, w1, w2]
       rw [if_neg (by simp; omega)]
       by_cases e0 : c.toNat * n = 0
       · have e1 : ((Array.range (c.toNat * n)).map fun i => (#[] : Array Value)[i % (#[] : Array Value).size]!) = ((Array.range (c.toNat * n)).map fun i => z.cells[i % z.cells.size]!) := by simp [e0]
         simp only [Sem.run_bind, run_askRoom, Result.andThen_ok, bS_ hn, if_pos e0, Sem.run_pure, e1]
         simp [newRow]
       · simp only [Sem.run_bind, run_askRoom, Result.andThen_ok, bS_ hn, if_neg e0, Sem.run_pure, cr_ hz]
         simp [newRow]
     · cases hb
   · cases hb
 · cases hb
theorem good_indexAddr (R : Rep B G ρ h w) {t : TypeId} {x x' i i' : Value} {v : Value} (hx : VRel ρ x x') (hi : VRel ρ i i') (hb : aindexAddr P t x i = some v) :
   GoodV P B G ρ h w (Instr.indexAt t x' i') v h := by
 unfold aindexAddr at hb
 split at hb
 · rename_i n len el ad h1 h2
   split at hb
   · rename_i sz h3 h4
     cases hb
     simp only [decide_eq_true_eq] at h4
     obtain ⟨ad', rfl, ha⟩ := hx.pointer_inv
     unfold asInt? at h1
     split at h1
     · cases h1
       cases hi
       refine .still R (v' := .pointer (some (ad'.add (n.toNat * sz)))) ?_ (.pointer_mk (ha.add _))
       simp only [Instr.indexAt, asIntOf, Sem.run_bind, Sem.run_pure, Result.andThen_ok, run_underlying h2, Instr.sureAddr]
       rw [if_pos h4]
       simp [bS_ h3]
     · cases h1
   · cases hb
 · rename_i n el ad len c h1 h2
   split at hb
   · rename_i sz h3 h4
     cases hb
     simp only [decide_eq_true_eq] at h4
     unfold asInt? at h1
     split at h1
     · cases h1
       cases hi
       obtain ⟨ad', c', rfl, hc⟩ := hx.slice_inv
       rcases hc with ⟨ha, _⟩ | ⟨_, rfl, _⟩
       · refine .still R (v' := .pointer (some (ad'.add (n.toNat * sz)))) ?_ (.pointer_mk (ha.add _))
         simp only [Instr.indexAt, asIntOf, Sem.run_bind, Sem.run_pure, Result.andThen_ok, run_underlying h2]
         rw [if_pos h4]
         simp [bS_ h3]
       · omega
     · cases h1
   · cases hb
 · cases hb
theorem good_fieldAddr (R : Rep B G ρ h w) {s : TypeId} {x x' : Addr} {fs : Array Field} {f : Nat} {fd : Field} {n : Nat} (hx : ARel ρ x x') (h1 : P.underlying s = some (.struct fs)) (h2 : fs[f]? = some fd) (h3 : tsz P fd.type = some (n + 1)) :
   GoodV P B G ρ h w (Instr.fieldAt s (.pointer (some x')) f) (.pointer (some (aadd x fd.offset))) h := by
 refine .still R (v' := .pointer (some (x'.add fd.offset))) ?_ (.pointer_mk (hx.add _))
 simp [Instr.fieldAt, run_underlying h1, h2, Instr.sureAddr, fieldPlace, bS_ h3]
theorem good_part {t : TypeId} {cs cs' : List Value} {off : Nat} {v : Value} (hc : LRel ρ cs cs') (hb : apart P t ⟨cs⟩ off = some v) :
   ∃ v', (part t ⟨cs'⟩ off).run P w = .ok v' w ∧ VRel ρ v v' := by
 unfold apart at hb
 split at hb
 · cases hb
 · rename_i d hd
   split at hb
   · rename_i hg
     split at hb
     · rename_i n hn
       cases hb
       refine ⟨.agg (Array.extract ⟨cs'⟩ off (off + n)), by simp [part, run_agg hd, hg, bS_ hn], ?_⟩
       have e1 : Array.extract ⟨cs⟩ off (off + n) = ⟨(cs.drop off).take n⟩ := by
         apply Array.ext'; simp [List.extract_eq_take_drop]
       have e2 : Array.extract ⟨cs'⟩ off (off + n) = ⟨(cs'.drop off).take n⟩ := by
         apply Array.ext'; simp [List.extract_eq_take_drop]
       rw [e1, e2]
       exact .agg _ _ ((hc.drop off).take n).1 ((hc.drop off).take n).2
     · cases hb
   · rename_i hg
     have hlt : off < cs.length := by simpa using (Array.getElem?_eq_some_iff.1 hb).1
     have e : cs'[off]? = some (cs'[off]'(by rw [← hc.1]; exact hlt)) := List.getElem?_eq_getElem _
     refine ⟨_, ?_, hc.2 off v _ (by simpa using hb) e⟩
     simp only [part, Sem.run_bind, run_agg hd, Result.andThen_ok, hg, Bool.false_eq_true, if_false]
     simp [e]
theorem good_field (R : Rep B G ρ h w) {t : TypeId} {cs cs' : List Value} {fs : Array Field} {f : Nat} {fd : Field} {v : Value} (hc : LRel ρ cs cs') (h1 : P.underlying t = some (.struct fs)) (h2 : fs[f]? = some fd) (hb : apart P fd.type ⟨cs⟩ fd.offset = some v) :
   GoodV P B G ρ h w (Instr.field t (.agg ⟨cs'⟩) f) v h := by
 obtain ⟨v', h3, h4⟩ := good_part (w := w) hc hb
 refine .still R ?_ h4
 simp [Instr.field, run_underlying h1, h2, asAgg, h3]
theorem good_index (R : Rep B G ρ h w) {t et : TypeId} {cs cs' : List Value} {len n : Nat} {i : Int} {k : IntKind} {v : Value} (hc : LRel ρ cs cs') (h1 : P.underlying t = some (.array len et)) (h2 : tsz P et = some n)
   (h3 : 0 ≤ i ∧ i < len) (hb : apart P et ⟨cs⟩ (i.toNat * n) = some v) : GoodV P B G ρ h w (Instr.index t (.agg ⟨cs'⟩) (.int k i)) v h := by
 obtain ⟨v', h4, h5⟩ := good_part (w := w) hc hb
 refine .still R ?_ h5
 simp only [Instr.index, asIntOf, Sem.run_bind, Sem.run_pure, Result.andThen_ok, run_underlying h1]
 rw [if_pos h3]
 simp [bS_ h2, h4]
theorem good_indexStr (R : Rep B G ρ h w) {t : TypeId} {s : ByteArray} {i : Int} {k : IntKind} {b : UInt8} (h1 : P.underlying t = some .string) (h3 : 0 ≤ i) (hb : s[i.toNat]? = some b) :
   GoodV P B G ρ h w (Instr.index t (.string s) (.int k i)) (.int .u8 b.toNat) h := by
 refine .still R ?_ (.int _ _)
 simp only [Instr.index, asIntOf, Sem.run_bind, Sem.run_pure, Result.andThen_ok, run_underlying h1]
 rw [if_pos h3, hb]
 rfl
def OV (ρ : Ctx) (x x' : Option Value) : Prop := (x = none ∧ x' = none) ∨ ∃ v v', x = some v ∧ x' = some v' ∧ VRel ρ v v'
theorem asInt_inv {v v' : Value} {n : Int} (hv : VRel ρ v v') (hx : asInt? v = some n) : ∃ k, v' = .int k n := by
 unfold asInt? at hx
 split at hx
 · cases hx; cases hv; exact ⟨_, rfl⟩
 · cases hx
def orCap : Option Value → Nat → Int → Nat
 | none, c, _ => c
 | some _, _, m => m.toNat
theorem run_bounds (isSlice : Bool) {len cap capA : Nat} {lo hi mx lo' hi' mx' : Option Value} {lv hv mv : Int} (h1 : OV ρ lo lo') (h2 : OV ρ hi hi') (h3 : OV ρ mx mx')
   (k1 : optInt lo 0 = some lv) (k2 : optInt hi (len : Int) = some hv) (k3 : optInt mx (capA : Int) = some mv)
   (hc : capA ≤ cap) (hb : (mx.isNone || hi.isSome) = true) (b1 : 0 ≤ mv ∧ mv ≤ capA) (b2 : 0 ≤ hv ∧ hv ≤ mv) (b3 : 0 ≤ lv ∧ lv ≤ hv) :
   (Instr.sliceBounds isSlice len cap lo' hi' mx').run P w = .ok (lv.toNat, hv.toNat, orCap mx cap mv) w := by
 rcases h3 with ⟨rfl, rfl⟩ | ⟨vm, vm', rfl, rfl, h3⟩
 · simp only [optInt, Option.some.injEq] at k3
   subst k3
   rcases h2 with ⟨rfl, rfl⟩ | ⟨vh, vh', rfl, rfl, h2⟩
   · simp only [optInt, Option.some.injEq] at k2
     subst k2
     rcases h1 with ⟨rfl, rfl⟩ | ⟨vl, vl', rfl, rfl, h1⟩
     · simp only [optInt, Option.some.injEq] at k1
       subst k1
       simp [Instr.sliceBounds, orCap]
     · obtain ⟨kl, rfl⟩ := asInt_inv (n := lv) h1 k1
       simp only [Instr.sliceBounds, Sem.run_bind, Sem.run_pure, Result.andThen_ok]
       rw [run_sliceBound w kl lv len _ b3.1 b3.2]
       simp [orCap]
   · obtain ⟨kh, rfl⟩ := asInt_inv (n := hv) h2 k2
     rcases h1 with ⟨rfl, rfl⟩ | ⟨vl, vl', rfl, rfl, h1⟩
     · simp only [optInt, Option.some.injEq] at k1
       subst k1
       simp only [Instr.sliceBounds, Sem.run_bind, Sem.run_pure, Result.andThen_ok]
       rw [run_sliceBound w kh hv cap _ b2.1 (by omega)]
       simp [orCap]
     · obtain ⟨kl, rfl⟩ := asInt_inv (n := lv) h1 k1
       simp only [Instr.sliceBounds, Sem.run_bind, Sem.run_pure, Result.andThen_ok]
       rw [run_sliceBound w kh hv cap _ b2.1 (by omega)]
       simp only [Result.andThen_ok]
       rw [run_sliceBound w kl lv hv.toNat _ b3.1 (by omega)]
       simp [orCap]
 · obtain ⟨km, rfl⟩ := asInt_inv (n := mv) h3 k3
   rcases h2 with ⟨rfl, rfl⟩ | ⟨vh, vh', rfl, rfl, h2⟩
   · simp at hb
   · obtain ⟨kh, rfl⟩ := asInt_inv (n := hv) h2 k2
     rcases h1 with ⟨rfl, rfl⟩ | ⟨vl, vl', rfl, rfl, h1⟩
     · simp only [optInt, Option.some.injEq] at k1
       subst k1
       simp only [Instr.sliceBounds, Sem.run_bind, Sem.run_pure, Result.andThen_ok]
       rw [run_sliceBound w km mv cap _ b1.1 (by omega)]
       simp only [Result.andThen_ok]
       rw [run_sliceBound w kh hv mv.toNat _ b2.1 (by omega)]
       simp [orCap]
     · obtain ⟨kl, rfl⟩ := asInt_inv (n := lv) h1 k1
       simp only [Instr.sliceBounds, Sem.run_bind, Sem.run_pure, Result.andThen_ok]
       rw [run_sliceBound w km mv cap _ b1.1 (by omega)]
       simp only [Result.andThen_ok]
       rw [run_sliceBound w kh hv mv.toNat _ b2.1 (by omega)]
       simp only [Result.andThen_ok]
       rw [run_sliceBound w kl lv hv.toNat _ b3.1 (by omega)]
       simp [orCap]
theorem good_slice (R : Rep B G ρ h w) {t : TypeId} {x x' v : Value} {lo hi mx lo' hi' mx' : Option Value} (hx : VRel ρ x x') (h1 : OV ρ lo lo') (h2 : OV ρ hi hi') (h3 : OV ρ mx mx')
   (hb : aslice P h t x lo hi mx = some v) : GoodV P B G ρ h w (Instr.sliceAt t x' lo' hi' mx') v h := by
 unfold aslice at hb
 split at hb
 · cases hb
 · rename_i d hd
   split at hb
   · -- a string
     rename_i s
     cases hx
     split at hb
     · cases hb
     · split at hb
       · rename_i hv lv k2 k1
         split at hb
         · rename_i hg
           cases hb
           simp only [Bool.and_eq_true, decide_eq_true_eq] at hg
           obtain ⟨b2, b3⟩ := hg
           have hr := run_bounds (P := P) (w := w) (ρ := ρ) false (len := s.size) (cap := s.size) (capA := s.size) (mx := none) (mx' := none) (mv := (s.size : Int)) h1 h2 (.inl ⟨rfl, rfl⟩) k1 k2 rfl (Nat.le_refl _) (by simp) ⟨by omega, Int.le_refl _⟩ b2 b3
           have hm : mx' = none := by rcases h3 with ⟨_, e⟩ | ⟨_, _, e, _⟩; exact e; cases e
           subst hm
           refine .still R ?_ (.string _)
           simp [Instr.sliceAt, run_underlying hd, Instr.slice, hr]
         · cases hb
       · cases hb
   · -- a slice
     rename_i el ao len cap
     split at hb
     · rename_i hv lv mv n k2 k1 k3 hn
       split at hb
       · rename_i hbb hg
         simp only [Bool.and_eq_true, decide_eq_true_eq] at hg
         obtain ⟨⟨b1, b2⟩, b3⟩ := hg
         simp only at hb
         split at hb
         · cases hb
           cases hx
           have hr := run_bounds (P := P) (w := w) true (cap := cap) h1 h2 h3 k1 k2 k3 (Nat.le_refl _) hbb b1 b2 b3
           have e : orCap mx cap mv = mv.toNat := by
             cases mx with
             | none => simp only [optInt, Option.some.injEq] at k3; subst k3; simp [orCap]
             | some _ => rfl
           rw [e] at hr
           refine .still R ?_ (.nils _ _)
           simp only [Instr.sliceAt, Sem.run_bind, run_underlying hd, Result.andThen_ok, Instr.slice, hr, bS_ hn]
           simp
         · rename_i ad
           obtain ⟨ad', c', rfl, hc⟩ := hx.slice_inv
           split at hb
           · -- base
             rename_i hs
             cases hb
             have hc : ad' = ad ∧ c' = cap := by
               rcases hc with ⟨ha, hcr⟩ | ⟨e, _⟩
               · rcases ha with ⟨_, rfl⟩ | ⟨e, _⟩
                 · rcases hcr with rfl | ⟨e, _⟩
                   · exact ⟨rfl, rfl⟩
                   · rw [hs] at e; cases e
                 · rw [hs] at e; cases e
               · rw [hs] at e; cases e
             obtain ⟨rfl, rfl⟩ := hc
             have hr := run_bounds (P := P) (w := w) true (cap := c') h1 h2 h3 k1 k2 k3 (Nat.le_refl _) hbb b1 b2 b3
             have e : orCap mx c' mv = mv.toNat := by
               cases mx with
               | none => simp only [optInt, Option.some.injEq] at k3; subst k3; simp [orCap]
               | some _ => rfl
             rw [e] at hr
             have hrun : (Instr.sliceAt t (.slice (some ad') len c') lo' hi' mx').run P w = .ok (.slice (some (if mv.toNat = lv.toNat then ad' else ad'.add (lv.toNat * n))) (hv.toNat - lv.toNat) (mv.toNat - lv.toNat)) w := by
               simp only [Instr.sliceAt, Sem.run_bind, run_underlying hd, Result.andThen_ok, Instr.slice, hr, bS_ hn, Sem.run_pure]
               split <;> simp
             refine .still R hrun ?_
             cases hq : Nat.beq mv.toNat lv.toNat
             · rw [if_neg (Nat.ne_of_beq_eq_false hq)]
               rw [Addr.add_eq hs]
               have z := VRel.bsl (ρ := ρ) (aadd ad' (lv.toNat * n)) (hv.toNat - lv.toNat) (mv.toNat - lv.toNat) (by simp [aadd, hs])
               simpa [aadd, hs] using z
             · rw [if_pos (Nat.eq_of_beq_eq_true hq)]
               exact .bsl _ _ _ hs
           · -- own
             rename_i hs
             split at hb
             · rename_i c0 t0 es soft hg0
               split at hb
               · cases hb
               · rename_i hes
                 have hes := Nat.eq_of_beq_eq_true hes
                 have hcc : ARel ρ ad ad' ∧ CRel ρ ad cap c' := by
                   rcases hc with z | ⟨e, _⟩
                   · exact z
                   · rw [hs] at e; cases e
                 obtain ⟨ha, hcr⟩ := hcc
                 obtain ⟨i, o', q1, q2, q3, q4⟩ := R.own _ _ hg0
                 have hies : i.es = n := by cases q4; omega
                 have hle : cap ≤ c' := by
                   rcases hcr with rfl | ⟨_, _, _, _, _, z, _⟩
                   · exact Nat.le_refl _
                   · exact z
                 have hr := run_bounds (P := P) (w := w) true (cap := c') h1 h2 h3 k1 k2 k3 hle hbb b1 b2 b3
                 have hrun : (Instr.sliceAt t (.slice (some ad') len c') lo' hi' mx').run P w = .ok (.slice (some (if orCap mx c' mv = lv.toNat then ad' else ad'.add (lv.toNat * n))) (hv.toNat - lv.toNat) (orCap mx c' mv - lv.toNat)) w := by
                   simp only [Instr.sliceAt, Sem.run_bind, run_underlying hd, Result.andThen_ok, Instr.slice, hr, bS_ hn, Sem.run_pure]
                   split <;> simp
                 refine .still R hrun ?_
                 split at hb
                 · rename_i hq
                   have hq := Nat.eq_of_beq_eq_true hq
                   cases hb
                   have : hv.toNat - lv.toNat = 0 := by omega
                   rw [this]
                   exact .loose _ _ _ _
                 · rename_i hq
                   have hq := Nat.ne_of_beq_eq_false hq
                   cases hb
                   have hmr : mv.toNat ≤ orCap mx c' mv := by
                     cases mx with
                     | none => simp only [optInt, Option.some.injEq] at k3; subst k3; simp [orCap]; omega
                     | some _ => exact Nat.le_refl _
                   rw [if_neg (by omega)]
                   refine .slice_mk (ha.add _) ?_
                   cases mx with
                   | some _ => exact .inl rfl
                   | none =>
                     simp only [optInt, Option.some.injEq] at k3
                     subst k3
                     rcases hcr with rfl | ⟨z1, j, z2, z3, z4, z5, z6⟩
                     · exact .inl (by simp [orCap])
                     · rw [q1] at z2; cases z2
                       refine .inr ⟨by simp [aadd, hs], i, by simpa [aadd] using q1, z3, ?_, by simp [orCap]; omega, ?_⟩
                       · simp only [aadd, Int.toNat_natCast]
                         rw [hies] at z4 ⊢
                         have : lv.toNat * n + (cap - lv.toNat) * n = cap * n := by rw [← Nat.add_mul]; congr 1; omega
                         omega
                       · simp only [aadd, orCap]
                         rw [hies] at z6 ⊢
                         have : lv.toNat * n + (c' - lv.toNat) * n = c' * n := by rw [← Nat.add_mul]; congr 1; omega
                         omega
             · cases hb
           · -- loose
             rename_i hs0 hs1
             split at hb
             · rename_i hq
               cases hb
               simp only [Bool.and_eq_true] at hq
               have q1 := Nat.eq_of_beq_eq_true hq.1
               have q2 := Nat.eq_of_beq_eq_true hq.2
               have hs : ad.spot = some 1 ∧ len = 0 ∧ cap = 0 := by
                 rcases hc with ⟨ha, _⟩ | hc
                 · rcases ha with ⟨e, _⟩ | ⟨e, _⟩
                   · exact absurd e hs0
                   · exact absurd e hs1
                 · exact hc
               obtain ⟨hs, rfl, rfl⟩ := hs
               have hr := run_bounds (P := P) (w := w) true (cap := c') h1 h2 h3 k1 k2 k3 (Nat.zero_le _) hbb b1 b2 b3
               have hl0 : lv.toNat = 0 := by omega
               have hrun : ∃ a2 c2, (Instr.sliceAt t (.slice (some ad') 0 c') lo' hi' mx').run P w = .ok (.slice (some a2) 0 c2) w := by
                 refine ⟨(if orCap mx c' mv = lv.toNat then ad' else ad'.add (lv.toNat * n)), orCap mx c' mv - lv.toNat, ?_⟩
                 simp only [Instr.sliceAt, Sem.run_bind, run_underlying hd, Result.andThen_ok, Instr.slice, hr, bS_ hn, Sem.run_pure, q1]
                 split <;> simp
               obtain ⟨a2, c2, hrun⟩ := hrun
               refine .still R hrun ?_
               obtain ⟨b0, o0, s0⟩ := ad
               simp only at hs
               subst hs
               exact .loose _ _ _ _
             · cases hb
       · cases hb
     · cases hb
   · -- an array's address
     rename_i k el ad
     obtain ⟨ad', rfl, ha⟩ := hx.pointer_inv
     split at hb
     · rename_i hv lv n k2 k1 hn
       split at hb
       · rename_i hg
         simp only [Bool.and_eq_true, decide_eq_true_eq] at hg
         obtain ⟨b2, b3⟩ := hg
         have hr := run_bounds (P := P) (w := w) (ρ := ρ) false (len := k) (cap := k) (capA := k) (mx := none) (mx' := none) (mv := (k : Int)) h1 h2 (.inl ⟨rfl, rfl⟩) k1 k2 rfl (Nat.le_refl _) (by simp) ⟨by omega, Int.le_refl _⟩ b2 b3
         have hm : mx' = none := by rcases h3 with ⟨_, e⟩ | ⟨_, _, e, _⟩; exact e; cases e
         subst hm
         have hrun : (Instr.sliceAt t (.pointer (some ad')) lo' hi' none).run P w = .ok (.slice (some (if k = lv.toNat then ad' else ad'.add (lv.toNat * n))) (hv.toNat - lv.toNat) (k - lv.toNat)) w := by
           simp only [Instr.sliceAt, Sem.run_bind, run_underlying hd, Result.andThen_ok, Instr.sureAddr, Sem.run_pure, hr, bS_ hn, orCap]
         have hrel : VRel ρ (.slice (some (match Nat.beq k lv.toNat with | true => ad | false => aadd ad (lv.toNat * n))) (hv.toNat - lv.toNat) (k - lv.toNat)) (.slice (some (if k = lv.toNat then ad' else ad'.add (lv.toNat * n))) (hv.toNat - lv.toNat) (k - lv.toNat)) := by
           cases hq : Nat.beq k lv.toNat
           · rw [if_neg (Nat.ne_of_beq_eq_false hq)]
             exact .slice_mk (ha.add _) (.inl rfl)
           · rw [if_pos (Nat.eq_of_beq_eq_true hq)]
             exact .slice_mk ha (.inl rfl)
         simp only at hb
         split at hb
         · cases hb
           exact .still R hrun hrel
         · split at hb
           · cases hb
             exact .still R hrun hrel
           · cases hb
         · cases hb
       · cases hb
     · cases hb
   · cases hb
theorem first_rel (R : Rep B G ρ h w) {size n : Nat} {x x' : Value} {l : List Value} (hx : VRel ρ x x') (hf : afirst G h size n x = some l) :
   ∃ l', LRel ρ l l' ∧ ∀ (P : Program) (w2 : World), w2.heap = w.heap → (Builtin.firstCells size n x').run P w2 = .ok l'.toArray w2 := by
 unfold afirst at hf
 split at hf
 · rename_i ad len cap
   obtain ⟨ad', c', rfl, hc⟩ := hx.slice_inv
   split at hf
   · split at hf
     · rename_i hb
       cases hf
       have hn := Nat.eq_of_beq_eq_true hb
       subst hn
       exact ⟨[], .nil, fun P w2 _ => by simp [Builtin.firstCells, loadCells, loadCellsFrom]⟩
     · cases hf
   · rename_i hs
     rcases hc with ⟨ha, _⟩ | ⟨e, _⟩
     · obtain ⟨l', h1, h2⟩ := acells_rel R ha hf
       exact ⟨l', h1, fun P w2 hw => by simpa [Builtin.firstCells] using h2 P w2 hw⟩
     · exact absurd e hs
 · cases hf
   cases hx
   exact ⟨[], .nil, fun P w2 _ => by simp [Builtin.firstCells]⟩
 · rename_i s
   cases hf
   cases hx
   refine ⟨(s.data.toList.take n).map fun b => .int .u8 b.toNat, ⟨rfl, fun j v v' p q => ?_⟩, fun P w2 _ => ?_⟩
   · rw [p] at q; cases q
     rw [List.getElem?_map] at p
     cases hj : (s.data.toList.take n)[j]? with
     | none => rw [hj] at p; cases p
     | some b => rw [hj] at p; cases p; exact .int _ _
   · simp only [Builtin.firstCells, Sem.run_pure]
     congr 1
     apply Array.ext'
     rw [Array.toList_map, Lib.extract_data]
     simp
 · cases hf
theorem len_rel {x x' : Value} {n : Nat} (hx : VRel ρ x x') (hn : alen x = some n) (w : World) : (Builtin.lenOf x').run P w = .ok n w := by
 unfold alen at hn
 split at hn
 · cases hn
   cases hx <;> simp [Builtin.lenOf]
 · cases hn
   cases hx
   simp [Builtin.lenOf]
 · cases hn
theorem zeroCells_rep (zc : Array Value) (n : Nat) : (Builtin.zeroCells zc n).toList = repeatCells n zc.toList := range_rep zc n
def NewsOk (P : Program) (w : World) (z : Value) (xt : TypeId) (x' : Value) (size n : Nat) (news : List Value) : Prop :=
 (∃ k k' l, P.underlying xt = some (.int k) ∧ x' = .int k' l ∧ 0 ≤ l ∧ l ≤ 70368744177664 ∧ n = l.toNat ∧ news = (Builtin.zeroCells z.cells n).toList) ∨
 (∃ xd, P.underlying xt = some xd ∧ (∀ k, xd ≠ .int k) ∧ ∀ (w2 : World), w2.heap = w.heap → (Builtin.lenOf x').run P w2 = .ok n w2 ∧ (Builtin.firstCells size n x').run P w2 = .ok news.toArray w2)
theorem news_rel (R : Rep B G ρ h w) {xt : TypeId} {size n : Nat} {z x x' : Value} {l : List Value} (hx : VRel ρ x x') (hz : gd z = true) (hf : anews P G h xt size z.cells.toList x = some (n, l)) :
   ∃ news, LRel ρ l news ∧ NewsOk P w z xt x' size n news := by
 unfold anews at hf
 split at hf
 · rename_i k hu
   split at hf
   · rename_i k' lv
     split at hf
     · rename_i hb
       cases hf
       simp only [decide_eq_true_eq] at hb
       cases hx
       refine ⟨_, ?_, .inl ⟨k, k', lv, hu, rfl, hb.1, hb.2, rfl, rfl⟩⟩
       rw [zeroCells_rep]
       exact LRel.rep (gd_cells hz) _
     · cases hf
   · cases hf
 · rename_i xd hu hk
   split at hf
   · rename_i m hm
     split at hf
     · rename_i l2 hl2
       cases hf
       obtain ⟨l', h1, h2⟩ := first_rel R hx hl2
       refine ⟨l', h1, .inr ⟨xd, hk, fun k e => ?_, fun w2 hw => ⟨len_rel hx hm w2, h2 P w2 hw⟩⟩⟩
       subst e
       exact hu k rfl
     · cases hf
   · cases hf
 · cases hf
theorem append_fits {st xt ty el : TypeId} {i : TypeInfo} {z x' : Value} {size n sLen sCap : Nat} {news : List Value} {base : Option Addr} {w2 : World} (hu : P.underlying st = some (.slice el)) (hi : P.info? el = some i) (hz : i.zero = some z) (hsz : i.size = size)
   (hn : NewsOk P w z xt x' size n news) (hby : n * i.bytes ≤ 281474976710656) (hlen : news.length = n * size) (hzs : z.cells.size = size) (hfit : sLen + n ≤ sCap)
   (hst : ∀ ad, base = some ad → (storeCells (ad.add (sLen * size)) news).run P w = .ok () w2) (hb : base = none → w2 = w) :
   (Builtin.append_ #[st, xt] ty #[.slice base sLen sCap, x']).run P w = .ok (.slice base (sLen + n) sCap) w2 := by
 have key : ∀ (x : Sem Value), x.run P w = .ok (.slice base (sLen + n) sCap) w2 → x.run P w = .ok (.slice base (sLen + n) sCap) w2 := fun _ h => h
 rcases hn with ⟨k, k', l, h1, rfl, h2, h3, rfl, rfl⟩ | ⟨xd, h1, h2, h3⟩
 · have w1 : IntKind.i64.wrap l = l := IntWalk.i64_in _ (by omega)
   have hl : ¬ l < 0 := by omega
   have hb2 : ¬ (281474976710656 < l * (i.bytes : Int)) := by
     have : l = (l.toNat : Int) := by omega
     rw [this, ← Int.natCast_mul]
     omega
   have happ : (if l.toNat * size = 0 then (pure #[] : Sem (Array Value)) else do pure (Builtin.zeroCells (← zeroValue el).cells l.toNat)).run P w = .ok (Builtin.zeroCells z.cells l.toNat).toList.toArray w := by
     split
     · rename_i e0
       have : (Builtin.zeroCells z.cells l.toNat).toList = [] := List.eq_nil_of_length_eq_zero (by rw [hlen, e0])
       rw [this]; rfl
     · simp [zeroValue, run_tinfo hi, hz]
   simp only [Builtin.append_, List.getElem?_toArray, List.getElem?_cons_zero, List.getElem?_cons_succ, Sem.run_bind, run_underlying hu, Result.andThen_ok, sizeOf, run_tinfo hi, Sem.run_pure, hsz, run_underlying h1, if_true, asInt, asIntOf, w1]
   rw [if_neg hl]
   simp only [Sem.run_bind, Sem.run_pure, Result.andThen_ok, run_tinfo hi]
   rw [if_neg (by omega)]
   simp only [Sem.run_bind, Sem.run_pure, Result.andThen_ok, if_pos hfit, Bool.not_true, Bool.false_eq_true, if_false, happ]
   cases base with
   | none => simp [hb rfl]
   | some ad => simp [hst ad rfl]
 · obtain ⟨h4, h5⟩ := h3 w rfl
   have hm : (match xd with | .int _ => true | _ => false) = false := by
     cases xd <;> first | rfl | exact absurd rfl (h2 _)
   simp only [Builtin.append_, List.getElem?_toArray, List.getElem?_cons_zero, List.getElem?_cons_succ, Sem.run_bind, run_underlying hu, Result.andThen_ok, sizeOf, run_tinfo hi, Sem.run_pure, hsz, run_underlying h1, hm, Bool.false_eq_true, if_false, h4, if_pos hfit, Bool.not_false, if_true, h5]
   cases base with
   | none => simp [hb rfl]
   | some ad => simp [hst ad rfl]
theorem append_grows {st xt ty el : TypeId} {i : TypeInfo} {z x' : Value} {size n sLen sCap : Nat} {news olds : List Value} {base : Option Addr} (hu : P.underlying st = some (.slice el)) (hi : P.info? el = some i) (hz : i.zero = some z) (hsz : i.size = size)
   (hn : NewsOk P w z xt x' size n news) (hby : (sLen + n) * i.bytes ≤ 70368744177664) (hb0 : i.bytes ≠ 0) (hlen : news.length = n * size) (hgt : sCap < sLen + n)
   (ho : ∀ w2 : World, w2.heap = w.heap → (Builtin.firstCells size sLen (.slice base sLen sCap)).run P w2 = .ok olds.toArray w2) :
   (Builtin.append_ #[st, xt] ty #[.slice base sLen sCap, x']).run P w =
     .ok (.slice (some ⟨w.heap.size, 0, none⟩) (sLen + n) (grownCap w (sLen + n) sCap el))
       (w.drew.alloc (.cells (olds.toArray ++ news.toArray ++ Builtin.zeroCells z.cells (grownCap w (sLen + n) sCap el - (sLen + n))) el)) := by
 have hfit := growslice_fits (bytes := i.bytes) hgt (by omega)
 have hno : ¬ (sLen + n ≤ sCap) := by omega
 have hsmall : sLen + n ≤ 70368744177664 := Nat.le_trans (Nat.le_mul_of_pos_right _ (Nat.pos_of_ne_zero hb0)) hby
 have h63' : ¬ (9223372036854775807 < ((sLen : Int) + (n : Int))) := by omega
 have h48' : ¬ (281474976710656 < Builtin.nextslicecap (sLen + n) sCap * i.bytes) := by omega
 have hfo := ho w.drew rfl
 subst hsz
 rcases hn with ⟨k, k', l, h1, rfl, h2, h3, rfl, rfl⟩ | ⟨xd, h1, h2, h3⟩
 · have w1 : IntKind.i64.wrap l = l := IntWalk.i64_in _ (by omega)
   have hl : ¬ l < 0 := by omega
   have hb2 : ¬ (281474976710656 < l * (i.bytes : Int)) := by
     have e : l = (l.toNat : Int) := by omega
     rw [e, ← Int.natCast_mul]
     have : l.toNat * i.bytes ≤ (sLen + l.toNat) * i.bytes := Nat.mul_le_mul_right _ (by omega)
     omega
   have e63 : ¬ (9223372036854775807 < ((sLen : Int) + (l.toNat : Int))) := h63'
   have hc : ((l.toNat : Nat) : Int) = max l 0 := by omega
   by_cases e0 : l.toNat * i.size = 0
   · have hnil : (Builtin.zeroCells z.cells l.toNat) = #[] := by
       apply Array.ext'
       exact List.eq_nil_of_length_eq_zero (by rw [hlen, e0])
     rw [hc] at h63'
     simp [Builtin.append_, run_underlying hu, run_underlying h1, sizeOf, typeInfo, zeroValue, hi, hz, asInt, asIntOf, w1, hl, hb2, hno, h63', h48', Question.forced, hfo, newRow, grownCap, hnil]
   · rw [hc] at h63'
     simp [Builtin.append_, run_underlying hu, run_underlying h1, sizeOf, typeInfo, zeroValue, hi, hz, asInt, asIntOf, w1, hl, hb2, hno, h63', h48', Question.forced, hfo, newRow, grownCap, e0]
 · obtain ⟨h4, _⟩ := h3 w rfl
   obtain ⟨_, h5⟩ := h3 w.drew rfl
   have hm : (match xd with | .int _ => true | _ => false) = false := by
     cases xd <;> first | rfl | exact absurd rfl (h2 _)
   simp [Builtin.append_, run_underlying hu, run_underlying h1, sizeOf, typeInfo, zeroValue, hi, hz, hno, h63', h48', Question.forced, hfo, newRow, grownCap, h4, h5]
   congr 2
   apply Array.ext'
   simp
theorem grownCap_ge' (w : World) (need old : Nat) (el : TypeId) : need ≤ grownCap w need old el := by
 unfold grownCap Question.cut
 simp
theorem good_fresh (R : Rep B G ρ h w) {el : TypeId} {size need cap : Nat} {z : Value} {old old' new new' : List Value} (h1 : LRel ρ old old') (h2 : LRel ρ new new') (hl : (old ++ new).length = need * size) (hc : need ≤ cap) (hz : z.cells.size = size) {s : Sem Value}
   (hr : s.run P w = .ok (.slice (some ⟨w.heap.size, 0, none⟩) need cap) (w.drew.alloc (.cells (old'.toArray ++ new'.toArray ++ Builtin.zeroCells z.cells (cap - need)) el))) :
   GoodV P B G ρ h w s (.slice (some ⟨h.nx, 0, some 0⟩) need need) (h.push (.cells (old ++ new) el size true)) := by
 have h12 := h1.append h2
 have hsz : (old'.toArray ++ new'.toArray ++ Builtin.zeroCells z.cells (cap - need)).size = cap * size := by
   have a1 := h12.1
   have a2 : (Builtin.zeroCells z.cells (cap - need)).toList.length = (cap - need) * size := by rw [zeroCells_rep, cN_]; simp [hz]
   simp at a1 a2 hl ⊢
   rw [a2]
   have : need * size + (cap - need) * size = cap * size := by rw [← Nat.add_mul]; congr 1; omega
   omega
 obtain ⟨ρ', r1, _, r3, r4⟩ := new_cells R el size true (c := old ++ new) (c' := old' ++ new') (cr := old'.toArray ++ new'.toArray ++ Builtin.zeroCells z.cells (cap - need)) h12
   (by have a1 := h12.1; simp [a1]) (fun h => by cases h) (w1 := w.drew.alloc (.cells (old'.toArray ++ new'.toArray ++ Builtin.zeroCells z.cells (cap - need)) el)) rfl rfl rfl rfl
 refine ⟨_, _, ρ', hr, ?_, r3, r4⟩
 refine .osl h.nx 0 need need cap _ r1 (.inr ⟨rfl, ?_, hc, ?_⟩)
 · simp only [Nat.zero_add]; exact hl.symm
 · simp only [Nat.zero_add]; rw [hsz]; exact Nat.le_refl _
theorem good_append_grow (R : Rep B G ρ h w) {st xt ty el : TypeId} {i : TypeInfo} {s' x' z : Value} {base : Option Addr} {sLen sCap n : Nat} {old old' new news : List Value} {r : Value × H} (hs : VRel ρ (.slice base sLen sCap) s')
   (hold : afirst G h i.size sLen (.slice base sLen sCap) = some old)
   (hfresh : old.length = sLen * i.size → ∀ c', c' < sLen + n → ∀ b', s' = .slice b' sLen c' → GoodV P B G ρ h w (Builtin.append_ #[st, xt] ty #[s', x']) (.slice (some ⟨h.nx, 0, some 0⟩) (sLen + n) (sLen + n)) (h.push (.cells (old ++ new) el i.size true)))
   (hln : LRel ρ new news) (g7 : new.length = n * i.size) (hu : P.underlying st = some (.slice el)) (hi : P.info? el = some i) (hiz : i.zero = some z) (hok : NewsOk P w z xt x' i.size n news) (hnb : n * i.bytes ≤ 281474976710656) (hlen : news.length = n * i.size)
   (g2 : z.cells.size = i.size) (g6 : new.all one = true) (hroom : sCap < sLen + n) (ho1 : LRel ρ old old')
   (hb : agrow h el i.size sCap (sLen + n) base (old ++ new) = some r) :
   GoodV P B G ρ h w (Builtin.append_ #[st, xt] ty #[s', x']) r.1 r.2 := by
 unfold agrow at hb
 split at hb
 · cases hb
 · rename_i hq
   have hq := Nat.eq_of_beq_eq_true hq
   have hol : old.length = sLen * i.size := by
     rw [List.length_append, g7, Nat.add_mul] at hq; omega
   split at hb
   · cases hb
     cases hs
     exact hfresh hol _ hroom _ rfl
   · rename_i ad
     obtain ⟨ad', c', rfl, hc⟩ := hs.slice_inv
     split at hb
     · rename_i hsp
       cases hb
       have : c' = sCap := by
         rcases hc with ⟨_, hcr⟩ | ⟨e, _⟩
         · rcases hcr with e | ⟨e, _⟩
           · exact e
           · rw [hsp] at e; cases e
         · rw [hsp] at e; cases e
       subst this
       exact hfresh hol _ hroom _ rfl
     · rename_i hsp
       split at hb
       · rename_i c t0 es soft hg0
         have hcc : ARel ρ ad ad' ∧ CRel ρ ad sCap c' := by
           rcases hc with z | ⟨e, _⟩
           · exact z
           · rw [hsp] at e; cases e
         obtain ⟨ha, hcr⟩ := hcc
         have hai : ∃ j, ρ ad.block = some j ∧ ad' = ⟨j.blk, ad.off, none⟩ := by
           rcases ha with ⟨e, _⟩ | ⟨_, j, e1, e2⟩
           · rw [hsp] at e; cases e
           · exact ⟨j, e1, e2⟩
         obtain ⟨j, hj, rfl⟩ := hai
         obtain ⟨j2, o', q1, q2, q3, q4⟩ := R.own _ _ hg0
         rw [hj] at q1; cases q1
         split at hb
         · rename_i hsoft
           cases hb
           have : c' = sCap := by
             rcases hcr with e | ⟨_, k, k1, k2, k3, _⟩
             · exact e
             · rw [hj] at k1; cases k1
               cases q4 with
               | cells _ _ _ _ _ _ p1 p2 p3 =>
                 rw [← p2, k2, ← p3, ← p1.symm] at hsoft
                 simp [k3, p1] at hsoft
           subst this
           exact hfresh hol _ hroom _ rfl
         · rename_i hsoft
           split at hb
           · rename_i hz
             cases hb
             simp only [Bool.and_eq_true] at hz hsoft
             have z1 := Nat.eq_of_beq_eq_true hz.1.1
             have z2 := Nat.eq_of_beq_eq_true hz.1.2
             have z4 := Nat.eq_of_beq_eq_true hz.2
             have z3 := Nat.eq_of_beq_eq_true hsoft.2
             rcases Nat.lt_or_ge c' (sLen + n) with hlt | hge
             · -- a new block
               have g := hfresh hol c' hlt _ rfl
               obtain ⟨v', w', ρ', y1, y2, y3, y4⟩ := g
               obtain ⟨k1, k2⟩ := y3.killed ad.block
               have hadlt : ad.block < h.nx := R.fresh _ _ hj
               have heq : ((h.push (.cells (old ++ new) el i.size true)).kill ad.block).get = ((h.kill ad.block).push (.cells (old ++ new) el i.size true)).get := by
                 funext m
                 rw [H.get_kill, H.get_push, H.get_push, H.get_kill]
                 show _ = if m = h.nx then _ else _
                 by_cases e1 : m = ad.block
                 · rw [if_pos e1, if_neg (by omega), if_pos e1]
                 · rw [if_neg e1, if_neg e1]
               refine ⟨v', w', ρ', y1, y2, ?_, ?_⟩
               · exact ⟨k1.base, fun m o hm => k1.own m o (by rw [heq]; exact hm), fun m k a b e1 e2 g1 g2 => k1.inj m k a b e1 e2 (by rw [heq]; exact g1) (by rw [heq]; exact g2), k1.fresh, fun m g => k1.names m (by rw [heq]; exact g)⟩
               · have y5 := y4.trans k2
                 exact ⟨y5.sub, y5.nx, y5.size, y5.os, y5.tape, y5.output, y5.frame, fun r hr ⟨m, a, g1, g2, g3⟩ => y5.live r hr ⟨m, a, by rw [heq]; exact g1, g2, g3⟩, fun m hm hg => by rw [← heq]; exact y5.gone m hm hg⟩
             · -- in place
               obtain ⟨b0, o0, s0⟩ := ad
               simp only at z1 hsp hj hg0 hold z3 ⊢
               subst z1 hsp
               cases q4 with
               | cells _ cr _ _ _ fr p1 p2 p3 p4 p5 p6 p7 p8 =>
                 subst z2
                 have hcap : c' * i.size ≤ j.rsz := by
                   rcases hcr with e | ⟨_, k, k1, k2, k3, k4, k5⟩
                   · omega
                   · simp only at k1
                     rw [hj] at k1; cases k1
                     simp only [Nat.zero_add, p3] at k5
                     exact k5
                 have hneed : (sLen + n) * i.size ≤ j.rsz := Nat.le_trans (Nat.mul_le_mul_right _ hge) hcap
                 have hnl : news.length = n * i.size := hlen
                 have hrun := run_sto P j.blk (sLen * i.size) t0 fr news 0 ⟨cr⟩ w q3 (fun x a b => thawed p7 x (by rw [Nat.add_mul] at hneed; omega)) (by rw [Nat.add_mul] at hneed; simp; omega) (hln.ones g6)
                 have hst : (storeCells ((⟨j.blk, 0, none⟩ : Addr).add (sLen * i.size)) news).run P w = .ok () (w.setRow j.blk (cr.take (sLen * i.size) ++ news ++ cr.drop (sLen * i.size + news.length)).toArray) := by
                   rw [Addr.add_eq rfl]
                   simpa using hrun
                 have hsoftT : soft = true := hsoft.1
                 -- the old cells
                 have hold2 : LRel ρ old (cr.take (sLen * i.size)) := by
                   unfold afirst acells at hold
                   simp only [hg0] at hold
                   split at hold
                   · rename_i hh
                     cases hold
                     have hh := Nat.eq_of_beq_eq_true hh
                     simp only [List.drop_zero] at hh ⊢
                     refine ⟨by simp at hh ⊢; omega, fun x v v' a b => ?_⟩
                     rw [List.getElem?_take] at a b
                     split at a
                     · rename_i hx
                       rw [if_pos hx] at b
                       exact p8 x v v' a b
                     · cases a
                   · cases hold
                 obtain ⟨r1, r2⟩ := R.renew (n := b0) (i := j) (j := { blk := j.blk, size := (sLen + n) * i.size, es := i.size, rsz := j.rsz, soft := true }) hg0 hj rfl
                   (o2 := .cells (old ++ new) el i.size true) (o2' := .cells (cr.take (sLen * i.size) ++ news ++ cr.drop (sLen * i.size + news.length)).toArray t0 fr)
                   (w1 := w.setRow j.blk (cr.take (sLen * i.size) ++ news ++ cr.drop (sLen * i.size + news.length)).toArray)
                   (by
                     subst z4
                     have hfull := (hold2.append hln).mono (ρ' := fun m => if m = h.nx then some { blk := j.blk, size := (sLen + n) * i.size, es := i.size, rsz := j.rsz, soft := true } else ρ m) (fun m k e => by
                       have := R.fresh m k e
                       exact (if_neg (by omega)).trans e)
                     have hsl := hfull.1
                     refine .cells _ _ t0 _ true fr (by simpa using hq) rfl rfl ?_ hneed (fun e => by cases e) p7 (fun x v v' a b => ?_)
                     · rw [Nat.add_mul] at hneed
                       simp; omega
                     · refine hfull.2 x v v' a ?_
                       rw [List.getElem?_append_left (by have := (List.getElem?_eq_some_iff.1 a).1; omega)] at b
                       exact b) (setRow_heap w j.blk _ _ t0 fr q3) (fun r hr => setRow_other w j.blk r _ hr) (by simp) rfl rfl rfl
                 refine ⟨_, _, _, append_fits hu hi hiz rfl hok hnb hlen g2 hge (fun ad2 e => by cases e; exact hst) (fun e => by cases e), ?_, r1, r2⟩
                 refine .osl h.nx 0 _ _ _ { blk := j.blk, size := (sLen + n) * i.size, es := i.size, rsz := j.rsz, soft := true } (by simp) (.inr ⟨rfl, by simp, hge, by simpa using hcap⟩)
           · cases hb
       · cases hb
     · cases hb
theorem good_append (R : Rep B G ρ h w) {st xt ty : TypeId} {s s' x x' : Value} {r : Value × H} (hs : VRel ρ s s') (hx : VRel ρ x x') (hb : aappend P G h st xt s x = some r) :
   GoodV P B G ρ h w (Builtin.append_ #[st, xt] ty #[s', x']) r.1 r.2 := by
 unfold aappend at hb
 split at hb
 · rename_i el base sLen sCap hu
   split at hb
   · rename_i size by' z hsz hby hz
     split at hb
     · cases hb
     · rename_i n new hnew
       simp only at hb
       split at hb
       · cases hb
       · rename_i hg
         simp only [Bool.and_eq_true, Bool.not_eq_true'] at hg
         obtain ⟨⟨⟨⟨⟨⟨g1, g2⟩, g3⟩, g4⟩, g5⟩, g6⟩, g7⟩ := hg
         have g2 := Nat.eq_of_beq_eq_true g2
         have g3 := Nat.ne_of_beq_eq_false g3
         have g4 := Nat.ne_of_beq_eq_false g4
         have g5 := Nat.le_of_ble_eq_true g5
         have g7 := Nat.eq_of_beq_eq_true g7
         obtain ⟨i, hi, rfl⟩ := tsz_run hsz
         have hiby : i.bytes = by' := by
           obtain ⟨j, hj, e⟩ := tby_run hby
           rw [hi] at hj; cases hj; exact e
         have hiz : i.zero = some z := by
           unfold tzero at hz; rw [hi] at hz; exact hz
         obtain ⟨news, hln, hok⟩ := news_rel R hx g1 hnew
         have hlen : news.length = n * i.size := by rw [← hln.1]; exact g7
         have hnb : n * i.bytes ≤ 281474976710656 := by
           have : n * i.bytes ≤ (sLen + n) * i.bytes := Nat.mul_le_mul_right _ (by omega)
           rw [hiby] at this ⊢
           omega
         split at hb
         · -- there is room
           rename_i hroom
           have hroom := Nat.le_of_ble_eq_true hroom
           cases base with
           | none =>
             cases hb
             cases hs
             exact .still R (append_fits hu hi hiz rfl hok hnb hlen g2 hroom (fun ad h => by cases h) (fun _ => rfl)) (.nils _ _)
           | some ad =>
             obtain ⟨ad', c', rfl, hc⟩ := hs.slice_inv
             have hle : sCap ≤ c' := by
               rcases hc with ⟨_, hcr⟩ | ⟨_, _, e⟩
               · rcases hcr with rfl | ⟨_, _, _, _, _, z, _⟩
                 · exact Nat.le_refl _
                 · exact z
               · omega
             simp only at hb
             split at hb
             · rename_i hn0
               have hn0 := Nat.eq_of_beq_eq_true hn0
               cases hb
               subst hn0
               have hnil : news = [] := List.eq_nil_of_length_eq_zero (by rw [hlen]; simp)
               refine .still R (append_fits hu hi hiz rfl hok hnb hlen g2 (by omega) (w2 := w) (fun ad2 e => by subst hnil; rfl) (fun _ => rfl)) ?_
               rcases hc with ⟨ha, hcr⟩ | ⟨e1, e2, e3⟩
               · exact .slice_mk ha hcr
               · obtain ⟨b0, o0, s0⟩ := ad
                 simp only at e1
                 subst e1 e2 e3
                 exact .loose _ _ _ _
             · rename_i hn0
               have hn0 := Nat.ne_of_beq_eq_false hn0
               split at hb
               · rename_i h2 hst
                 cases hb
                 rcases hc with ⟨ha, hcr⟩ | ⟨_, _, e⟩
                 · obtain ⟨w', k1, k2, k3⟩ := asto_rel R (ha.add _) hln hst
                   refine ⟨_, w', ρ, append_fits hu hi hiz rfl hok hnb hlen g2 (by omega) (fun ad2 e => by cases e; exact k1 P) (fun e => by cases e), .slice_mk ha ?_, k2, k3⟩
                   exact hcr
                 · omega
               · cases hb
         · -- it must grow
           rename_i hroom
           have hroom : sCap < sLen + n := by
             rcases Nat.lt_or_ge sCap (sLen + n) with z | z
             · exact z
             · rw [Nat.ble_eq_true_of_le z] at hroom; cases hroom
           split at hb
           · cases hb
           · rename_i old hold
             obtain ⟨old', ho1, ho2⟩ := first_rel R hs hold
             have hfit : (sLen + n) * i.bytes ≤ 70368744177664 := by rw [hiby]; exact g5
             have hb0 : i.bytes ≠ 0 := by rw [hiby]; exact g4
             have hrun : ∀ c', c' < sLen + n → ∀ b', s' = .slice b' sLen c' → (Builtin.append_ #[st, xt] ty #[s', x']).run P w =
                 .ok (.slice (some ⟨w.heap.size, 0, none⟩) (sLen + n) (grownCap w (sLen + n) c' el))
                   (w.drew.alloc (.cells (old'.toArray ++ news.toArray ++ Builtin.zeroCells z.cells (grownCap w (sLen + n) c' el - (sLen + n))) el)) := by
               intro c' hc' b' hb'
               subst hb'
               exact append_grows hu hi hiz rfl hok hfit hb0 hlen hc' (fun w2 hw => ho2 P w2 hw)
             have hfresh : old.length = sLen * i.size → ∀ c', c' < sLen + n → ∀ b', s' = .slice b' sLen c' → GoodV P B G ρ h w (Builtin.append_ #[st, xt] ty #[s', x']) (.slice (some ⟨h.nx, 0, some 0⟩) (sLen + n) (sLen + n)) (h.push (.cells (old ++ new) el i.size true)) := by
               intro hol c' hc' b' hb'
               exact good_fresh R ho1 hln (by rw [List.length_append, hol, g7, Nat.add_mul]) (grownCap_ge' w (sLen + n) c' el) g2 (hrun c' hc' b' hb')
             exact good_append_grow R hs hold hfresh hln g7 hu hi hiz hok hnb hlen g2 g6 hroom ho1 hb
   · cases hb
 · cases hb
theorem good_copy (R : Rep B G ρ h w) {dt ty : TypeId} {d d' s s' : Value} {r : Value × H} (hd : VRel ρ d d') (hs : VRel ρ s s') (hb : acopy P G h dt d s = some r) (ats : Array TypeId) (hat : ats[0]? = some dt) :
   GoodV P B G ρ h w (Builtin.copy_ ats ty #[d', s']) r.1 r.2 := by
 unfold acopy at hb
 split at hb
 · rename_i el base dLen dcap m hu hm
   split at hb
   · cases hb
   · rename_i size hsz
     simp only at hb
     split at hb
     · cases hb
     · rename_i cs hcs
       obtain ⟨cs', h1, h2⟩ := first_rel R hs hcs
       have hlen := len_rel (P := P) hs hm w
       split at hb
       · cases hb
         cases hd
         refine .still R (v' := .int .i64 (Nat.min m dLen : Nat)) ?_ (.int _ _)
         simp [Builtin.copy_, hat, run_underlying hu, hlen, bS_ hsz, h2 P w rfl, goInt]
       · rename_i ad
         obtain ⟨ad', c', rfl, hc⟩ := hd.slice_inv
         split at hb
         · cases hb
           have : cs' = [] := List.eq_nil_of_length_eq_zero (by rw [← h1.1]; rfl)
           subst this
           refine .still R (v' := .int .i64 (Nat.min m dLen : Nat)) ?_ (.int _ _)
           simp [Builtin.copy_, hat, run_underlying hu, hlen, bS_ hsz, h2 P w rfl, goInt, storeCells]
         · split at hb
           · rename_i h3 hq hst
             cases hb
             rcases hc with ⟨ha, _⟩ | ⟨e1, _⟩
             · obtain ⟨w', k1, k2, k3⟩ := asto_rel R ha h1 hst
               refine ⟨.int .i64 (Nat.min m dLen : Nat), w', ρ, ?_, .int _ _, k2, k3⟩
               simp [Builtin.copy_, hat, run_underlying hu, hlen, bS_ hsz, h2 P w rfl, goInt, k1]
             · unfold asto at hst
               simp [e1] at hst
           · cases hb
 · cases hb
theorem bytesOf_rel : ∀ (l : List Value) (bs : List UInt8), bytesOf l = some bs → ∀ l', LRel ρ l l' → l' = l
 | [], bs, _, l', hl => by
   have := hl.1
   exact List.eq_nil_of_length_eq_zero this.symm
 | v :: l, bs, hb, l', hl => by
   cases l' with
   | nil => have := hl.1; simp at this
   | cons v' l' =>
     unfold bytesOf at hb
     split at hb
     · rename_i heq; cases heq
     · rename_i n l2 heq
       cases heq
       split at hb
       · rename_i bs2 hb2
         have h0 := hl.2 0 _ _ rfl rfl
         cases h0
         have := bytesOf_rel l bs2 hb2 l' ⟨by have := hl.1; simpa using this, fun j u u' x y => hl.2 (j + 1) u u' (by simpa using x) (by simpa using y)⟩
         rw [this]
       · cases hb
     · cases hb
theorem bytes_forIn (w : World) (f : Value → ByteArray → Sem (ForInStep ByteArray)) (hf : ∀ n r, (f (.int .u8 n) r).run P w = .ok (.yield (r.push (UInt8.ofNat n.toNat))) w) :
   ∀ (l : List Value) (bs : List UInt8) (s : ByteArray), bytesOf l = some bs → (forIn l s f).run P w = .ok ⟨⟨s.data.toList ++ bs⟩⟩ w
 | [], bs, s, hb => by
   simp only [bytesOf] at hb; cases hb
   simp
 | v :: l, bs, s, hb => by
   unfold bytesOf at hb
   split at hb
   · rename_i heq; cases heq
   · rename_i n l2 heq
     cases heq
     split at hb
     · rename_i bs2 hb2
       cases hb
       have ih := bytes_forIn w f hf l bs2 (s.push (UInt8.ofNat n.toNat)) hb2
       simp only [List.forIn_cons, Sem.run_bind, hf, Result.andThen_ok, ih]
       congr 1
       simp [ByteArray.push]
     · cases hb
   · cases hb
theorem good_bytesToString (R : Rep B G ρ h w) {ad ad' : Addr} {len c : Nat} {cs : List Value} {bs : List UInt8} (ha : ARel ρ ad ad') (hc : acells G h len ad = some cs) (hb : bytesOf cs = some bs) :
   (Conv.bytesToString (.slice (some ad') len c)).run P w = .ok (.string ⟨⟨bs⟩⟩) w := by
 obtain ⟨cs', h1, h2⟩ := acells_rel R ha hc
 have := bytesOf_rel cs bs hb cs' h1
 subst this
 simp only [Conv.bytesToString, Sem.run_bind, h2 P w rfl, Result.andThen_ok]
 rw [List.forIn_toArray, bytes_forIn w _ (fun n r => rfl) cs' bs ByteArray.empty hb]
 simp
theorem freeze_heap (w : World) (ad : Addr) : (w.freeze ad 1).heap = w.heap.modify ad.block (fun
     | .cells c elem (lo, hi) => .cells c elem (if lo == hi then (ad.off, ad.off + 1) else (min lo ad.off, max hi (ad.off + 1)))
     | o => o) := by
 unfold World.freeze
 rw [if_neg (by omega)]
 rfl
theorem freeze_os (w : World) (ad : Addr) (n : Nat) : (w.freeze ad n).os = w.os := by unfold World.freeze; split <;> rfl
theorem freeze_tape (w : World) (ad : Addr) (n : Nat) : (w.freeze ad n).tape = w.tape := by unfold World.freeze; split <;> rfl
theorem freeze_output (w : World) (ad : Addr) (n : Nat) : (w.freeze ad n).output = w.output := by unfold World.freeze; split <;> rfl
theorem freeze_new (w : World) (arr : Array Value) (t : TypeId) (n : Nat) : ((w.alloc (.cells arr t)).freeze ⟨w.heap.size, n, none⟩ 1).heap = w.heap.push (.cells arr t (n, n + 1)) := by
 rw [freeze_heap]
 show (w.heap.push (.cells arr t)).modify w.heap.size _ = _
 apply Array.ext_getElem?
 intro k
 rw [Array.getElem?_modify, Array.getElem?_push, Array.getElem?_push]
 by_cases hk : w.heap.size = k
 · subst hk; simp
 · simp [hk, Ne.symm hk]
theorem good_convStr (R : Rep B G ρ h w) {s d : TypeId} {x x' : Value} {r : Value × H} (hx : VRel ρ x x') (hb : aconvStr P h s d x = some r) : GoodV P B G ρ h w (convert s d x') r.1 r.2 := by
 unfold aconvStr at hb
 split at hb
 · rename_i el sd b hd hs
   split at hb
   · rename_i hu hsz
     cases hb
     cases hx
     have hsz := Nat.le_of_ble_eq_true hsz
     have hcap : b.size ≤ (Question.appendCap b.size 0 el).cut (w.tape w.drawn (.appendCap b.size 0 el)) := by simp [Question.cut]
     generalize hcp : (Question.appendCap b.size 0 el).cut (w.tape w.drawn (.appendCap b.size 0 el)) = cap at hcap
     have hbl : b.data.size = b.size := rfl
     obtain ⟨r1, r2⟩ := R.alloc { blk := w.heap.size, size := b.size, es := 1, rsz := cap, soft := true } (.cells (b.data.toList.map fun c => .int .u8 c.toNat) el 1 true)
       (.cells ((b.data.map fun (c : UInt8) => Value.int .u8 c.toNat) ++ Array.replicate (cap - b.size) (Value.int .u8 0)) el (cap, cap + 1)) rfl (by
         have hsz2 : ((b.data.map fun (c : UInt8) => Value.int .u8 c.toNat) ++ Array.replicate (cap - b.size) (Value.int .u8 0)).toList = (b.data.toList.map fun (c : UInt8) => Value.int .u8 c.toNat) ++ List.replicate (cap - b.size) (Value.int .u8 0) := by simp
         generalize hc' : ((b.data.map fun (c : UInt8) => Value.int .u8 c.toNat) ++ Array.replicate (cap - b.size) (Value.int .u8 0)) = arr at hsz2
         obtain ⟨c'⟩ := arr
         replace hsz2 : c' = _ := hsz2
         subst hsz2
         refine .cells _ _ el 1 true _ (by simp [hbl]) rfl rfl (by simp [hbl]; omega) hcap (fun e => by cases e) (.inr ⟨rfl, rfl⟩) (fun j v v' p q => ?_)
         have hj := (List.getElem?_eq_some_iff.1 p).1
         rw [List.getElem?_append_left hj, p] at q
         cases q
         rw [List.getElem?_map] at p
         cases hq : b.data.toList[j]? with
         | none => rw [hq] at p; cases p
         | some c => rw [hq] at p; cases p; exact .int _ _)
       (w1 := (w.drew.alloc (.cells ((b.data.map fun (c : UInt8) => Value.int .u8 c.toNat) ++ Array.replicate (cap - b.size) (Value.int .u8 0)) el)).freeze ⟨w.heap.size, cap, none⟩ 1)
       (freeze_new w.drew _ el cap) (freeze_os _ _ _) (freeze_tape _ _ _) (freeze_output _ _ _)
     refine ⟨.slice (some ⟨w.heap.size, 0, none⟩) b.size cap, _, _, ?_, .osl h.nx 0 b.size b.size cap { blk := w.heap.size, size := b.size, es := 1, rsz := cap, soft := true } (if_pos rfl) (.inr ⟨rfl, by simp, hcap, by simp⟩), r1, r2⟩
     have hsh : (w.drew.alloc (.cells ((b.data.map fun (c : UInt8) => Value.int .u8 c.toNat) ++ Array.replicate (cap - b.size) (Value.int .u8 0)) el)).shape? w.heap.size = some (el, cap) := by
       show (match (w.heap.push _)[w.heap.size]? with | some (.cells c elem _) => some (elem, c.size) | _ => none) = _
       simp [hbl]; omega
     simp only [convert, Sem.run_bind, run_underlying hs, run_underlying hd, Result.andThen_ok]
     cases sd <;> simp [run_underlying hu, Conv.stringToBytes, Question.forced, hcp, newRow, markStringish, hsh]
   · cases hb
 · cases hb
theorem good_conv (R : Rep B G ρ h w) {s d : TypeId} {x x' : Value} {r : Value × H} (hx : VRel ρ x x') (hb : aconv P G h s d x = some r) : GoodV P B G ρ h w (convert s d x') r.1 r.2 := by
 unfold aconv at hb
 split at hb
 · -- string(bytes)
   rename_i el ad len cp hs hd
   obtain ⟨ad', c', rfl, hc⟩ := hx.slice_inv
   split at hb
   · rename_i hu
     split at hb
     · rename_i cs hcs
       split at hb
       · rename_i bs hbs
         cases hb
         refine .still R (v' := .string ⟨⟨bs⟩⟩) ?_ (.string _)
         simp only [convert, Sem.run_bind, run_underlying hs, run_underlying hd, Result.andThen_ok, run_underlying hu]
         split at hcs
         · rename_i h1
           cases hcs
           have hl0 : len = 0 := by
             rcases hc with ⟨ha, _⟩ | ⟨_, e, _⟩
             · rcases ha with ⟨e, _⟩ | ⟨e, _⟩
               · rw [h1] at e; cases e
               · rw [h1] at e; cases e
             · exact e
           subst hl0
           simp only [bytesOf] at hbs; cases hbs
           simp [Conv.bytesToString, loadCells, loadCellsFrom]
           rfl
         · rename_i h1
           rcases hc with ⟨ha, _⟩ | ⟨e, _⟩
           · exact good_bytesToString R ha hcs hbs
           · exact absurd e h1
       · cases hb
     · cases hb
   · cases hb
 · -- []byte(bytes)
   rename_i e1 el ad len cp hs hd
   obtain ⟨ad', c', rfl, hc⟩ := hx.slice_inv
   split at hb
   · rename_i hsd hu hsp
     have hsd := Nat.eq_of_beq_eq_true hsd
     subst hsd
     split at hb
     · rename_i c0 t0 soft hg0
       cases hb
       rcases hc with ⟨ha, hcr⟩ | ⟨e, _⟩
       · have hai : ∃ j, ρ ad.block = some j ∧ ad' = ⟨j.blk, ad.off, none⟩ := by
           rcases ha with ⟨e, _⟩ | ⟨_, j, q1, q2⟩
           · rw [hsp] at e; cases e
           · exact ⟨j, q1, q2⟩
         obtain ⟨j, hj, rfl⟩ := hai
         obtain ⟨j2, o', q1, q2, q3, q4⟩ := R.own _ _ hg0
         rw [hj] at q1; cases q1
         cases q4 with
         | cells _ cr _ _ _ fr p1 p2 p3 p4 p5 p6 p7 p8 =>
           have hlt : j.blk < w.heap.size := (Array.getElem?_eq_some_iff.1 q3).1
           have hfr : ∃ fr', (w.freeze ⟨j.blk, j.rsz, none⟩ 1).heap[j.blk]? = some (.cells ⟨cr⟩ t0 fr') ∧ (fr' = (0, 0) ∨ (fr' = (j.rsz, j.rsz + 1) ∧ 1 = 1)) := by
             refine ⟨(j.rsz, j.rsz + 1), ?_, .inr ⟨rfl, rfl⟩⟩
             simp only [World.freeze]
             rw [if_neg (by omega)]
             simp only [Array.getElem?_modify, if_true, q3, Option.map_some]
             rcases p7 with rfl | ⟨rfl, _⟩
             · simp
             · simp
           obtain ⟨fr', f1, f2⟩ := hfr
           have hoth : ∀ r, r ≠ j.blk → (w.freeze ⟨j.blk, j.rsz, none⟩ 1).heap[r]? = w.heap[r]? := by
             intro r hr
             simp only [World.freeze]
             rw [if_neg (by omega)]
             simp [Array.getElem?_modify, Ne.symm hr]
           obtain ⟨r1, r2⟩ := R.update hg0 hj (o2 := .cells c0 t0 1 soft) (.cells c0 cr t0 1 soft fr' p1 p2 p3 p4 p5 p6 f2 p8) f1 hoth (by simp [World.freeze]) (by simp [World.freeze]) (by simp [World.freeze]) (by simp [World.freeze])
           have hself : ∀ m, (h.set ad.block (.cells c0 t0 1 soft)).get m = h.get m := by
             intro m
             rw [H.get_set]
             by_cases em : m = ad.block
             · rw [if_pos em, em, hg0]
             · rw [if_neg em]
           refine ⟨.slice (some ⟨j.blk, ad.off, none⟩) len c', w.freeze ⟨j.blk, j.rsz, none⟩ 1, ρ, ?_, hx, ?_, ?_⟩
           · have hsh : w.shape? j.blk = some (t0, j.rsz) := by simp [World.shape?, q3, p4]
             have e2 : e1 = el := by rw [hs] at hd; cases hd; rfl
             subst e2
             simp [convert, run_underlying hs, run_underlying hu, markStringish, hsh]
           · exact ⟨r1.base, fun m o hm => r1.own m o (by rw [hself]; exact hm), fun m k a b e1 e2 g1 g2 => r1.inj m k a b e1 e2 (by rw [hself]; exact g1) (by rw [hself]; exact g2), r1.fresh, fun m g => r1.names m (by rw [hself]; exact g)⟩
           · exact ⟨r2.sub, r2.nx, r2.size, r2.os, r2.tape, r2.output, r2.frame, fun r hr ⟨m, a, g1, g2, g3⟩ => r2.live r hr ⟨m, a, by rw [hself]; exact g1, g2, g3⟩, fun m hm hg => by rw [← hself]; exact r2.gone m hm hg⟩
       · rw [hsp] at e; cases e
     · cases hb
   · cases hb
 · -- a pointer to unsafe.Pointer
   rename_i t ad hs hd
   obtain ⟨ad', rfl, ha⟩ := hx.pointer_inv
   split at hb
   · rename_i n hsp hsz
     split at hb
     · rename_i c0 t0 es soft hg0
       split at hb
       · rename_i hlt
         cases hb
         have hlt : ad.off < c0.length := by simpa [Nat.blt_eq] using hlt
         have hai : ∃ j, ρ ad.block = some j ∧ ad' = ⟨j.blk, ad.off, none⟩ := by
           rcases ha with ⟨e, _⟩ | ⟨_, j, q1, q2⟩
           · rw [hsp] at e; cases e
           · exact ⟨j, q1, q2⟩
         obtain ⟨j, hj, rfl⟩ := hai
         obtain ⟨j2, o', q1, q2, q3, q4⟩ := R.own _ _ hg0
         rw [hj] at q1; cases q1
         cases q4 with
         | cells _ cr _ _ _ fr p1 p2 p3 p4 p5 p6 p7 p8 =>
           refine .still R (v' := .pointer (some ⟨j.blk, ad.off, none⟩)) ?_ hx
           have hsh : w.shape? j.blk = some (t0, j.rsz) := by simp [World.shape?, q3, p4]
           have hno : ¬ (j.rsz ≤ ad.off) := by omega
           simp [convert, run_underlying hs, run_underlying hd, Conv.unsafePointer, Conv.seenAt, viewAt, hsh, cellsIn, hno, bS_ hsz]
       · cases hb
     · cases hb
   · cases hb
 · -- and back
   rename_i u ad hs hd
   obtain ⟨ad', rfl, ha⟩ := hx.pointer_inv
   split at hb
   · rename_i n hsp hsz
     split at hb
     · rename_i c0 t0 es hg0
       split at hb
       · rename_i hlies
         cases hb
         have hai : ∃ j, ρ ad.block = some j ∧ ad' = ⟨j.blk, ad.off, none⟩ := by
           rcases ha with ⟨e, _⟩ | ⟨_, j, q1, q2⟩
           · rw [hsp] at e; cases e
           · exact ⟨j, q1, q2⟩
         obtain ⟨j, hj, rfl⟩ := hai
         obtain ⟨j2, o', q1, q2, q3, q4⟩ := R.own _ _ hg0
         rw [hj] at q1; cases q1
         cases q4 with
         | cells _ cr _ _ _ fr p1 p2 p3 p4 p5 p6 p7 p8 =>
           refine .still R (v' := .pointer (some ⟨j.blk, ad.off, none⟩)) ?_ hx
           have hsh : w.shape? j.blk = some (t0, c0.length) := by
             have := p6 rfl
             simp [World.shape?, q3, p4]; omega
           simp [convert, run_underlying hs, run_underlying hd, Conv.unsafePointer, Conv.seenAt, viewAt, hsh, variablesAt, hlies, bS_ hsz]
       · cases hb
     · cases hb
   · cases hb
 · cases hb
theorem own_addr {ad ad' : Addr} (ha : ARel ρ ad ad') (hs : ad.spot = some 0) : ∃ j, ρ ad.block = some j ∧ ad' = ⟨j.blk, ad.off, none⟩ := by
 rcases ha with ⟨e, _⟩ | ⟨_, j, q1, q2⟩
 · rw [hs] at e; cases e
 · exact ⟨j, q1, q2⟩
theorem lies_one {e u : TypeId} {count off n : Nat} (h1 : P.cellsOf e = 1) (h2 : P.underlyingId e = P.underlyingId u) (h3 : off + n ≤ count) : liesAt P P.depth e count off u n = true := by
 have hd : ∃ d, P.depth = d + 1 := ⟨2 * (P.types.size + Made.depth) + 1, rfl⟩
 obtain ⟨d, hd⟩ := hd
 have hr : rowAt P (sameLayout P P.depth · u) P.depth e count off n = true := by
   rw [hd]
   unfold rowAt
   rw [h1]
   simp only [Nat.one_ne_zero, if_false, Nat.div_one, Nat.mod_one]
   rw [sameLayout]
   simp [h2, h3]
 have e1 : liesAt P P.depth e count off u n = liesAt P (d + 1) e count off u n := by rw [hd]
 rw [e1, liesAt, hr]
 rfl
theorem run_loadBytes (ad : Addr) : ∀ (n : Nat) (l : List Value) (bs : List UInt8) (acc : ByteArray) (o : Nat), l.length = n → bytesOf l = some bs → (∀ j v, l[j]? = some v → w.cell? ⟨ad.block, o + j, none⟩ = some v) →
   (loadBytes ⟨ad.block, o, none⟩ acc n).run P w = .ok ⟨⟨acc.data.toList ++ bs⟩⟩ w
 | 0, l, bs, acc, o, hl, hb, _ => by
   have : l = [] := List.eq_nil_of_length_eq_zero hl
   subst this
   simp only [bytesOf] at hb; cases hb
   simp [loadBytes]
 | n + 1, [], bs, acc, o, hl, _, _ => by simp at hl
 | n + 1, v :: l, bs, acc, o, hl, hb, hc => by
   unfold bytesOf at hb
   split at hb
   · rename_i heq; cases heq
   · rename_i k l2 heq
     cases heq
     split at hb
     · rename_i bs2 hb2
       cases hb
       have h0 := hc 0 _ rfl
       have hadd : (⟨ad.block, o, none⟩ : Addr).add 1 = ⟨ad.block, o + 1, none⟩ := Addr.add_eq rfl 1
       have ih := run_loadBytes ad n l bs2 (acc.push k.toNat.toUInt8) (o + 1) (by simpa using hl) hb2 (fun j v hj => by
         have := hc (j + 1) v (by simpa using hj)
         rwa [show o + (j + 1) = o + 1 + j by omega] at this)
       simp only [Nat.add_zero] at h0
       simp only [loadBytes, Sem.run_bind, run_load, h0, Result.andThen_ok, hadd, ih]
       congr 1
       simp [ByteArray.push]
     · cases hb
   · cases hb
theorem unsafeString_ex (ats : Array TypeId) (ty : TypeId) (p : Option Addr) (v : Value) : ∃ s1 s2 s3 s4 s5 : String, Builtin.unsafeString_ ats ty #[.pointer p, v] = (do
   let n ← asInt v
   let some pt := ats[0]? | stuck s1
   if n < 0 then runtimePanic (.error s2)
   if n > IntKind.i64.max then unsupported (.unsafePointer s3)
   match p with
   | none =>
     if n = 0 then pure (.string .empty)
     else runtimePanic (.error s4)
   | some a =>
     if n = 0 then pure (.string .empty)
     else if ← variablesAt a (← elemOf pt) n.toNat then do
       let s ← loadBytes a .empty n.toNat
       freeze a n.toNat
       pure (.string s)
     else unsupported (.unsafePointer s5)) := ⟨_, _, _, _, _, rfl⟩
theorem good_unsafeString (R : Rep B G ρ h w) {pt ty : TypeId} {x x' : Value} {n : Int} {k : IntKind} {r : Value × H} (hx : VRel ρ x x') (hb : aunsafeString P h pt x n = some r) (ats : Array TypeId) (hat : ats[0]? = some pt) :
   GoodV P B G ρ h w (Builtin.unsafeString_ ats ty #[x', .int k n]) r.1 r.2 := by
 unfold aunsafeString at hb
 split at hb
 · split at hb
   · rename_i hn
     simp only [decide_eq_true_eq] at hn
     subst hn
     cases hb
     cases hx
     refine .still R (v' := .string .empty) ?_ (.string _)
     have : ¬ (0 > IntKind.i64.max) := by decide
     obtain ⟨s1, s2, s3, s4, s5, unsafeString_eq⟩ := unsafeString_ex ats ty none (.int k 0)
     simp [unsafeString_eq, asInt, asIntOf, hat]
   · cases hb
 · rename_i ad
   obtain ⟨ad', rfl, ha⟩ := hx.pointer_inv
   split at hb
   · rename_i u hsp hu
     split at hb
     · rename_i c t0 es soft hg0
       split at hb
       · rename_i hg
         simp only [Bool.and_eq_true, decide_eq_true_eq] at hg
         obtain ⟨⟨⟨g1, g2⟩, g3⟩, g4⟩ := hg
         have g2 := Nat.eq_of_beq_eq_true g2
         have g3 := Nat.eq_of_beq_eq_true g3
         have g4 := Nat.le_of_ble_eq_true g4
         split at hb
         · rename_i bs hbs
           cases hb
           obtain ⟨j, hj, rfl⟩ := own_addr ha hsp
           obtain ⟨j2, o', q1, q2, q3, q4⟩ := R.own _ _ hg0
           rw [hj] at q1; cases q1
           obtain ⟨r1, r2⟩ := R.killed ad.block
           cases q4 with
           | cells _ cr _ _ _ fr p1 p2 p3 p4 p5 p6 p7 p8 =>
             have hsh : w.shape? j.blk = some (t0, j.rsz) := by simp [World.shape?, q3, p4]
             have hlies : liesAt P P.depth t0 (j.rsz / P.cellsOf t0) ad.off u n.toNat = true := lies_one g2 g3 (by rw [g2, Nat.div_one]; omega)
             have hlr : LRel ρ ((c.drop ad.off).take n.toNat) (((cr.take c.length).drop ad.off).take n.toNat) := by
               have : LRel ρ c (cr.take c.length) := ⟨by simp; omega, fun m v v' x y => by
                 rw [List.getElem?_take] at y
                 split at y
                 · exact p8 m v v' x y
                 · cases y⟩
               exact (this.drop _).take _
             have heq := bytesOf_rel _ bs hbs _ hlr
             have hcells : ∀ m v, ((c.drop ad.off).take n.toNat)[m]? = some v → w.cell? ⟨j.blk, ad.off + m, none⟩ = some v := by
               intro m v hm
               rw [← heq, List.getElem?_take] at hm
               split at hm
               · rename_i hlt
                 rw [List.getElem?_drop, List.getElem?_take] at hm
                 split at hm
                 · simp only [World.cell?, q3]
                   simpa using hm
                 · cases hm
               · cases hm
             have hload := run_loadBytes (P := P) (w := w) ⟨j.blk, 0, none⟩ n.toNat _ bs .empty ad.off (by simp; omega) hbs hcells
             have hnl : ¬ n < 0 := by omega
             have hn0 : ¬ n = 0 := by omega
             have hmx : ¬ (n > IntKind.i64.max) := by
               have : IntKind.i64.max = 9223372036854775807 := by decide
               rw [this]; omega
             have hblk : j.blk < w.heap.size := (Array.getElem?_eq_some_iff.1 q3).1
             have hnot : ¬ Live ρ (h.kill ad.block) j.blk := by
               rintro ⟨m, i, m1, m2, m3⟩
               rw [H.get_kill] at m1
               by_cases em : m = ad.block
               · rw [if_pos em] at m1; cases m1
               · rw [if_neg em] at m1
                 exact em (R.inj m ad.block i j m2 hj m1 (by rw [hg0]; rfl) m3)
             have hoth : ∀ r, r ≠ j.blk → (w.freeze ⟨j.blk, ad.off, none⟩ n.toNat).heap[r]? = w.heap[r]? := by
               intro r hr
               simp only [World.freeze]
               split
               · rfl
               · simp [Array.getElem?_modify, Ne.symm hr]
             have hsz : (w.freeze ⟨j.blk, ad.off, none⟩ n.toNat).heap.size = w.heap.size := by
               simp only [World.freeze]; split <;> simp
             have r3 : Rep B G ρ (h.kill ad.block) (w.freeze ⟨j.blk, ad.off, none⟩ n.toNat) := r1.elsewhere (fun r _ hl => hoth r (by
               rintro rfl
               rcases hl with hl | hl
               · omega
               · exact hnot hl)) (Nat.le_of_eq hsz.symm)
             refine ⟨.string ⟨⟨bs⟩⟩, w.freeze ⟨j.blk, ad.off, none⟩ n.toNat, ρ, ?_, .string _, r3, ?_⟩
             · obtain ⟨s1, s2, s3, s4, s5, unsafeString_eq⟩ := unsafeString_ex ats ty (some ⟨j.blk, ad.off, none⟩) (.int k n)
               simp [unsafeString_eq, asInt, asIntOf, hat, hnl, hn0, elemOf, run_underlying hu, variablesAt, hsh, hlies, hload]
               omega
             · exact ⟨r2.sub, r2.nx, Nat.le_of_eq hsz.symm, freeze_os _ _ _, freeze_tape _ _ _, freeze_output _ _ _, fun r hr hl => hoth r (fun e => hl ⟨ad.block, j, by rw [hg0]; rfl, hj, e.symm⟩), fun r hr hl => r2.live r hr hl, r2.gone⟩
         · cases hb
       · cases hb
     · cases hb
   · cases hb
 · cases hb
theorem good_aeq (R : Rep B G ρ h w) {t : TypeId} {x y x' y' : Value} {r : Bool} (hx : VRel ρ x x') (hy : VRel ρ y y') (hb : aeq P t x y = some r) (ox oy : Operand) :
   (∀ op, (eqGuard op t ox oy x' y').run P w = .ok () w) ∧ (binOp .eql t x' y').run P w = .ok (.bool r) w ∧ (binOp .neq t x' y').run P w = .ok (.bool (!r)) w := by
 have hex : ∀ (x' y' : Value) (r : Bool), (∀ d, (Op.equalIn (d + 1) t x' y').run P w = .ok r w) → (Op.equal t x' y').run P w = .ok r w := fun _ _ _ h => h 9999
 unfold aeq at hb
 split at hb
 · rename_i el ad hu
   cases hb
   obtain ⟨ad', rfl, _⟩ := hx.pointer_inv
   cases hy
   have he : (Op.equal t (.pointer (some ad')) (.pointer none)).run P w = .ok false w := hex _ _ _ fun d => by simp [Op.equalIn, run_underlying hu]
   exact ⟨fun op => by cases op <;> simp [eqGuard], by simp [binOp, he], by simp [binOp, he]⟩
 · rename_i el ad hu
   cases hb
   obtain ⟨ad', rfl, _⟩ := hy.pointer_inv
   cases hx
   have he : (Op.equal t (.pointer none) (.pointer (some ad'))).run P w = .ok false w := hex _ _ _ fun d => by simp [Op.equalIn, run_underlying hu]
   exact ⟨fun op => by cases op <;> simp [eqGuard], by simp [binOp, he], by simp [binOp, he]⟩
 · rename_i el a1 a2 hu
   obtain ⟨a1', rfl, ha1⟩ := hx.pointer_inv
   obtain ⟨a2', rfl, ha2⟩ := hy.pointer_inv
   split at hb
   · rename_i n hn hs1 hs2
     split at hb
     · rename_i hbk
       cases hb
       have hbk := Nat.eq_of_beq_eq_true hbk
       obtain ⟨j1, k1, rfl⟩ := own_addr ha1 hs1
       obtain ⟨j2, k2, rfl⟩ := own_addr ha2 hs2
       rw [hbk, k2] at k1
       have hjj : j2 = j1 := by injection k1
       subst hjj
       have he : (Op.equal t (.pointer (some ⟨j2.blk, a1.off, none⟩)) (.pointer (some ⟨j2.blk, a2.off, none⟩))).run P w = .ok (Nat.beq a1.off a2.off) w := by
         refine hex _ _ _ fun d => ?_
         have : ((⟨j2.blk, a1.off, none⟩ : Addr) == ⟨j2.blk, a2.off, none⟩) = Nat.beq a1.off a2.off := by
           rw [Bool.eq_iff_iff]
           simp
         simp [Op.equalIn, run_underlying hu, bS_ hn, sameAddr, this]
       exact ⟨fun op => by cases op <;> simp [eqGuard], by simp [binOp, he], by simp [binOp, he]⟩
     · cases hb
   · cases hb
 · rename_i ms t2 v hu
   cases hb
   cases hx
   cases hy
   rename_i v' _
   have he : (Op.equal t (.iface t2 v') .nilIface).run P w = .ok false w := hex _ _ _ fun d => by simp [Op.equalIn, run_underlying hu]
   exact ⟨fun op => by cases op <;> simp [eqGuard], by simp [binOp, he], by simp [binOp, he]⟩
 · rename_i ms t2 v hu
   cases hb
   cases hx
   cases hy
   rename_i v' _
   have he : (Op.equal t .nilIface (.iface t2 v')).run P w = .ok false w := hex _ _ _ fun d => by simp [Op.equalIn, run_underlying hu]
   exact ⟨fun op => by cases op <;> simp [eqGuard], by simp [binOp, he], by simp [binOp, he]⟩
 · rename_i el ad l c l2 c2 hu
   cases hb
   obtain ⟨ad', c', rfl, _⟩ := hx.slice_inv
   cases hy
   have he : (Op.equal t (.slice (some ad') l c') (.slice none l2 c2)).run P w = .ok false w := hex _ _ _ fun d => by simp [Op.equalIn, run_underlying hu]
   exact ⟨fun op => by cases op <;> simp [eqGuard], by simp [binOp, he], by simp [binOp, he]⟩
 · rename_i el l c ad l2 c2 hu
   cases hb
   obtain ⟨ad', c', rfl, _⟩ := hy.slice_inv
   cases hx
   have he : (Op.equal t (.slice none l c) (.slice (some ad') l2 c')).run P w = .ok false w := hex _ _ _ fun d => by simp [Op.equalIn, run_underlying hu]
   exact ⟨fun op => by cases op <;> simp [eqGuard], by simp [binOp, he], by simp [binOp, he]⟩
 · rename_i ps rs vr f a c hu
   cases hb
   cases hx
   cases hy
   rename_i f' ab a' cb c' p1 p2 p3 p4 p5
   have he : (Op.equal t (.func f' ⟨a'⟩ ⟨c'⟩) .nilFunc).run P w = .ok false w := hex _ _ _ fun d => by simp [Op.equalIn, run_underlying hu]
   exact ⟨fun op => by cases op <;> simp [eqGuard], by simp [binOp, he], by simp [binOp, he]⟩
 · rename_i ps rs vr f a c hu
   cases hb
   cases hx
   cases hy
   rename_i f' ab a' cb c' p1 p2 p3 p4 p5
   have he : (Op.equal t .nilFunc (.func f' ⟨a'⟩ ⟨c'⟩)).run P w = .ok false w := hex _ _ _ fun d => by simp [Op.equalIn, run_underlying hu]
   exact ⟨fun op => by cases op <;> simp [eqGuard], by simp [binOp, he], by simp [binOp, he]⟩
 · cases hb
theorem good_range (R : Rep B G ρ h w) {t : TypeId} {s : ByteArray} (hu : P.underlying t = some .string) :
   GoodV P B G ρ h w (Instr.range t (.string s)) (.pointer (some ⟨h.nx, 0, some 0⟩)) (h.push (.iter s 0)) := by
 obtain ⟨r1, r2⟩ := R.alloc { blk := w.heap.size, size := 0, es := 0, rsz := 0, soft := false } (.iter s 0) (.stringIter s 0) rfl (.iter s 0) (w1 := w.alloc (.stringIter s 0)) rfl rfl rfl rfl
 refine ⟨.pointer (some ⟨w.heap.size, 0, none⟩), w.alloc (.stringIter s 0), _, ?_, .optr h.nx 0 { blk := w.heap.size, size := 0, es := 0, rsz := 0, soft := false } (if_pos rfl), r1, r2⟩
 simp [Instr.range, run_underlying hu]
theorem good_next (R : Rep B G ρ h w) {n : Nat} {s : ByteArray} {pos : Nat} {x' : Value} {ty : TypeId} (hx : VRel ρ (.pointer (some ⟨n, 0, some 0⟩)) x') (hg : h.get n = some (.iter s pos)) (hlt : pos < s.size) :
   GoodV P B G ρ h w (Instr.next x' true ty) (.tuple #[.bool true, .int .i64 pos, .int .i32 (Utf8.decode s pos).1]) (h.set n (.iter s (pos + (Utf8.decode s pos).2))) := by
 obtain ⟨ad', rfl, ha⟩ := hx.pointer_inv
 obtain ⟨j, hj, rfl⟩ := own_addr ha rfl
 obtain ⟨j2, o', q1, q2, q3, q4⟩ := R.own _ _ hg
 simp only at hj
 rw [hj] at q1; cases q1
 cases q4
 obtain ⟨r1, r2⟩ := R.update hg hj (o2 := .iter s (pos + (Utf8.decode s pos).2)) (.iter s _) (World.putObj_heap_same (w := w) (Array.getElem?_eq_some_iff.1 q3).1) (fun r hr => World.putObj_heap_other hr) (by simp) rfl rfl rfl
 refine ⟨.tuple #[.bool true, .int .i64 pos, .int .i32 (Utf8.decode s pos).1], _, ρ, ?_, ?_, r1, r2⟩
 · simp [Instr.next, getObj, setObj, Sem.run, q3, hlt, World.putObj, goInt, Result.andThen]
 · exact .tuple _ _ _ rfl (LRel.cons (.bool true) (LRel.cons (.int _ _) (LRel.cons (.int _ _) .nil))).2
theorem good_nextEnd (R : Rep B G ρ h w) {n : Nat} {s : ByteArray} {pos : Nat} {x' : Value} {ty : TypeId} (hx : VRel ρ (.pointer (some ⟨n, 0, some 0⟩)) x') (hg : h.get n = some (.iter s pos)) (hlt : ¬ pos < s.size) :
   GoodV P B G ρ h w (Instr.next x' true ty) (.tuple #[.bool false]) h := by
 obtain ⟨ad', rfl, ha⟩ := hx.pointer_inv
 obtain ⟨j, hj, rfl⟩ := own_addr ha rfl
 obtain ⟨j2, o', q1, q2, q3, q4⟩ := R.own _ _ hg
 simp only at hj
 rw [hj] at q1; cases q1
 cases q4
 refine .still R (v' := .tuple #[.bool false]) ?_ (.tuple _ _ _ rfl (LRel.cons (.bool false) .nil).2)
 simp [Instr.next, getObj, Sem.run, q3, hlt, Result.andThen]
theorem good_clear (R : Rep B G ρ h w) {t ty : TypeId} {x x' : Value} (hx : VRel ρ x x') (hb : aclear P h t x = some h') (ats : Array TypeId) (hat : ats[0]? = some t) :
   GoodV P B G ρ h w (Builtin.clear_ ats ty #[x']) undef h' := by
 unfold aclear at hb
 split at hb
 · rename_i hu
   cases hb
   cases hx
   refine .still R (v' := .tuple #[]) ?_ (.top _)
   simp [Builtin.clear_, hat, run_underlying hu]
 · rename_i hu
   cases hb
   obtain ⟨ad', c', rfl, hc⟩ := hx.slice_inv
   refine .still R (v' := .tuple #[]) ?_ (.top _)
   simp [Builtin.clear_, hat, run_underlying hu]
 · rename_i el ad n c hu
   split at hb
   · rename_i z hz
     split at hb
     · rename_i hg
       obtain ⟨ad', c', rfl, hc⟩ := hx.slice_inv
       rcases hc with ⟨ha, _⟩ | ⟨e1, _⟩
       · obtain ⟨w', k1, k2, k3⟩ := asto_rel R ha (LRel.rep (gd_cells (ρ := ρ) hg) (n + 1)) hb
         refine ⟨.tuple #[], w', ρ, ?_, .top _, k2, k3⟩
         simp [Builtin.clear_, hat, run_underlying hu, cr_ hz, zeroCells_rep, k1]
       · unfold asto at hb
         simp [e1] at hb
     · cases hb
   · cases hb
 · cases hb
theorem Good.of_eq {s s' : Sem Next} {v : Value} (g : Good P B G ρ h w s v h') (hs : s' = s) : Good P B G ρ h w s' v h' := hs ▸ g
theorem builtin_sound (R : Rep B G ρ h w) (E : ERel ρ e a.tmps) {b : Builtin} {args : Array Operand} {ats : Array TypeId} {ty : TypeId} {cs : Array Bool} {v : Value}
   (hb : aop P G (.call { callee := .builtin b, args := args, argTypes := ats }) e h = some (v, h')) : Good P B G ρ h w (builtin b ats ty cs (args.map a.eval)) v h' := by
 obtain ⟨args⟩ := args
 obtain ⟨ats⟩ := ats
 have hmap : (⟨args⟩ : Array Operand).map a.eval = ⟨args.map a.eval⟩ := by simp
 rw [hmap]
 have hrel : LRel ρ (args.map (aeval e)) (args.map a.eval) := by
   refine ⟨by simp, fun j u u' x y => ?_⟩
   rw [List.getElem?_map] at x y
   cases hj : args[j]? with
   | none => rw [hj] at x; cases x
   | some q => rw [hj] at x y; cases x; cases y; exact E.eval q
 have hgr : ∀ l, args.map (aeval e) = l → l.all gd = true → args.map a.eval = l := by
   intro l hl hg
   rw [hl] at hrel
   exact list_eq_of hrel.1 fun j u u' x y => (hrel.2 j u u' x y).gd_eq (List.all_eq_true.1 hg u (List.mem_of_getElem? x))
 simp only [aop] at hb
 split at hb
 · -- append
   rename_i s x st xt hargs
   rw [hargs] at hrel
   obtain ⟨hl, hr⟩ := hrel
   cases hre : args.map a.eval with
   | nil => rw [hre] at hl; simp at hl
   | cons s' l =>
     cases l with
     | nil => rw [hre] at hl; simp at hl
     | cons x' l =>
       cases l with
       | cons _ _ => rw [hre] at hl; simp at hl
       | nil =>
         rw [hre] at hr
         exact (good_append R (hr 0 _ _ rfl rfl) (hr 1 _ _ rfl rfl) hb).good
 · -- copy
   rename_i d s dt tl hargs
   rw [hargs] at hrel
   obtain ⟨hl, hr⟩ := hrel
   cases hre : args.map a.eval with
   | nil => rw [hre] at hl; simp at hl
   | cons s' l =>
     cases l with
     | nil => rw [hre] at hl; simp at hl
     | cons x' l =>
       cases l with
       | cons _ _ => rw [hre] at hl; simp at hl
       | nil =>
         rw [hre] at hr
         exact (good_copy R (hr 0 _ _ rfl rfl) (hr 1 _ _ rfl rfl) hb _ rfl).good
 · -- clear
   rename_i x t tl hargs
   rw [hargs] at hrel
   obtain ⟨hl, hr⟩ := hrel
   cases hre : args.map a.eval with
   | nil => rw [hre] at hl; simp at hl
   | cons x' l =>
     cases l with
     | cons _ _ => rw [hre] at hl; simp at hl
     | nil =>
       rw [hre] at hr
       split at hb
       · rename_i h2 hc
         cases hb
         exact (good_clear (P := P) R (hr 0 _ _ rfl rfl) hc _ rfl).good
       · cases hb
 · -- len of a slice
   rename_i sa n c t tl hargs
   split at hb
   · rename_i el hu
     cases hb
     rw [hargs] at hrel
     obtain ⟨hl, hr⟩ := hrel
     cases hre : args.map a.eval with
     | nil => rw [hre] at hl; simp at hl
     | cons s' l =>
       cases l with
       | cons _ _ => rw [hre] at hl; simp at hl
       | nil =>
         rw [hre] at hr
         have hs := hr 0 _ _ rfl rfl
         have : ∃ x c', s' = .slice x n c' := by cases hs <;> exact ⟨_, _, rfl⟩
         obtain ⟨x, c', rfl⟩ := this
         refine (GoodV.still R (v' := .int .i64 n) ?_ (.int _ _)).good
         simp [Builtin.len_, run_underlying hu, goInt]
   · cases hb
 · -- cap
   rename_i sa n c t tl hargs
   rw [hargs] at hrel
   obtain ⟨hl, hr⟩ := hrel
   cases hre : args.map a.eval with
   | nil => rw [hre] at hl; simp at hl
   | cons s' l =>
     cases l with
     | cons _ _ => rw [hre] at hl; simp at hl
     | nil =>
       rw [hre] at hr
       have hs := hr 0 _ _ rfl rfl
       split at hb
       · rename_i el hu
         have key : ∀ x c', s' = .slice x n c' → c' = c → some ((.int .i64 c : Value), h) = some (v, h') → Good P B G ρ h w (builtin .cap ⟨t :: tl⟩ ty cs ⟨[s']⟩) v h' := by
           intro x c' e1 e2 e3
           cases e3
           subst e1 e2
           refine (GoodV.still R (v' := .int .i64 c') ?_ (.int _ _)).good
           simp [Builtin.cap_, run_underlying hu, goInt]
         split at hb
         · cases hs
           exact key _ _ rfl rfl hb
         · rename_i ad
           obtain ⟨ad', c', rfl, hc⟩ := hs.slice_inv
           split at hb
           · rename_i hsp
             refine key _ _ rfl ?_ hb
             rcases hc with ⟨_, hcr⟩ | ⟨e1, _⟩
             · rcases hcr with e1 | ⟨e1, _⟩
               · exact e1
               · rw [hsp] at e1; cases e1
             · rw [hsp] at e1; cases e1
           · rename_i hsp
             split at hb
             · rename_i c0 t0 es soft hg0
               split at hb
               · rename_i hq
                 refine key _ _ rfl ?_ hb
                 rcases hc with ⟨_, hcr⟩ | ⟨e1, _⟩
                 · rcases hcr with e1 | ⟨_, k, k1, k2, k3, _⟩
                   · exact e1
                   · obtain ⟨j2, o', q1, q2, q3, q4⟩ := R.own _ _ hg0
                     rw [k1] at q1; cases q1
                     cases q4 with
                     | cells _ _ _ _ _ _ p1 p2 p3 =>
                       rw [← p2, k2, ← p3] at hq
                       simp [k3, p1] at hq
                 · rw [hsp] at e1; cases e1
               · cases hb
             · cases hb
           · cases hb
       · cases hb
 · -- len of a string
   rename_i s t tl hargs
   split at hb
   · rename_i hu
     cases hb
     rw [hargs] at hrel
     obtain ⟨hl, hr⟩ := hrel
     cases hre : args.map a.eval with
     | nil => rw [hre] at hl; simp at hl
     | cons s' l =>
       cases l with
       | cons _ _ => rw [hre] at hl; simp at hl
       | nil =>
         rw [hre] at hr
         have hs := hr 0 _ _ rfl rfl
         cases hs
         refine (GoodV.still R (v' := .int .i64 s.size) ?_ (.int _ _)).good
         simp [Builtin.len_, run_underlying hu, goInt]
   · cases hb
 · -- len of an array, or of anything without an address
   rename_i x t tl n1 n2 hargs
   rw [hargs] at hrel
   have hrel0 := hrel
   obtain ⟨hl, hr⟩ := hrel
   cases hre : args.map a.eval with
   | nil => rw [hre] at hl; simp at hl
   | cons s' l =>
     cases l with
     | cons _ _ => rw [hre] at hl; simp at hl
     | nil =>
       rw [hre] at hr
       have hs := hr 0 _ _ rfl rfl
       split at hb
       · rename_i n el hu
         cases hb
         refine (GoodV.still R (v' := .int .i64 n) ?_ (.int _ _)).good
         simp [Builtin.len_, run_underlying hu, goInt]
       · rename_i arr hu
         split at hb
         · rename_i n el hu2
           cases hb
           refine (GoodV.still R (v' := .int .i64 n) ?_ (.int _ _)).good
           simp [Builtin.len_, run_underlying hu, run_underlying hu2, goInt]
         · cases hb
       · split at hb
         · rename_i hg
           split at hb
           · rename_i u hp
             split at hb
             · rename_i hgu
               cases hb
               have := hs.gd_eq hg
               subst this
               exact (GoodV.pure_ground R (s := Builtin.len_ ⟨t :: tl⟩ ty #[s']) hp hgu).good
             · cases hb
           · cases hb
         · cases hb
 · -- unsafe.SliceData of nil
   rename_i tl l c hargs
   cases hb
   rw [hargs] at hrel
   obtain ⟨hl, hr⟩ := hrel
   cases hre : args.map a.eval with
   | nil => rw [hre] at hl; simp at hl
   | cons s' l =>
     cases l with
     | cons _ _ => rw [hre] at hl; simp at hl
     | nil =>
       rw [hre] at hr
       have hs := hr 0 _ _ rfl rfl
       cases hs
       refine (GoodV.still R (v' := .pointer none) ?_ .nilp).good
       show (Builtin.unsafeSliceData_ ⟨tl⟩ ty #[.slice none l c]).run P w = _
       rfl
 · -- unsafe.SliceData
   rename_i tl ad l c hargs
   rw [hargs] at hrel
   obtain ⟨hl, hr⟩ := hrel
   cases hre : args.map a.eval with
   | nil => rw [hre] at hl; simp at hl
   | cons s' l =>
     cases l with
     | cons _ _ => rw [hre] at hl; simp at hl
     | nil =>
       rw [hre] at hr
       have hs := hr 0 _ _ rfl rfl
       obtain ⟨ad', c', rfl, hc⟩ := hs.slice_inv
       split at hb
       · cases hb
       · rename_i hsp
         cases hb
         have hcc : ARel ρ ad ad' ∧ CRel ρ ad (c + 1) c' := by
           rcases hc with z | ⟨e1, _⟩
           · exact z
           · exact absurd e1 hsp
         have hne : c' ≠ 0 := by
           rcases hcc.2 with z | ⟨_, _, _, _, _, z, _⟩ <;> omega
         refine (GoodV.still R (v' := .pointer (some ad')) ?_ (.pointer_mk hcc.1)).good
         show (if c' ≠ 0 then (pure (.pointer (some ad')) : Sem Value) else _).run P w = _
         rw [if_pos hne]
         rfl
 · -- unsafe.String
   rename_i p k n pt tl hargs
   rw [hargs] at hrel
   obtain ⟨hl, hr⟩ := hrel
   cases hre : args.map a.eval with
   | nil => rw [hre] at hl; simp at hl
   | cons s' l =>
     cases l with
     | nil => rw [hre] at hl; simp at hl
     | cons x' l =>
       cases l with
       | cons _ _ => rw [hre] at hl; simp at hl
       | nil =>
         rw [hre] at hr
         have hs := hr 0 _ _ rfl rfl
         have hx := hr 1 _ _ rfl rfl
         cases hx
         exact (good_unsafeString (r := (v, h')) R hs hb _ rfl).good
 all_goals first
   | (cases hb; done)
   | (split at hb
      · rename_i hg
        split at hb
        · rename_i u hp
          split at hb
          · rename_i hgu
            cases hb
            have he := hgr _ rfl hg
            rw [he]
            exact (GoodV.pure_ground R hp hgu).good
          · cases hb
        · cases hb
      · cases hb)
/- Maps whose keys are numbers, strings or truth values. -/
theorem plainVal_gd {k : Value} (hk : plainVal k = true) : gd k = true := by
 cases k <;> simp [plainVal] at hk <;> rfl
theorem run_checkKey {kt : TypeId} {d : TypeDesc} {k : Value} (hu : P.underlying kt = some d) (hd : plainKey d = true) (b : Bool) (w : World) :
   (Instr.checkKey b 10000 kt k).run P w = .ok () w := by
 have : (10000 : Nat) = 9999 + 1 := rfl
 rw [this, Instr.checkKey]
 simp only [Sem.run_bind, run_underlying hu, Result.andThen_ok]
 cases d <;> simp [plainKey] at hd <;> cases k <;> rfl
theorem find_rel {d : TypeDesc} {k : Value} : ∀ (es : List (Value × Value)) (es' : List MapEntry) (i : Nat) (r : Option (Nat × Value)), es.length = es'.length →
   (∀ (j : Nat) (p : Value × Value) (q : MapEntry), es[j]? = some p → es'[j]? = some q → q.key = p.1 ∧ VRel ρ p.2 q.val) → afind d k es i = some r →
   (r = none ∧ Instr.findNow d k es' i = some none) ∨ ∃ n v v' q, r = some (i + n, v) ∧ Instr.findNow d k es' i = some (some (i + n, v')) ∧ VRel ρ v v' ∧ es'[n]? = some q ∧ Instr.sameNow d k q.key = some true ∧ n < es.length
 | [], es', i, r, hl, _, hf => by
   simp only [afind] at hf; cases hf
   have : es' = [] := List.eq_nil_of_length_eq_zero hl.symm
   subst this
   exact .inl ⟨rfl, rfl⟩
 | p :: es, [], i, r, hl, _, hf => by simp at hl
 | p :: es, q :: es', i, r, hl, hr, hf => by
   obtain ⟨hk, hv⟩ := hr 0 p q rfl rfl
   unfold afind at hf
   unfold Instr.findNow
   rw [hk]
   cases hs : Instr.sameNow d k p.1 with
   | none => rw [hs] at hf; cases hf
   | some b =>
     rw [hs] at hf
     cases b with
     | true =>
       simp only at hf ⊢
       cases hf
       exact .inr ⟨0, p.2, q.val, q, rfl, rfl, hv, rfl, by rw [hk]; exact hs, by simp⟩
     | false =>
       simp only at hf ⊢
       rcases find_rel es es' (i + 1) r (by simpa using hl) (fun j p' q' x y => hr (j + 1) p' q' (by simpa using x) (by simpa using y)) hf with ⟨h1, h2⟩ | ⟨n, v, v', q', h1, h2, h3, h4, h5, h6⟩
       · exact .inl ⟨h1, h2⟩
       · exact .inr ⟨n + 1, v, v', q', by rw [h1]; congr 2; omega, by rw [h2]; congr 3; omega, h3, by simpa using h4, h5, by simp; omega⟩
theorem run_findKey {kt : TypeId} {d : TypeDesc} {k : Value} {es : List MapEntry} {r : Option (Nat × Value)} (hu : P.underlying kt = some d) (hf : Instr.findNow d k es 0 = some r) (w : World) :
   (Instr.findKey kt k es).run P w = .ok r w := by
 unfold Instr.findKey
 simp only [Sem.run_bind, run_underlying hu, Result.andThen_ok, hf]
 rfl
theorem own_map (R : Rep B G ρ h w) {n : Nat} {es : List (Value × Value)} {x' : Value} (hx : VRel ρ (.map (some n)) x') (hg : h.get n = some (.map es)) :
   ∃ (i : Info) (es' : Array MapEntry) (cl : Nat), x' = .map (some i.blk) ∧ ρ n = some i ∧ w.heap[i.blk]? = some (.map es' cl) ∧ es.length = es'.size ∧
     ∀ (j : Nat) (p : Value × Value) (q : MapEntry), es[j]? = some p → es'[j]? = some q → q.key = p.1 ∧ VRel ρ p.2 q.val := by
 cases hx with
 | omap n i hi =>
   obtain ⟨j, o', q1, q2, q3, q4⟩ := R.own _ _ hg
   rw [hi] at q1; cases q1
   cases q4 with
   | map _ es' cl h1 h2 => exact ⟨i, es', cl, rfl, hi, q3, h1, h2⟩
theorem run_getMap {r cl : Nat} {es : Array MapEntry} (hq : w.heap[r]? = some (.map es cl)) : (getObj r).run P w = .ok (.map es cl) w := by
 simp [getObj, Sem.run, hq, Result.andThen]
theorem bytes_eq {a b : ByteArray} (h : (a == b) = true) : a = b := by
 obtain ⟨a⟩ := a
 obtain ⟨b⟩ := b
 have : (a == b) = true := h
 rw [beq_iff_eq] at this
 rw [this]
theorem bytes_refl (a : ByteArray) : (a == a) = true := by
 obtain ⟨a⟩ := a
 show (a == a) = true
 exact beq_self_eq_true a
theorem mapVal_rel {z : Value} (hz : gd z = true) {ok : Bool} {r r' : Option (Nat × Value)} (hr : (r = none ∧ r' = none) ∨ ∃ n v v', r = some (n, v) ∧ r' = some (n, v') ∧ VRel ρ v v') :
   VRel ρ (ammapVal z ok r) (ammapVal z ok r') := by
 rcases hr with ⟨rfl, rfl⟩ | ⟨n, v, v', rfl, rfl, hv⟩
 · cases ok
   · exact .gd_refl hz
   · exact .tuple _ _ _ rfl (LRel.cons (.gd_refl hz) (LRel.cons (.bool _) .nil)).2
 · cases ok
   · exact hv
   · exact .tuple _ _ _ rfl (LRel.cons hv (LRel.cons (.bool _) .nil)).2
theorem good_lookup (R : Rep B G ρ h w) {t : TypeId} {x x' k k' : Value} {ok : Bool} {v : Value} (hx : VRel ρ x x') (hk : VRel ρ k k') (hb : alookup P h t x k ok = some v) :
   GoodV P B G ρ h w (Instr.lookup t x' k' ok) v h := by
 unfold alookup at hb
 split at hb
 · rename_i kt el hu
   split at hb
   · rename_i d z hd hz
     split at hb
     · cases hb
     · rename_i hg
       simp only [Bool.and_eq_true] at hg
       obtain ⟨⟨g1, g2⟩, g3⟩ := hg
       have hkk : k' = k := hk.gd_eq (plainVal_gd g2)
       subst hkk
       split at hb
       · cases hb
         cases hx
         refine .still R (v' := ammapVal z ok none) ?_ (mapVal_rel g3 (.inl ⟨rfl, rfl⟩))
         simp only [Instr.lookup, Sem.run_bind, run_underlying hu, Result.andThen_ok, Sem.run_pure, run_checkKey hd g1, run_findKey hd (show Instr.findNow d k' (#[] : Array MapEntry).toList 0 = some none from rfl), cr_ hz]
         cases ok <;> rfl
       · rename_i n
         split at hb
         · rename_i es hes
           split at hb
           · rename_i r hr
             cases hb
             obtain ⟨i, es', cl, rfl, hi, hq, hl, hrel⟩ := own_map R hx hes
             have hrel' : ∀ (j : Nat) (p : Value × Value) (q : MapEntry), es[j]? = some p → es'.toList[j]? = some q → q.key = p.1 ∧ VRel ρ p.2 q.val := fun j p q a b => hrel j p q a (by simpa using b)
             rcases find_rel es es'.toList 0 r (by simpa using hl) hrel' hr with ⟨rfl, h2⟩ | ⟨m, u, u', q, rfl, h2, h3, -, -, -⟩
             · refine .still R (v' := ammapVal z ok none) ?_ (mapVal_rel g3 (.inl ⟨rfl, rfl⟩))
               simp only [Instr.lookup, Sem.run_bind, run_underlying hu, Result.andThen_ok, Sem.run_pure, run_getMap hq, run_checkKey hd g1, run_findKey hd h2, cr_ hz]
               cases ok <;> rfl
             · refine .still R (v' := ammapVal z ok (some (0 + m, u'))) ?_ (mapVal_rel g3 (.inr ⟨_, _, _, rfl, rfl, h3⟩))
               simp only [Instr.lookup, Sem.run_bind, run_underlying hu, Result.andThen_ok, Sem.run_pure, run_getMap hq, run_checkKey hd g1, run_findKey hd h2, cr_ hz]
               cases ok <;> rfl
           · cases hb
         · cases hb
       · cases hb
   · cases hb
 · cases hb
theorem good_makeMap (R : Rep B G ρ h w) {t : TypeId} {r r' : Option Value} {q : Value × H} (hr : OV ρ r r') (hb : amakeMap P h t r = some q) : GoodV P B G ρ h w (Instr.makeMap t r') q.1 q.2 := by
 obtain ⟨r1, r2⟩ := R.alloc { blk := w.heap.size, size := 0, es := 0, rsz := 0, soft := false } (.map []) (.map #[] 0) rfl (.map [] #[] 0 rfl (by simp)) (w1 := w.alloc (.map #[] 0)) rfl rfl rfl rfl
 have key : q = (.map (some h.nx), h.push (.map [])) ∧ (Instr.makeMap t r').run P w = .ok (.map (some w.heap.size)) (w.alloc (.map #[] 0)) := by
   unfold amakeMap at hb
   rcases hr with ⟨rfl, rfl⟩ | ⟨v, v', rfl, rfl, hv⟩
   · cases hb
     refine ⟨rfl, ?_⟩
     simp [Instr.makeMap]
   · simp only at hb
     split at hb
     · rename_i kt el n hu hn
       cases hb
       refine ⟨rfl, ?_⟩
       cases v <;> simp [asInt?] at hn
       rename_i kk nn
       have := hv.gd_eq rfl
       subst this
       simp [Instr.makeMap, run_underlying hu, asInt, asIntOf]
     · cases hb
 obtain ⟨rfl, hk⟩ := key
 exact ⟨_, _, _, hk, .omap h.nx { blk := w.heap.size, size := 0, es := 0, rsz := 0, soft := false } (if_pos rfl), r1, r2⟩
theorem sameBits_of {d : TypeDesc} {k q : Value} (hs : Instr.sameNow d k q = some true) : Instr.sameBits 10000 q k = true := by
 unfold Instr.sameNow at hs
 have : (10000 : Nat) = 9999 + 1 := rfl
 rw [this]
 split at hs
 · split at hs
   · rename_i hk
     simp only [Option.some.injEq, beq_iff_eq] at hs
     subst hk; subst hs
     simp [Instr.sameBits]
   · cases hs
 · simp only [Option.some.injEq] at hs
   have := bytes_eq hs
   subst this
   simp [Instr.sameBits, bytes_refl]
 · simp only [Option.some.injEq, beq_iff_eq] at hs
   subst hs
   simp [Instr.sameBits]
 · cases hs
theorem good_mapUpdate (R : Rep B G ρ h w) {t : TypeId} {x x' k k' v v' : Value} (hx : VRel ρ x x') (hk : VRel ρ k k') (hv : VRel ρ v v') (hb : amapUpdate P h t x k v = some h') :
   ∃ w', (Instr.mapUpdate t x' k' v').run P w = .ok () w' ∧ Rep B G ρ h' w' ∧ Step ρ h w ρ h' w' := by
 unfold amapUpdate at hb
 split at hb
 · rename_i kt el hu
   split at hb
   · rename_i d hd
     split at hb
     · cases hb
     · rename_i hg
       simp only [Bool.and_eq_true] at hg
       obtain ⟨g1, g2⟩ := hg
       have hkk : k' = k := hk.gd_eq (plainVal_gd g2)
       subst hkk
       split at hb
       · rename_i n
         split at hb
         · rename_i es hes
           obtain ⟨i, es', cl, rfl, hi, hq, hl, hrel⟩ := own_map R hx hes
           have hrel' : ∀ (j : Nat) (p : Value × Value) (q : MapEntry), es[j]? = some p → es'.toList[j]? = some q → q.key = p.1 ∧ VRel ρ p.2 q.val := fun j p q a b => hrel j p q a (by simpa using b)
           have hlt : i.blk < w.heap.size := (Array.getElem?_eq_some_iff.1 hq).1
           split at hb
           · rename_i m u hr
             cases hb
             rcases find_rel es es'.toList 0 _ (by simpa using hl) hrel' hr with ⟨h1, _⟩ | ⟨m, u, u', q, h1, h2, h3, h4, h5, h6⟩
             · cases h1
             · cases h1
               simp only [Nat.zero_add] at h2 ⊢
               have hq4 : es'[m]? = some q := by simpa using h4
               obtain ⟨r1, r2⟩ := R.update hes hi (o2 := .map (es.set m (k', v))) (o2' := .map (es'.modify m fun e => { e with key := k', val := v' }) cl)
                 (.map _ _ _ (by simp [hl]) fun j p q x y => by
                   rw [List.getElem?_set] at x
                   rw [Array.getElem?_modify] at y
                   by_cases hj : m = j
                   · subst hj
                     rw [if_pos rfl] at x
                     rw [if_pos h6] at x
                     cases x
                     rw [if_pos rfl, hq4] at y
                     cases y
                     exact ⟨rfl, hv⟩
                   · rw [if_neg hj] at x y
                     exact hrel j p q x y)
                 (World.putObj_heap_same (w := w) hlt) (fun r hr => World.putObj_heap_other hr) (by simp) rfl rfl rfl
               refine ⟨_, ?_, r1, r2⟩
               simp only [Instr.mapUpdate, Sem.run_bind, run_underlying hu, Result.andThen_ok, run_getMap hq, run_checkKey hd g1, run_findKey hd h2, hq4, Option.map_some, Option.getD_some, Instr.keyThatStays, sameBits_of h5, if_pos, Sem.run_pure]
               simp [setObj, Sem.run, hq, Result.andThen, World.putObj]
           · rename_i hr
             cases hb
             rcases find_rel es es'.toList 0 _ (by simpa using hl) hrel' hr with ⟨_, h2⟩ | ⟨m, u, u', q, h1, _⟩
             · obtain ⟨r1, r2⟩ := R.update hes hi (o2 := .map (es ++ [(k', v)])) (o2' := .map (es'.push { key := k', val := v', born := cl }) (cl + 1))
                 (.map _ _ _ (by simp [hl]) fun j p q x y => by
                   rw [List.getElem?_append] at x
                   rw [Array.getElem?_push] at y
                   by_cases hj : j < es.length
                   · rw [if_pos hj] at x
                     rw [if_neg (by omega)] at y
                     exact hrel j p q x y
                   · rw [if_neg hj] at x
                     by_cases hj2 : j = es.length
                     · subst hj2
                       rw [if_pos hl] at y
                       simp at x
                       cases y
                       subst x
                       exact ⟨rfl, hv⟩
                     · have : j - es.length = (j - es.length - 1) + 1 := by omega
                       rw [this] at x
                       simp at x)
                 (World.putObj_heap_same (w := w) hlt) (fun r hr => World.putObj_heap_other hr) (by simp) rfl rfl rfl
               refine ⟨_, ?_, r1, r2⟩
               simp only [Instr.mapUpdate, Sem.run_bind, run_underlying hu, Result.andThen_ok, run_getMap hq, run_checkKey hd g1, run_findKey hd h2]
               simp [setObj, Sem.run, hq, Result.andThen, World.putObj]
             · cases h1
           · cases hb
         · cases hb
       · cases hb
   · cases hb
 · cases hb
theorem map_rel (E : ERel ρ e a.tmps) (l : List Operand) : LRel ρ (l.map (aeval e)) (l.map a.eval) := by
 refine ⟨by simp, fun j u u' x y => ?_⟩
 rw [List.getElem?_map] at x y
 cases hj : l[j]? with
 | none => rw [hj] at x; cases x
 | some q => rw [hj] at x y; cases x; cases y; exact E.eval q
theorem ov_rel (E : ERel ρ e a.tmps) (x : Option Operand) : OV ρ (x.map (aeval e)) (x.map a.eval) := by
 cases x with
 | none => exact .inl ⟨rfl, rfl⟩
 | some x => exact .inr ⟨_, _, rfl, rfl, E.eval x⟩
theorem good_skip (R : Rep B G ρ h w) {s : Sem Unit} {w' : World} (hr : s.run P w = .ok () w') (h2 : Rep B G ρ h' w') (h3 : Step ρ h w ρ h' w') : Good P B G ρ h w (do s; pure .skip) undef h' :=
 ⟨.skip, w', by simp [hr], undef, ρ, .inr ⟨rfl, rfl⟩, .top _, h2, h3⟩
theorem pur_sound (R : Rep B G ρ h w) {s : Sem Value} {v : Value} (hb : (match prun P s with | some v => (match gd v with | true => some (v, h) | false => none) | none => none) = some (v, h')) : GoodV P B G ρ h w s v h' := by
 split at hb
 · rename_i u hp
   split at hb
   · rename_i hg
     cases hb
     exact GoodV.pure_ground R hp hg
   · cases hb
 · cases hb
theorem aop_sound (R : Rep B G ρ h w) (E : ERel ρ e a.tmps) (o : Oper) {v : Value} (hb : aop P G o.op e h = some (v, h')) : Good P B G ρ h w (execOp a.eval o) v h' := by
 obtain ⟨dst, op, ty, pos, after, guard⟩ := o
 simp only at hb
 cases op with
 | move x =>
   simp only [aop] at hb; cases hb
   exact ⟨.value _, w, by simp [execOp], _, ρ, .inl rfl, E.eval x, R, .refl _ _ _⟩
 | assign x =>
   simp only [aop] at hb; cases hb
   exact ⟨.value _, w, by simp [execOp], _, ρ, .inl rfl, E.eval x, R, .refl _ _ _⟩
 | pick c x y =>
   simp only [aop] at hb
   split at hb
   · rename_i t ht
     cases hb
     have hc := E.eval c
     rw [ht] at hc
     have hc' : a.eval c = .bool t := hc.gd_eq rfl
     cases t
     · exact ⟨.value (a.eval y), w, by simp [execOp, hc', asBool], _, ρ, .inl rfl, E.eval y, R, .refl _ _ _⟩
     · exact ⟨.value (a.eval x), w, by simp [execOp, hc', asBool], _, ρ, .inl rfl, E.eval x, R, .refl _ _ _⟩
   · cases hb
 | alloc t =>
   simp only [aop] at hb
   split at hb
   · rename_i z n hz hn
     split at hb
     · rename_i hg
       cases hb
       simp only [Bool.and_eq_true] at hg
       have g2 := Nat.eq_of_beq_eq_true hg.2
       have := (good_newVar (P := P) R t (n := n) (v := z) (v' := z) (gd_cells hg.1) g2)
       refine (GoodV.of_run this ?_).good
       simp [Instr.alloc, cr_ hz]
     · cases hb
   · cases hb
 | box t x =>
   simp only [aop] at hb
   split at hb
   · cases hb
   · rename_i hnt0 n hsz hnt
     split at hb
     · rename_i hq
       cases hb
       have hv := (E.eval x).cells (fun vs hvs => hnt vs hvs)
       exact (good_newVar (P := P) R t (n := n) hv (Nat.eq_of_beq_eq_true hq)).good
     · cases hb
   · cases hb
 | build t ps =>
   simp only [aop] at hb
   split at hb
   · rename_i u hu
     cases hb
     have := good_build (P := P) R (t := t) (ps := ps.toList.map fun p => (p.1, aeval e p.2)) (ps' := ps.toList.map fun p => (p.1, a.eval p.2)) (by simp) (parts_rel E ps.toList) hu
     refine (GoodV.of_run this ?_).good
     congr 1
     obtain ⟨ps⟩ := ps
     simp
   · cases hb
 | buildSlice t len ps =>
   simp only [aop] at hb
   have := good_buildSlice (P := P) R (t := t) (len := len) (ps := ps.toList.map fun p => (p.1, aeval e p.2)) (ps' := ps.toList.map fun p => (p.1, a.eval p.2)) (by simp) (parts_rel E ps.toList) hb
   refine (GoodV.of_run this ?_).good
   congr 1
   obtain ⟨ps⟩ := ps
   simp
 | load t x =>
   simp only [aop] at hb
   split at hb
   · rename_i ad had
     split at hb
     · rename_i u hu
       cases hb
       have hx := E.eval x
       rw [had] at hx
       obtain ⟨ad', hx', ha⟩ := hx.pointer_inv
       refine (GoodV.of_run (good_load (P := P) R ha hu) ?_).good
       simp [Instr.loadAt, hx', Instr.sureAddr]
     · cases hb
   · cases hb
 | store t x y =>
   simp only [aop] at hb
   split at hb
   · rename_i ad had
     split at hb
     · rename_i h2 hs
       cases hb
       have hx := E.eval x
       rw [had] at hx
       obtain ⟨ad', hx', ha⟩ := hx.pointer_inv
       obtain ⟨w', k1, k2, k3⟩ := good_store (P := P) R ha (E.eval y) hs
       exact good_skip R (s := Instr.storeAt t (a.eval x) (a.eval y)) (by simp [Instr.storeAt, hx', Instr.sureAddr, k1]) k2 k3
     · cases hb
   · cases hb
 | nilCheck x =>
   simp only [aop] at hb
   split at hb
   · rename_i ad had
     cases hb
     have hx := E.eval x
     rw [had] at hx
     obtain ⟨ad', hx', ha⟩ := hx.pointer_inv
     exact ⟨.value (.pointer (some ad')), w, by simp [execOp, hx'], _, ρ, .inl rfl, .pointer_mk ha, R, .refl _ _ _⟩
   · cases hb
 | binOp op t x y yt =>
   simp only [aop] at hb
   split at hb
   · rename_i hg
     simp only [Bool.and_eq_true] at hg
     have e1 : a.eval x = aeval e x := (E.eval x).gd_eq hg.1
     have e2 : a.eval y = aeval e y := (E.eval y).gd_eq hg.2
     have := pur_sound R hb
     refine Good.of_eq this.good ?_
     simp [execOp, e1, e2]
   · rename_i hg
     split at hb
     · split at hb
       · rename_i r hr
         cases hb
         obtain ⟨q1, q2, _⟩ := good_aeq (P := P) R (E.eval x) (E.eval y) hr x y
         refine (GoodV.still R (s := do eqGuard .eql t x y (a.eval x) (a.eval y); binOp .eql t (a.eval x) (a.eval y)) (v' := .bool r) ?_ (.bool _)).good
         simp [q1, q2]
       · cases hb
     · split at hb
       · rename_i r hr
         cases hb
         obtain ⟨q1, _, q2⟩ := good_aeq (P := P) R (E.eval x) (E.eval y) hr x y
         refine (GoodV.still R (s := do eqGuard .neq t x y (a.eval x) (a.eval y); binOp .neq t (a.eval x) (a.eval y)) (v' := .bool (!r)) ?_ (.bool _)).good
         simp [q1, q2]
       · cases hb
     · cases hb
 | unOp op t x =>
   simp only [aop] at hb
   split at hb
   · rename_i hg
     have e1 : a.eval x = aeval e x := (E.eval x).gd_eq hg
     refine Good.of_eq (pur_sound R hb).good ?_
     simp [execOp, e1]
   · cases hb
 | convert s d x =>
   simp only [aop] at hb
   split at hb
   · rename_i hg
     split at hb
     · rename_i r hr
       cases hb
       exact (good_convStr (P := P) R (E.eval x) hr).good
     · have e1 : a.eval x = aeval e x := (E.eval x).gd_eq hg
       refine Good.of_eq (pur_sound R hb).good ?_
       simp [execOp, e1]
   · exact (good_conv (r := (v, h')) R (E.eval x) hb).good
 | makeInterface t x =>
   simp only [aop] at hb
   split at hb
   · rename_i u hp
     simp only [Option.some.injEq, Prod.mk.injEq] at hb
     obtain ⟨rfl, rfl⟩ := hb
     have hu : ∃ d, P.underlying t = some d ∧ (∀ ms, d ≠ .interface ms) ∧ u = .iface t (aeval e x) := by
       have hr : (Instr.makeInterface t (aeval e x)).run P w = .ok u w := prun_run hp w
       cases hd : P.underlying t with
       | none => simp [Instr.makeInterface, Sem.run_bind, Go.underlying, hd] at hr
       | some d =>
         simp only [Instr.makeInterface, Sem.run_bind, run_underlying hd, Result.andThen_ok] at hr
         cases d <;> first | (simp at hr; done) | exact ⟨_, rfl, by intro ms; simp, by simpa using hr.symm⟩
     obtain ⟨d, h1, h2, rfl⟩ := hu
     refine (GoodV.still R (s := Instr.makeInterface t (a.eval x)) (v' := .iface t (a.eval x)) ?_ (.iface _ _ _ (E.eval x))).good
     simp only [Instr.makeInterface, Sem.run_bind, run_underlying h1, Result.andThen_ok]
     cases d <;> first | rfl | exact absurd rfl (h2 _)
   · cases hb
 | makeFunc fn first cap =>
   simp only [aop] at hb
   split at hb
   · cases hb
   · rename_i hny
     cases hb
     obtain ⟨first⟩ := first
     obtain ⟨cap⟩ := cap
     have r1 := map_rel E first
     have r2 := map_rel E cap
     refine ⟨.value (.func fn ⟨first.map a.eval⟩ ⟨cap.map a.eval⟩), w, by simp [execOp, Instr.makeFunc], _, ρ, .inl rfl, ?_, R, .refl _ _ _⟩
     have := VRel.func fn fn _ _ _ _ (.same fn (fun l e => hny l e)) r1.1 r2.1 r1.2 r2.2
     simpa using this
 | makeSlice t l c =>
   simp only [aop] at hb
   have hx : ∃ k1 l0 k2 c0, aeval e l = .int k1 l0 ∧ aeval e c = .int k2 c0 := by
     unfold amakeSlice at hb
     split at hb
     · rename_i h1 h2 _; exact ⟨_, _, _, _, by assumption, by assumption⟩
     · cases hb
   obtain ⟨k1, l0, k2, c0, e1, e2⟩ := hx
   have f1 : a.eval l = aeval e l := (E.eval l).gd_eq (by rw [e1]; rfl)
   have f2 : a.eval c = aeval e c := (E.eval c).gd_eq (by rw [e2]; rfl)
   refine Good.of_eq (good_makeSlice (P := P) (r := (v, h')) R hb).good ?_
   simp [execOp, f1, f2]
 | makeMap t r =>
   simp only [aop] at hb
   exact (good_makeMap (P := P) R (ov_rel E r) hb).good
 | lookup t x k ok =>
   simp only [aop] at hb
   split at hb
   · rename_i u hu
     cases hb
     exact (good_lookup (P := P) R (E.eval x) (E.eval k) hu).good
   · cases hb
 | mapUpdate t x k y =>
   simp only [aop] at hb
   split at hb
   · rename_i h2 hs
     cases hb
     obtain ⟨w', k1, k2, k3⟩ := good_mapUpdate (P := P) R (E.eval x) (E.eval k) (E.eval y) hs
     exact good_skip R k1 k2 k3
   · cases hb
 | insert t x k y =>
   simp only [aop] at hb
   split at hb
   · rename_i h2 hs
     cases hb
     obtain ⟨w', k1, k2, k3⟩ := good_mapUpdate (P := P) R (E.eval x) (E.eval k) (E.eval y) hs
     exact good_skip R k1 k2 k3
   · cases hb
 | slice t x lo hi mx =>
   simp only [aop] at hb
   split at hb
   · rename_i u hu
     cases hb
     exact (good_slice (P := P) R (E.eval x) (ov_rel E lo) (ov_rel E hi) (ov_rel E mx) hu).good
   · cases hb
 | fieldAddr s x f =>
   simp only [aop] at hb
   split at hb
   · rename_i fs ad hu had
     split at hb
     · rename_i fd hfd
       split at hb
       · rename_i n hn
         cases hb
         have hx := E.eval x
         rw [had] at hx
         obtain ⟨ad', hx', ha⟩ := hx.pointer_inv
         refine Good.of_eq (good_fieldAddr (P := P) R ha hu hfd hn).good ?_
         simp [execOp, hx']
       · cases hb
     · cases hb
   · cases hb
 | field t x f =>
   simp only [aop] at hb
   split at hb
   · rename_i fs cs hu hcs
     split at hb
     · rename_i fd hfd
       split at hb
       · rename_i u hp
         cases hb
         have hx := E.eval x
         rw [hcs] at hx
         generalize hax : a.eval x = x' at hx
         cases hx with
         | agg c1 c2 hl hh =>
           refine Good.of_eq (good_field (P := P) R ⟨hl, hh⟩ hu hfd hp).good ?_
           simp [execOp, hax]
       · cases hb
     · cases hb
   · cases hb
 | indexAddr t x ix =>
   simp only [aop] at hb
   split at hb
   · rename_i u hu
     cases hb
     exact (good_indexAddr (P := P) R (E.eval x) (E.eval ix) hu).good
   · cases hb
 | index t x ix =>
   simp only [aop] at hb
   split at hb
   · rename_i i len et cs hi hu hcs
     split at hb
     · rename_i n hn hd
       split at hb
       · rename_i u hp
         cases hb
         simp only [decide_eq_true_eq] at hd
         obtain ⟨k, hk⟩ := asInt_inv (E.eval ix) hi
         have hx := E.eval x
         rw [hcs] at hx
         generalize hax : a.eval x = x' at hx
         cases hx with
         | agg c1 c2 hl hh =>
           refine Good.of_eq (good_index (P := P) (k := k) R ⟨hl, hh⟩ hu hn hd hp).good ?_
           simp [execOp, hax, hk]
       · cases hb
     · cases hb
   · rename_i i s hi hu hs
     split at hb
     · rename_i hd
       split at hb
       · rename_i b hbb
         cases hb
         simp only [decide_eq_true_eq] at hd
         obtain ⟨k, hk⟩ := asInt_inv (E.eval ix) hi
         have hx := E.eval x
         rw [hs] at hx
         have hx' : a.eval x = .string s := hx.gd_eq rfl
         refine Good.of_eq (good_indexStr (P := P) (k := k) R hu hd hbb).good ?_
         simp [execOp, hx', hk]
       · cases hb
     · cases hb
   · cases hb
 | range t x =>
   simp only [aop] at hb
   split at hb
   · rename_i s hu hs
     cases hb
     have hx := E.eval x
     rw [hs] at hx
     have hx' : a.eval x = .string s := hx.gd_eq rfl
     refine Good.of_eq (good_range (P := P) R hu).good ?_
     simp [execOp, hx']
   · cases hb
 | next it str =>
   cases str with
   | false => simp [aop] at hb
   | true =>
     simp only [aop] at hb
     split at hb
     · rename_i n hn
       have hx := E.eval it
       rw [hn] at hx
       split at hb
       · rename_i s p hg
         split at hb
         · rename_i hlt
           cases hb
           exact (good_next (P := P) R hx hg (by simpa [Nat.blt_eq] using hlt)).good
         · rename_i hlt
           cases hb
           refine (good_nextEnd (P := P) R hx hg ?_).good
           intro hh
           have hh' : Nat.blt p s.size = true := by simpa [Nat.blt_eq] using hh
           rw [hh'] at hlt
           exact absurd hlt (by simp)
       · cases hb
     · cases hb
 | extract t ix =>
   simp only [aop] at hb
   split at hb
   · rename_i vs hvs
     split at hb
     · rename_i u hu
       cases hb
       have hx := E.eval t
       rw [hvs] at hx
       obtain ⟨vs⟩ := vs
       generalize hax : a.eval t = x' at hx
       cases hx with
       | top => simp at hu
       | tuple c1 cs1 c2 hl hh =>
         have hu' : (c1 :: cs1)[ix]? = some v := by simpa using hu
         have hlt : ix < c2.length := by rw [← hl]; exact (List.getElem?_eq_some_iff.1 hu').1
         have hg := List.getElem?_eq_getElem hlt
         refine ⟨.value c2[ix], w, ?_, _, ρ, .inl rfl, hh ix v _ hu' hg, R, .refl _ _ _⟩
         simp [execOp, hax, Instr.extract, hg]
     · cases hb
   · cases hb
 | call c =>
   obtain ⟨callee, args, ats⟩ := c
   cases callee with
   | builtin b =>
     refine Good.of_eq (builtin_sound R E (b := b) (args := args) (ats := ats) (ty := ty) (cs := args.map fun | .const _ => true | _ => false) hb) ?_
     simp [execOp, resolve, invoke]
     rfl
   | value f => simp [aop] at hb
   | invoke r m => simp [aop] at hb
 | _ => simp [aop] at hb
end Go.Ab
