/- Ranges over functions; arguments that are lists of structs. -/
import Derived.Test.YtdelgpbfdimefaaGreatDoorK3
set_option linter.all false
/- Cells that are slices, in a base. -/
namespace Go.Ab
open Go Go.RowKit Go.ChangeShapes Go.WideShapes Go.ChangeAt

/-- How a world's value stands in a base: plain values as they are, slices too, an empty one loose. -/
def baseV : Value → Option Value
  | .slice none l c => some (.slice none l c)
  | .slice (some a) l c => match l with
    | 0 => some (.slice (some ⟨0, 0, some 1⟩) 0 0)
    | l + 1 => match a.spot with
      | none => some (.slice (some a) (l + 1) c)
      | some _ => none
  | v => match gd v with
    | true => some v
    | false => none
theorem baseV_rel {v u : Value} (h : baseV v = some u) : VRel (fun _ => none) u v := by
  unfold baseV at h
  split at h
  · cases h; exact .nils _ _
  · split at h
    · cases h; exact .loose 0 0 _ _
    · split at h
      · rename_i hs; cases h; exact .bsl _ _ _ hs
      · cases h
  · split at h
    · rename_i hg; cases h; exact VRel.gd_refl hg
    · cases h
def wbase2 (w : World) : Base := fun a => match a.spot with
  | none => match w.cell? a with
    | some v => baseV v
    | none => none
  | some _ => none
theorem wbase2_some {w : World} {a : Addr} {v u : Value} (h : w.cell? a = some v) (g : baseV v = some u) : wbase2 w a = some u := by
  unfold wbase2
  rw [cell_spot h]
  simp only [h, g]
theorem wbase2_ok (w : World) : BaseOk w.heap.size (wbase2 w) w := by
  refine ⟨fun a v e => ?_, Nat.le_refl _⟩
  unfold wbase2 at e
  split at e
  · rename_i hs
    split at e
    · rename_i u hu
      exact ⟨hs, cell_lt hu, u, hu, baseV_rel e⟩
    · cases e
  · cases e
theorem baseV_gd {v : Value} (g : gd v = true) : baseV v = some v := by
  unfold baseV
  split
  · rfl
  · simp [gd, gnd] at g
  · rw [g]
end Go.Ab

/- Lists of structs as arguments: their cells in a base. -/
namespace Go.Ab
open Go Go.RowKit Go.ChangeShapes Go.WideShapes Go.ChangeAt

variable {P : Program} {H' : Type} {enc : TypeId × Value → H'} {w : World} {base : Nat} {sp : Nat → Bool} {held : Bool}

theorem flat_get {α : Type} (f : α → List Value) {es : Nat} (hes : es ≠ 0) (hf : ∀ a, (f a).length = es) : ∀ (l : List α) (q : Nat) (v : Value), (l.flatMap f)[q]? = some v → ∃ i a j, q = i * es + j ∧ j < es ∧ l[i]? = some a ∧ (f a)[j]? = some v
  | [], q, v, h => by simp at h
  | a :: l, q, v, h => by
    rw [List.flatMap_cons] at h
    by_cases hq : q < es
    · rw [List.getElem?_append_left (by rw [hf]; exact hq)] at h
      exact ⟨0, a, q, by omega, hq, rfl, h⟩
    · rw [List.getElem?_append_right (by rw [hf]; omega), hf] at h
      obtain ⟨i, b, j, e1, e2, e3, e4⟩ := flat_get f hes hf l _ v h
      exact ⟨i + 1, b, j, by rw [Nat.succ_mul]; omega, e2, by simpa using e3, e4⟩

/-- What a slice's element reads as, in the base's values. -/
theorem trod_slN {α : Type} (f : α → List Value) (R : α → Prop) {es : Nat} (hes : es ≠ 0) (hf : ∀ a, (f a).length = es) {t e : TypeId} {fuel : Nat} {cs : List Value} {x : DataW H' × List MemPlace} (ht : P.underlying t = some (.slice e)) (hc : P.cellsOf e = es)
    (hel : ∀ (fuel : Nat) (cs : List Value) (x : DataW H' × List MemPlace), cs.length = es → DataW.trod enc P w base sp held fuel e cs = some x → ∃ y, R y ∧ ∀ (j : Nat) u, (f y)[j]? = some u → ∃ z, cs[j]? = some z ∧ baseV z = some u)
    (hfu : DataW.trod enc P w base sp held fuel t cs = some x) : ∃ (v v0 : Value) (n : Nat) (l : List α), cs = [v] ∧ baseV v = some v0 ∧ Sl (wbase2 w) H.empty es v0 n (l.flatMap f) ∧ l.length = n ∧ ∀ a ∈ l, R a := by
  rcases DataW.trod_slice ht hfu with ⟨rfl, _⟩ | ⟨a, n0, c0, elems, rest, m, _, rfl, _, hb, hl, hm, hlen, hel2, _, _⟩
  · exact ⟨_, .slice none 0 0, 0, [], rfl, rfl, .nil, rfl, fun _ h => by cases h⟩
  · refine ⟨.slice (some a) n0 c0, ?_⟩
    by_cases h0 : n0 = 0
    · subst h0
      exact ⟨.slice (some ⟨0, 0, some 1⟩) 0 0, 0, [], rfl, rfl, .end' 0 0, rfl, fun _ h => by cases h⟩
    have each : ∀ i, i < n0 → ∃ y, R y ∧ ∀ (j : Nat) u, (f y)[j]? = some u → ∃ z, w.cell? ((a.add (i * es)).add j) = some z ∧ baseV z = some u := by
      intro i hi
      obtain ⟨y, hy⟩ : ∃ y, elems[i]? = some y := ⟨_, List.getElem?_eq_getElem (by omega)⟩
      have h1 := hel2 i hi
      rw [hy, hc, Option.bind_eq_some_iff] at h1
      obtain ⟨cs', hcs', hy'⟩ := h1
      obtain ⟨_, c1, c2⟩ := World.cells?_some hcs'
      obtain ⟨q, hR, hq⟩ := hel _ _ _ c1 hy'
      refine ⟨q, hR, fun j u hj => ?_⟩
      obtain ⟨z, z1, z2⟩ := hq j u hj
      have : j < es := by rw [← hf q]; exact (List.getElem?_eq_some_iff.1 hj).1
      exact ⟨z, by rw [c2 j this]; exact z1, z2⟩
    have hs : a.spot = none := by
      obtain ⟨y0, _, hy0⟩ := each 0 (by omega)
      obtain ⟨u, hu⟩ : ∃ u, (f y0)[0]? = some u := ⟨_, List.getElem?_eq_getElem (by rw [hf]; omega)⟩
      obtain ⟨z, z1, _⟩ := hy0 0 u hu
      have := cell_spot z1
      simpa [Addr.add] using this
    have hl2 : ∀ k, k ≤ n0 → ∃ l : List α, l.length = k ∧ (∀ a ∈ l, R a) ∧ ∀ i y, l[i]? = some y → ∀ (j : Nat) u, (f y)[j]? = some u → ∃ z, w.cell? ((a.add (i * es)).add j) = some z ∧ baseV z = some u := by
      intro k
      induction k with
      | zero => exact fun _ => ⟨[], rfl, (fun _ h => by cases h), fun i y q => by simp at q⟩
      | succ k ih =>
        intro hk
        obtain ⟨l, e1, e3, e2⟩ := ih (by omega)
        obtain ⟨y, hR, hy⟩ := each k (by omega)
        refine ⟨l ++ [y], by simp [e1], fun a ha => ?_, fun i z q => ?_⟩
        · rcases List.mem_append.1 ha with ha | ha
          · exact e3 a ha
          · simp at ha; subst ha; exact hR
        · by_cases hi : i < l.length
          · rw [List.getElem?_append_left hi] at q
            exact e2 i z q
          · rw [List.getElem?_append_right (by omega)] at q
            have : i = k := by
              have := (List.getElem?_eq_some_iff.1 q).1
              simp at this
              omega
            subst this
            rw [e1, Nat.sub_self] at q
            simp at q
            subst q
            exact hy
    obtain ⟨l, e1, e3, e2⟩ := hl2 n0 (Nat.le_refl _)
    obtain ⟨n1, rfl⟩ : ∃ n1, n0 = n1 + 1 := ⟨n0 - 1, by omega⟩
    have hflen : (l.flatMap f).length = (n1 + 1) * es := by
      rw [← e1]
      clear e1 e2 e3
      induction l with
      | nil => simp
      | cons b l ih => rw [List.flatMap_cons, List.length_append, ih, hf, List.length_cons, Nat.succ_mul]; omega
    refine ⟨.slice (some a) (n1 + 1) c0, n1 + 1, l, rfl, by simp only [baseV, hs], .mem a _ c0 _ hflen ⟨(fun q => by rw [hs] at q; cases q), fun i v q => ?_, .inl hs, (fun q => by rw [hs] at q; cases q)⟩ hl (fun q => by rw [hs] at q; cases q), e1, e3⟩
    obtain ⟨k, y, j, q1, q2, q3, q4⟩ := flat_get f hes hf l i v q
    obtain ⟨z, z1, z2⟩ := e2 k y q3 j v q4
    have hadd : (a.add (k * es)).add j = aadd a i := by
      subst q1
      unfold Addr.add aadd
      obtain ⟨ab, ao, as⟩ := a
      simp only at hs
      subst hs
      split <;> split <;> simp_all <;> omega
    rw [hadd] at z1
    unfold acell
    have hs2 : (aadd a i).spot = none := hs
    rw [hs2]
    exact wbase2_some z1 z2
/-- Fields, each by itself. -/
theorem trod_fields {t : TypeId} {fs : Array Field} {fuel : Nat} {cs : List Value} {x : DataW H' × List MemPlace} (ht : P.underlying t = some (.struct fs)) (h : DataW.trod enc P w base sp held fuel t cs = some x) :
    cs.length = P.cellsOf t ∧ ∀ f ∈ fs.toList, ∃ fuel' y, DataW.trod enc P w base sp held fuel' f.type ((cs.drop f.offset).take (P.cellsOf f.type)) = some y := by
  cases fuel with
  | zero => simp [DataW.trod] at h
  | succ m =>
    simp only [DataW.trod, ht] at h
    split at h
    · rename_i hl
      obtain ⟨xs, hm, _⟩ := Option.map_eq_some_iff.1 h
      refine ⟨hl, fun f hf => ?_⟩
      obtain ⟨y, q⟩ := mapM_each hm f hf
      exact ⟨m, y, q⟩
    · cases h
theorem trod_ints {t e : TypeId} {n : Nat} {k : IntKind} {fuel : Nat} {cs : List Value} {x : DataW H' × List MemPlace} (ht : P.underlying t = some (.array n e)) (he : P.underlying e = some (.int k)) (hce : P.cellsOf e = 1) (hct : P.cellsOf t = n)
    (h : DataW.trod enc P w base sp held fuel t cs = some x) : ∃ ls : List Int, cs = ls.map (.int k) ∧ ls.length = n := by
  cases fuel with
  | zero => simp [DataW.trod] at h
  | succ m =>
    simp only [DataW.trod, ht] at h
    split at h
    · rename_i hl
      rw [hct] at hl
      obtain ⟨xs, hm, _⟩ := Option.map_eq_some_iff.1 h
      obtain ⟨ls, rfl⟩ := all_ints (k := k) (cs := cs) fun v hv => by
        obtain ⟨i, hi, rfl⟩ := List.getElem_of_mem hv
        obtain ⟨b, hb⟩ := mapM_each hm i (List.mem_range.2 (by omega))
        obtain ⟨a, ea, _, _⟩ := DataW.trod_int he hb
        rw [hce, Nat.mul_one, List.drop_eq_getElem_cons hi] at ea
        simp only [List.take_succ_cons, List.take_zero, List.cons.injEq, and_true] at ea
        exact ⟨a, ea⟩
      exact ⟨ls, rfl, by simpa using hl⟩
    · cases h
end Go.Ab

/- The logic: ranges over functions. -/
namespace Go.Ab
open Go

def putK : KL → List Tmp → List Value → Option KL
  | l, [], [] => some l
  | l, t :: ts, v :: vs => putK ((t, v) :: l) ts vs
  | _, _, _ => none
def okTs (sz : Nat) (ts : List Tmp) : Bool := ts.all fun t => Nat.blt t sz
theorem putAll_ok {sz : Nat} : ∀ {ts : List Tmp} {vs : List Value} {l l' : KL} {e : Env}, Has sz l e → okTs sz ts = true → putK l ts vs = some l' → ∃ e', putAll e ts vs = some e' ∧ Has sz l' e'
  | [], [], l, l', e, he, _, h => by
    simp only [putK] at h; cases h
    exact ⟨e, rfl, he⟩
  | t :: ts, v :: vs, l, l', e, he, ho, h => by
    simp only [okTs, List.all_cons, Bool.and_eq_true] at ho
    obtain ⟨e1, p1, h1⟩ := he.put ho.1 v
    simp only [putK] at h
    obtain ⟨e2, p2, h2⟩ := putAll_ok h1 ho.2 h
    exact ⟨e2, by simp only [putAll, p1, p2], h2⟩
  | [], _ :: _, _, _, _, _, _, h => by simp [putK] at h
  | _ :: _, [], _, _, _, _, _, h => by simp [putK] at h

/-- What a round leaves: the heap as it ends, by how it ends. -/
def RndQ (n : Nat) (Q : Value → H → Prop) (x : X) (h3 : H) : Prop :=
  ∃ st pd env ps assign body, h3.get n = some (.loop st pd env ps assign body) ∧ (match x with
    | .norm => Q (.bool true) (h3.set n (.loop .ready none env ps assign body))
    | .exit id => Q (.bool false) (h3.set n (.loop .done (some (.exit id)) env ps assign body))
    | .ret => Q (.bool false) (h3.set n (.loop .done (some .ret) env ps assign body)))
/-- A round of a range over a function. -/
theorem cf_round {M : Mc} {n sz : Nat} {st : LoopState} {pd : Option Code} {e : Env} {ps : Array Tmp} {assign body : Code} {l l1 : KL} {args : List Value} {h : H} {Q : Value → H → Prop}
    (hg : h.get n = some (.loop st pd e ps assign body)) (he : Has sz l e) (hp : okTs sz ps.toList = true) (hk : putK l ps.toList args = some l1)
    (w : Wc M (some n) assign sz l1 h fun x l2 h2 => x = .norm ∧ ∃ pd2 e2 ps2 as2 bd2, h2.get n = some (.loop .ready pd2 e2 ps2 as2 bd2) ∧
      Wc M (some n) body sz l2 (h2.set n (.loop .busy pd2 e2 ps2 as2 bd2)) fun x _ h3 => RndQ n Q x h3) : Cf M (.func (.yield n) #[] #[]) args h Q := by
  obtain ⟨e1, p1, h1⟩ := putAll_ok he hp hk
  obtain ⟨x, e2, h2, l2, ⟨n1, q1⟩, q2, rfl, pd2, e2', ps2, as2, bd2, g2, w2⟩ := w e1 h1
  obtain ⟨x3, e3, h3, l3, ⟨n3, q3⟩, _, st4, pd4, e4, ps4, as4, bd4, g4, q4⟩ := w2 e2 q2
  have key : ∀ (v : Value) (hf : H), (∀ r, ∀ k, max n1 n3 ≤ k → r = ev M.P M.G M.E k → evRound M.P M.G r n args h = some (v, hf)) → Cl M (.func (.yield n) #[] #[]) args h v hf := fun v hf q => ⟨max n1 n3 + 1, fun m hm => by
    obtain ⟨m, rfl⟩ : ∃ k, m = k + 1 := ⟨m - 1, by omega⟩
    simp only [ev, evCall]
    exact q _ m (by omega) rfl⟩
  cases x3 with
  | norm =>
    refine ⟨_, _, key _ _ fun r k hk hr => ?_, q4⟩
    subst hr
    simp only [evRound, hg, p1, q1 k (by omega), g2, q3 k (by omega), g4]
  | exit i =>
    refine ⟨_, _, key _ _ fun r k hk hr => ?_, q4⟩
    subst hr
    simp only [evRound, hg, p1, q1 k (by omega), g2, q3 k (by omega), g4]
  | ret =>
    refine ⟨_, _, key _ _ fun r k hk hr => ?_, q4⟩
    subst hr
    simp only [evRound, hg, p1, q1 k (by omega), g2, q3 k (by omega), g4]

/-- How a range over a function ends. -/
def RfQ (n : Nat) (l : KL) (Q : X → KL → H → Prop) (h2 : H) : Prop :=
  ∃ st pd env ps assign body, h2.get n = some (.loop st pd env ps assign body) ∧ st ≠ .busy ∧ (match pd with
    | none => Q .norm l (h2.kill n)
    | some (.exit id) => Q (.exit id) l (h2.kill n)
    | some .ret => Q .ret l (h2.kill n)
    | _ => False)
theorem wc_rangeFunc {M : Mc} {f : Operand} {ps : Array Tmp} {assign body : Code} {sz : Nat} {l : KL} {h : H} {Q : X → KL → H → Prop} {fv : Value} (hf : val l f = some fv)
    (w : ∀ e, Has sz l e → Cf M fv [.func (.yield h.nx) #[] #[]] (h.push (.loop .ready none e ps assign body)) fun _ h2 => RfQ h.nx l Q h2) : Wc M none (.rangeFunc f ps assign body) sz l h Q := by
  intro e he
  obtain ⟨v, h2, ⟨n, q⟩, st, pd, env, ps2, as2, bd2, g, hst, hq⟩ := w e he
  have hfe : aeval e f = fv := (he.sees (.move f)).val (by simp [Op.operands]) hf
  cases pd with
  | none => exact ⟨.norm, e, _, l, ⟨n, fun k hk => by
      have hc := q k hk
      simp only [evC, hfe, hc, g]⟩, he, hq⟩
  | some c =>
    cases c with
    | exit id => exact ⟨.exit id, e, _, l, ⟨n, fun k hk => by
      have hc := q k hk
      simp only [evC, hfe, hc, g]⟩, he, hq⟩
    | ret => exact ⟨.ret, e, _, l, ⟨n, fun k hk => by
      have hc := q k hk
      simp only [evC, hfe, hc, g]⟩, he, hq⟩
    | _ => exact hq.elim
theorem op_idxArrO {M : Mc} {l : KL} {h : H} {t : TypeId} {x y : Operand} {n b off : Nat} {sp : Option Nat} {i : Int} {k : IntKind} {len : Nat} {et : TypeId} {o : Nat} (hx : val l x = some (.pointer (some ⟨b, off, sp⟩))) (hy : val l y = some (.int k i)) (hu : M.P.underlying t = some (.array len et)) (hn : tsz M.P et = some n) (h0 : 0 ≤ i) (h1 : i < len) (ho : off + i.toNat * n = o) :
    Op1 M (.indexAddr t x y) l h (.pointer (some ⟨b, o, sp⟩)) h := by
  subst ho
  exact op_idxArr' hx hy hu hn h0 h1
section
variable {M : Mc} {h : H} {e : TypeId} {es n : Nat} {dd : TypeDesc}
theorem append_copy2 {B : Nat} {st xt : TypeId} {by' m : Nat} {z' w : Value} {new : List Value} (hu : M.P.underlying st = some (.slice e)) (hxu : M.P.underlying xt = some dd) (hdd : (match dd with | .int _ => false | _ => true) = true) (hs : tsz M.P e = some es) (hb : tby M.P e = some by') (hz : tzero M.P e = some z')
    (hg : (gd z' && Nat.beq z'.cells.size es && !(Nat.beq es 0) && !(Nat.beq by' 0)) = true) (hat : At h B (.cells [] e es false)) (sl : Sl M.G h es w m new) (hone : new.all one = true) (hle : m * by' ≤ 70368744177664) :
    ∃ r h', aappend M.P M.G h st xt (.slice (some ⟨B, 0, some 0⟩) 0 0) w = some (r, h') ∧ (∃ b sf, r = .slice (some ⟨b, 0, some 0⟩) m m ∧ B ≤ b ∧ At h' b (.cells new e es sf)) ∧ Grow h h' ∧ (Wf h → Wf h') := by
  simp only [Bool.and_eq_true] at hg
  obtain ⟨⟨⟨g1, g2⟩, g3⟩, g4⟩ := hg
  have hlen := sl.length
  obtain ⟨wa, wc, rfl⟩ := sl.form
  have hf := sl.first
  have han : anews M.P M.G h xt es z'.cells.toList (.slice wa m wc) = some (m, new) := by
    unfold anews
    rw [hxu]
    cases dd <;> first | (simp at hdd; done) | simp only [alen, hf]
  have hle' : (0 + m) * by' ≤ 70368744177664 := by rw [Nat.zero_add]; exact hle
  have hcond : (gd z' && Nat.beq z'.cells.size es && !(Nat.beq es 0) && !(Nat.beq by' 0) && Nat.ble ((0 + m) * by') 70368744177664 && new.all one && Nat.beq new.length (m * es)) = true := by
    simp only [g1, g2, g3, g4, hone, hlen, nbeq_self, ble_dec, decide_eq_true hle', Bool.and_self]
  by_cases hm : m = 0
  · subst hm
    have hn0 : new = [] := by simpa using hlen
    subst hn0
    refine ⟨.slice (some ⟨B, 0, some 0⟩) 0 0, h, ?_, ⟨B, false, rfl, Nat.le_refl _, hat⟩, .refl _, id⟩
    unfold aappend
    have hb0 : Nat.ble (0 + 0) 0 = true := rfl
    simp only [hu, hs, hb, hz, han, hcond, hb0]
    try rfl
  · refine ⟨.slice (some ⟨h.nx, 0, some 0⟩) m m, h.push (.cells new e es true), ?_, ⟨h.nx, true, rfl, Nat.le_of_lt hat.lt, At.new _ _⟩, (Grow.refl _).push _, fun w => w.push _⟩
    unfold aappend
    have hb0 : Nat.ble (0 + m) 0 = false := by rw [ble_dec]; simp; omega
    have hfo : afirst M.G h es 0 (.slice (some ⟨B, 0, some 0⟩) 0 0) = some [] := (Sl.ofAt (G := M.G) hat (by simp) (Nat.le_refl _)).first
    simp only [hu, hs, hb, hz, han, hcond, hb0, hfo]
    unfold agrow
    have hl2 : ([] ++ new).length = (0 + m) * es := by simpa using hlen
    simp only [hl2, nbeq_self, hat.get, Bool.false_and, List.nil_append, Nat.zero_add, hlen]
end
section
variable {M : Mc} {h : H} {e : TypeId} {es n : Nat} {dd : TypeDesc}
theorem append_nil_eq {st xt : TypeId} {by' m : Nat} {z' w : Value} {new : List Value} (hu : M.P.underlying st = some (.slice e)) (hxu : M.P.underlying xt = some dd) (hdd : (match dd with | .int _ => false | _ => true) = true) (hs : tsz M.P e = some es) (hb : tby M.P e = some by') (hz : tzero M.P e = some z')
    (hg : (gd z' && Nat.beq z'.cells.size es && !(Nat.beq es 0) && !(Nat.beq by' 0)) = true) (sl : Sl M.G h es w m new) (hone : new.all one = true) (hle : (0 + m) * by' ≤ 70368744177664) (hm : m ≠ 0) : aappend M.P M.G h st xt (.slice none 0 0) w = some (.slice (some ⟨h.nx, 0, some 0⟩) m m, h.push (.cells new e es true)) := by
  simp only [Bool.and_eq_true] at hg
  obtain ⟨⟨⟨g1, g2⟩, g3⟩, g4⟩ := hg
  have hlen := sl.length
  obtain ⟨wa, wc, rfl⟩ := sl.form
  have hf := sl.first
  have han : anews M.P M.G h xt es z'.cells.toList (.slice wa m wc) = some (m, new) := by
    unfold anews
    rw [hxu]
    cases dd <;> first | (simp at hdd; done) | simp only [alen, hf]
  have hcond : (gd z' && Nat.beq z'.cells.size es && !(Nat.beq es 0) && !(Nat.beq by' 0) && Nat.ble ((0 + m) * by') 70368744177664 && new.all one && Nat.beq new.length (m * es)) = true := by
    simp only [g1, g2, g3, g4, hone, hlen, nbeq_self, ble_dec, decide_eq_true hle, Bool.and_self]
  unfold aappend
  have hb0 : Nat.ble (0 + m) 0 = false := by rw [ble_dec]; simp; omega
  simp only [hu, hs, hb, hz, han, hcond, hb0]
  have : afirst M.G h es 0 (.slice none 0 0) = some [] := rfl
  simp only [this, List.nil_append]
  unfold agrow
  simp only [Nat.zero_add, hlen, nbeq_self]
theorem append_own_eq {st xt : TypeId} {by' m : Nat} {z' w : Value} {new : List Value} (hu : M.P.underlying st = some (.slice e)) (hxu : M.P.underlying xt = some dd) (hdd : (match dd with | .int _ => false | _ => true) = true) (hs : tsz M.P e = some es) (hb : tby M.P e = some by') (hz : tzero M.P e = some z')
    (hg : (gd z' && Nat.beq z'.cells.size es && !(Nat.beq es 0) && !(Nat.beq by' 0)) = true) (sl : Sl M.G h es w m new) (hone : new.all one = true) {b : Nat} {c : List Value} (hat : At h b (.cells c e es true)) (hcl : c.length = n * es) (hle : (n + m) * by' ≤ 70368744177664) (hm : m ≠ 0) : aappend M.P M.G h st xt (.slice (some ⟨b, 0, some 0⟩) n n) w = some (.slice (some ⟨h.nx, 0, some 0⟩) (n + m) (n + m), (h.kill b).push (.cells (c ++ new) e es true)) := by
  simp only [Bool.and_eq_true] at hg
  obtain ⟨⟨⟨g1, g2⟩, g3⟩, g4⟩ := hg
  have hlen := sl.length
  obtain ⟨wa, wc, rfl⟩ := sl.form
  have hf := sl.first
  have han : anews M.P M.G h xt es z'.cells.toList (.slice wa m wc) = some (m, new) := by
    unfold anews
    rw [hxu]
    cases dd <;> first | (simp at hdd; done) | simp only [alen, hf]
  have hcond : (gd z' && Nat.beq z'.cells.size es && !(Nat.beq es 0) && !(Nat.beq by' 0) && Nat.ble ((n + m) * by') 70368744177664 && new.all one && Nat.beq new.length (m * es)) = true := by
    simp only [g1, g2, g3, g4, hone, hlen, nbeq_self, ble_dec, decide_eq_true hle, Bool.and_self]
  unfold aappend
  have hb0 : Nat.ble (n + m) n = false := by rw [ble_dec]; simp; omega
  have hfo : afirst M.G h es n (.slice (some ⟨b, 0, some 0⟩) n n) = some c := (Sl.ofAt (G := M.G) hat hcl (Nat.le_refl _)).first
  simp only [hu, hs, hb, hz, han, hcond, hb0, hfo]
  unfold agrow
  have hl2 : (c ++ new).length = (n + m) * es := by rw [List.length_append, hcl, hlen, Nat.add_mul]
  simp only [hl2, nbeq_self, hat.get, Nat.zero_add, hcl, Bool.and_self]
end
theorem rq0 {M : Mc} {Q : Value → H → Prop} {l : KL} {h : H} (q : Q (packed []) h) : RetQ M [] Q .ret l h := ⟨trivial, [], rfl, q⟩
theorem rq0n {M : Mc} {Q : Value → H → Prop} {l : KL} {h : H} (q : Q (packed []) h) : RetQ M [] Q .norm l h := ⟨trivial, [], rfl, q⟩
/-! room for what a region may lay, by name -/
def H.bump (h : H) (k : Nat) : H := { tr := h.tr, nx := h.nx + k }
theorem H.nx_bump (h : H) (k : Nat) : (h.bump k).nx = h.nx + k := rfl
theorem At.bumpB {h : H} {b k : Nat} {o : AObj} (a : At h b o) : At (h.bump k) b o := a.bump
theorem Grow.bumpB {g h : H} (x : Grow g h) (k : Nat) : Grow g (h.bump k) := x.bump k
theorem Wf.bumpB {h : H} (w : Wf h) (k : Nat) : Wf (h.bump k) := w.bump k
theorem stk_freeB {as : List (Nat × AObj)} {js : List Nat} {g hh : H} {a k : Nat} (hj : idxL as = some js) (hk : (js.all fun j => Nat.blt j k) = true) (hw : Wf hh) (hg : Grow (hh.bump k) g) : (as.all fun q => a.testBit q.1 || (g.get (hh.nx + q.1)).isNone) = true := stk_free hj hk hw hg
theorem wc_drawB {M : Mc} {ro : Option Nat} {id sz : Nat} {os : List Oper} {l : KL} {h : H} {Q : X → KL → H → Prop} (k : Nat) (ms ix : List Nat) (hm : masksFrom os [] = some ms) (ht : tmpsOk os.toArray (os.zip ms) = true)
    (hi : (Nat.beq os.length k && Nat.beq ms.length k) = true) (hx : List.range' 0 k = ix)
    (w : WX M os.toArray h.nx sz (Q .norm) os ms ix l (h.bump k) 0 [] [] [] []) : Wc M ro (.region id os.toArray true) sz l h Q := wc_draw k ms ix hm ht hi hx rfl w
end Go.Ab

/- What a walk repeats, as arguments that fill themselves. -/
namespace Go.Ab
theorem ne_A {p : Prop} (q : p := by first | (simp only [H.nx_push, H.nx_set, H.nx_kill, H.nx_bump]; omega) | omega) : p := q
theorem lt_A {p : Prop} (q : p := by first | (simp only [H.nx_push, H.nx_set, H.nx_kill, H.nx_bump]; omega) | omega | exact At.lt (by with_reducible assumption)) : p := q
theorem at_A {h : H} {b : Nat} {o : AObj} (q : At h b o := by repeat (first | with_reducible assumption | with_reducible exact At.lay lt_A | (with_reducible refine At.set_ne ?_ ?hne _; (case hne => first | (simp only [H.nx_push, H.nx_set, H.nx_kill, H.nx_bump]; omega) | omega)) | ((with_reducible refine (?_ : At (H.push _ _) _ _)); first | with_reducible exact At.new _ _ | exact At.new _ _ | with_reducible refine At.push ?_ _) | (with_reducible refine At.kill_ne ?_ ?hne; (case hne => first | (simp only [H.nx_push, H.nx_set, H.nx_kill, H.nx_bump]; omega) | omega)) | with_reducible refine At.bumpB ?_ | with_reducible refine At.grow ?_ (by with_reducible assumption))) : At h b o := q
theorem wf_A {h : H} (q : Wf h := by repeat (first | with_reducible assumption | with_reducible exact Wf.empty | with_reducible refine Wf.push ?_ _ | with_reducible refine Wf.kill ?_ _ | with_reducible refine Wf.set ?_ lt_A _ | with_reducible refine Wf.bumpB ?_ _ | with_reducible refine Grow.wf (by with_reducible assumption) ?_)) : Wf h := q
theorem gr_A {g h : H} (q : Grow g h := by repeat (first | with_reducible assumption | with_reducible exact Grow.refl _ | with_reducible refine Grow.push ?_ _ | with_reducible refine Grow.kill ?_ ne_A | with_reducible refine Grow.set ?_ ne_A lt_A _ | with_reducible refine Grow.bumpB ?_ _ | with_reducible refine Grow.trans ?_ (by with_reducible assumption))) : Grow g h := q
theorem gr_B {g h : H} (q : Grow g h := by repeat (first | with_reducible assumption | with_reducible exact Grow.refl _ | with_reducible refine Grow.trans ?_ (by with_reducible assumption))) : Grow g h := q
theorem dead_A {p r : Prop} (hb : p) (q : r := by exfalso; (try simp only [decide_eq_true_eq, decide_eq_false_iff_not, Bool.not_eq_true', Bool.not_eq_false', Int.not_lt, Int.not_le, Decidable.not_not, not_true_eq_false, not_false_eq_true, beq_self_eq_true, reduceCtorEq] at hb); omega) : r := q
end Go.Ab
