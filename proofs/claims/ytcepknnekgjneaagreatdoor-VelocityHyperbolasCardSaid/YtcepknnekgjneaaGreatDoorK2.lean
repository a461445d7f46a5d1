/- The logic: regions that draw their order, memory, equality, slices. -/
import Derived.Test.YtcepknnekgjneaaGreatDoorK1
import Derived.Test.YtcepknnekgjneaaGreatDoorA5
set_option linter.all false
/- The logic's regions that draw their order. -/
namespace Go.Ab
open Go

/-- What an operation yields, wherever it is done. -/
def Op1q (M : Mc) (op : Op) (l : KL) (h : H) (v : Value) : Prop := ∀ e, Sees op l e → ∃ h', aop M.P M.G op e h = some (v, h')

def noHeap : Op → Bool
  | .move _ | .assign _ | .pick .. | .build .. | .nilCheck _ | .binOp .. | .unOp .. | .makeInterface .. | .makeFunc .. | .fieldAddr .. | .field .. | .indexAddr .. | .index .. | .extract .. => true
  | .call c => match c.callee with
    | .builtin .len | .builtin .min | .builtin .max | .builtin .real | .builtin .imag | .builtin .complex => true
    | _ => false
  | _ => false

def vdep : Nat → Value → Bool
  | 0, _ => false
  | _ + 1, .bool _ | _ + 1, .int _ _ | _ + 1, .float _ _ | _ + 1, .complex _ _ _ | _ + 1, .string _ | _ + 1, .pointer _ | _ + 1, .slice _ _ _ | _ + 1, .map _ | _ + 1, .nilFunc | _ + 1, .nilIface | _ + 1, .chan none => true
  | n + 1, .iface _ v => vdep n v
  | n + 1, .agg ⟨a⟩ => a.all (vdep n)
  | n + 1, .tuple ⟨a :: as⟩ => vdep n a && as.all (vdep n)
  | n + 1, .func _ ⟨a⟩ ⟨c⟩ => a.all (vdep n) && c.all (vdep n)
  | _, _ => false

/-! ### The run in the order of the text -/
structure TR where
  r : DRes
  l : KL

/-- An operation that looks at memory, and what it yielded. -/
structure OB where
  op : Op
  l : KL
  v : Value
  m : Nat
  i : Nat

def skp (s : Stage) (m i : Nat) : Bool := s.abs.testBit i || (match s.nxt with | none => false | some x => m.testBit x)
def OblS (M : Mc) (nx0 : Nat) (as : List (Nat × AObj)) (op : Op) (l : KL) (v : Value) (m i : Nat) (st : List Stage) : Prop :=
  ∀ s ∈ st, skp s m i = true ∨ Op1q M op l (addAs nx0 (unseen m s.abs) as s.g) v
def OblL (M : Mc) (nx0 : Nat) (as : List (Nat × AObj)) (st : List Stage) (obs : List OB) : Prop :=
  ∀ b ∈ obs, OblS M nx0 as b.op b.l b.v b.m b.i st

def ConsT (M : Mc) (nx0 : Nat) (as : List (Nat × AObj)) (st : List Stage) (sz : Nat) : List (Oper × Nat) → List TR → Nat → Env → Prop
  | (o, m) :: oms, t :: ts, i, e => Has sz t.l e ∧ (match t.r.k with
      | .q => vdep 6 t.r.v = true ∧ ((noHeap o.op = true ∧ ∃ h, Op1q M o.op t.l h t.r.v) ∨ OblS M nx0 as o.op t.l t.r.v m i st)
      | _ => True) ∧ ∃ e', e.putO t.r.d t.r.v = some e' ∧ ConsT M nx0 as st sz oms ts (i + 1) e'
  | [], [], _, _ => True
  | _, _, _, _ => False

def Fin' (M : Mc) (nx0 : Nat) (R : KL → H → Prop) (obs : List OB) (st : List Stage) (as : List (Nat × AObj)) (gf : H) (absf : Nat) (l : KL) : Prop :=
  OblL M nx0 as st obs ∧ stOk nx0 as st = true ∧ R l (addAs nx0 (fun j => !absf.testBit j) as gf)

def WD (M : Mc) (ops : Array Oper) (nx0 sz : Nat) (R : KL → H → Prop) (rem : List (Oper × Nat)) (i : Nat) (l : KL) (g : H) (abs : Nat) (es : List Nat) (as : List (Nat × AObj)) (sts : List Stage) (obs : List OB) : Prop :=
  ∀ e, Has sz l e → ∃ (ts : List TR) (bs : List OB) (st2 : List Stage) (as2 : List (Nat × AObj)) (gf : H) (absf : Nat), (From M fun r => dPass M.P M.G r ops nx0 rem i e g abs es as = some (ts.map (·.r))) ∧
    (∀ As St, OblL M nx0 As St bs → ConsT M nx0 As St sz rem ts i e) ∧ stagesOf rem (ts.map (·.r)) i g abs = st2 ∧ asOf (ts.map (·.r)) i = as2 ∧ stg (fun _ => true) rem (ts.map (·.r)) i g abs = (gf, absf) ∧
    ∃ e' l', putsOf (ts.map (·.r)) e = some e' ∧ Has sz l' e' ∧ Fin' M nx0 R (obs.reverse ++ bs) (sts.reverse ++ st2) (as ++ as2) gf absf l'

section
variable {M : Mc} {ops : Array Oper} {rest : List (Oper × Nat)} {nx0 sz i m abs : Nat} {g g1 : H} {R : KL → H → Prop} {l : KL} {es : List Nat} {as : List (Nat × AObj)} {sts : List Stage} {obs : List OB} {o : Oper} {v : Value} {d : Nat}

/-- A block that is laid. -/
def Op1a (M : Mc) (op : Op) (l : KL) (n : Nat) (v : Value) (ob : AObj) : Prop := ∀ e, Sees op l e → ∃ h', aop M.P M.G op e { tr := .leaf, nx := n } = some (v, h') ∧ h'.get n = some ob
/-! ### The same, with the operations, their masks and their numbers apart -/
def WX (M : Mc) (ops : Array Oper) (nx0 sz : Nat) (R : KL → H → Prop) (rem : List Oper) (ms ix : List Nat) (l : KL) (g : H) (abs : Nat) (es : List Nat) (as : List (Nat × AObj)) (sts : List Stage) (obs : List OB) : Prop :=
  ms.length = rem.length → ix = List.range' (ix.headD 0) rem.length → WD M ops nx0 sz R (rem.zip ms) (ix.headD 0) l g abs es as sts obs

end

section
variable {M : Mc} {ops : Array Oper} {rest : List Oper} {ms ix : List Nat} {nx0 sz i m abs : Nat} {g g1 : H} {R : KL → H → Prop} {l : KL} {es : List Nat} {as : List (Nat × AObj)} {sts : List Stage} {obs : List OB} {o : Oper} {v : Value} {d : Nat}

/-! ### Which operation is next -/
section
variable {ty : TypeId} {dst : Option Nat} {pos : String} {after : Array Edge} {gu : Nat × Bool}
theorem ik_callF {f : FuncId} {args : Array Operand} {tys : Array TypeId} {h : H} (w : Wo M ops (⟨dst, .call ⟨.value (.func f), args, tys⟩, ty, pos, after, none⟩ :: rest) sz l h R) : Wo M ops (⟨dst, .call ⟨.value (.func f), args, tys⟩, ty, pos, after, none⟩ :: rest) sz l h R := w
theorem ig_callF {f : FuncId} {args : Array Operand} {tys : Array TypeId} {h : H} (w : Wo M ops (⟨dst, .call ⟨.value (.func f), args, tys⟩, ty, pos, after, some gu⟩ :: rest) sz l h R) : Wo M ops (⟨dst, .call ⟨.value (.func f), args, tys⟩, ty, pos, after, some gu⟩ :: rest) sz l h R := w
theorem wo_any {h : H} (w : Wo M ops rest sz l h R) : Wo M ops rest sz l h R := w
end
end
end Go.Ab

/- The logic's operations on blocks that are known. -/
namespace Go.Ab
open Go

section
variable {M : Mc} {l : KL} {h h' : H} {v u z' : Value} {x y z : Operand} {t ty : TypeId} {b off es : Nat} {c cs vs : List Value} {e : TypeId} {s : Bool} {dd : TypeDesc} {n : Nat}

theorem At.ld {G : Base} (hat : At h b (.cells c e es s)) (hc : c[off]? = some v) : acell G h ⟨b, off, some 0⟩ = some v := by
  simp only [acell, hat.get, hc]
theorem op_ldAt (hx : val l x = some (.pointer (some ⟨b, off, some 0⟩))) (hat : At h b (.cells c e es s)) (hu : M.P.underlying t = some dd) (hd : isAggD dd = false) (hc : c[off]? = some v) : Op1 M (.load t x) l h v h :=
  op_load hx (ld_one hu hd (hat.ld hc))
theorem op_ldCell {a : Addr} (hx : val l x = some (.pointer (some a))) (hu : M.P.underlying t = some dd) (hd : isAggD dd = false) (hc : acell M.G h a = some v) : Op1 M (.load t x) l h v h :=
  op_load hx (ld_one hu hd hc)
/-! a string's runes -/
/-! laid within a region -/
theorem op_buildSl {ps : Array (Nat × Operand)} {pv : List (Nat × Value)} {len : Nat} (hp : partsK l ps.toList = some pv) (hu : M.P.underlying t = some (.slice e)) (hs : tsz M.P e = some n) (hz : tzero M.P e = some z') (hg : (gd z' && Nat.ble (len * n) 16777216 && Nat.beq z'.cells.size n) = true)
    (hf : forceO (afill (fun i => some (i * n, n)) (repeatCells len z'.cells.toList) pv) = some cs) : Op1 M (.buildSlice t len ps) l h (.slice (some ⟨h.nx, 0, some 0⟩) len len) (h.push (.cells cs e n false)) :=
  op_buildSlice hp (by simp only [abuildSlice, hu, hs, hz, hg, forceO_eq hf])
/-- A bumped heap, as a region that draws its order begins with it. -/
theorem At.bump {k : Nat} {o : AObj} (a : At h b o) : At { tr := h.tr, nx := h.nx + k } b o := ⟨Nat.lt_of_lt_of_le a.lt (Nat.le_add_right _ _), a.get⟩
theorem Grow.bump {g : H} (x : Grow g h) (k : Nat) : Grow g { tr := h.tr, nx := h.nx + k } :=
  ⟨Nat.le_trans x.nx (Nat.le_add_right _ _), x.get, fun w n hn => x.wf w n (Nat.le_trans (Nat.le_add_right _ _) hn)⟩

theorem At.lay {g : H} {o : AObj} (hlt : b < g.nx) : At (g.set b o) b o := ⟨hlt, by rw [H.get_set, if_pos rfl]⟩
theorem Sl.ofAt {G : Base} {cap : Nat} (hat : At h b (.cells c e es s)) (hl : c.length = n * es) (hc : n ≤ cap) : Sl G h es (.slice (some ⟨b, 0, some 0⟩) n cap) n c :=
  .mem _ _ _ _ hl hat.cells hc fun _ => ⟨c, e, s, hat.get⟩

/-! what is laid is not known before -/
/-! what is laid, seen or not -/
section
variable {ops : Array Oper} {rest : List Oper} {ms ix js : List Nat} {nx0 sz i m abs j : Nat} {g g1 : H} {R : KL → H → Prop} {es' : List Nat} {as : List (Nat × AObj)} {sts : List Stage} {obs : List OB} {o : Oper} {d : Nat} {ob : AObj}

end
end
end Go.Ab

/- Floating point in the logic. -/
namespace Go.Fl
open Ieee

end Go.Fl
namespace Go.Ab
open Go Ieee

section
variable {M : Mc} {l : KL} {h h' : H} {v u : Value} {x y z : Operand} {t ty s d : TypeId} {a b c : Nat} {k : FloatKind}

theorem prun_under {P : Program} {α : Type} {td : TypeDesc} (hu : P.underlying t = some td) (f : TypeDesc → Sem α) : prun P (do f (← underlying t)) = prun P (f td) := by
  simp [underlying, prun, hu, bind, Sem.bind, program]; rfl

theorem op_cvif {j : IntKind} {n : Int} {ds : TypeDesc} (hx : val l x = some (.int j n)) (hs : M.P.underlying s = some ds) (hd : M.P.underlying d = some (.float k)) (hr : k.nearest n = c) : Op1 M (.convert s d x) l h (.float k c) h := by
  refine op_conv hx rfl ?_ ?_ rfl
  · unfold aconvStr; rw [hd]
  · subst hr; unfold convert; rw [prun_under hs, prun_under hd]; cases ds <;> rfl
theorem op_cvfi {j : IntKind} {n : Int} {ds : TypeDesc} (hx : val l x = some (.float k a)) (hs : M.P.underlying s = some ds) (hd : M.P.underlying d = some (.int j)) (hr : prun M.P (Conv.floatToInt k a j) = some (.int j n)) : Op1 M (.convert s d x) l h (.int j n) h := by
  refine op_conv hx rfl ?_ ?_ rfl
  · unfold aconvStr; rw [hd]
  · unfold convert; rw [prun_under hs, prun_under hd]; cases ds <;> exact hr
theorem op_cvii {i j : IntKind} {n m : Int} {ds : TypeDesc} (hx : val l x = some (.int i n)) (hs : M.P.underlying s = some ds) (hd : M.P.underlying d = some (.int j)) (hr : j.wrap n = m) : Op1 M (.convert s d x) l h (.int j m) h := by
  refine op_conv hx rfl ?_ ?_ rfl
  · unfold aconvStr; rw [hd]
  · subst hr; unfold convert; rw [prun_under hs, prun_under hd]; cases ds <;> rfl
end
end Go.Ab

/- Equality of plain values, as the machine finds it. -/
namespace Go.Ab
open Go

section
variable {M : Mc} {l : KL} {h : H} {x y : Operand} {t ty : TypeId} {xs ys : List Value} {r : Bool}
end
end Go.Ab

/- Slices: elements, growing, parts. -/
namespace Go.Ab
open Go

section
variable {M : Mc} {l : KL} {h h' : H} {v u : Value} {x y z : Operand} {t ty : TypeId} {b off es : Nat} {c cs vs : List Value} {e : TypeId} {s : Bool} {dd : TypeDesc} {n : Nat}

/-- A slice of one's own, that grows; 'g' is the heap in which it was begun. -/
structure Ow (g h : H) (e : TypeId) (es : Nat) (v : Value) (n : Nat) (c : List Value) : Prop where
  grow : Grow g h
  len : c.length = n * es
  form : (v = .slice none 0 0 ∧ n = 0) ∨ ∃ b, g.nx ≤ b ∧ v = .slice (some ⟨b, 0, some 0⟩) n n ∧ At h b (.cells c e es true)

theorem Ow.nil {g h : H} {e : TypeId} {es : Nat} (x : Grow g h) : Ow g h e es (.slice none 0 0) 0 [] := ⟨x, by simp, .inl ⟨rfl, rfl⟩⟩
theorem Ow.next {g h h' : H} (w : Ow g h e es v n c) (x : Grow h h') : Ow g h' e es v n c :=
  ⟨w.grow.trans x, w.len, w.form.imp id fun ⟨b, h1, h2, h3⟩ => ⟨b, h1, h2, h3.grow x⟩⟩

theorem Wf.kill {h : H} (w : Wf h) (b : Nat) : Wf (h.kill b) := by
  intro n hn
  rw [H.nx_kill] at hn
  rw [H.get_kill]
  split
  · rfl
  · exact w n hn

theorem op_remN {k : IntKind} {A B : Int} {ty : TypeId} (p q r : Nat) (hx : val l x = some (.int k A)) (hy : val l y = some (.int k B)) (hA : A = p) (hB : B = q) (h0 : 0 < q) (hr : p % q = r) : Op1 M (.binOp .rem t x y ty) l h (.int k (r : Int)) h := by
  subst hA hB hr
  have := op_rem (M := M) (t := t) (ty := ty) (h := h) hx hy (by omega)
  have e : ((p : Int)).tmod (q : Int) = ((p % q : Nat) : Int) := by rw [Int.tmod_eq_emod_of_nonneg (by omega)]; rfl
  rwa [e] at this
end
theorem Wf.bump {h : H} (w : Wf h) (k : Nat) : Wf { tr := h.tr, nx := h.nx + k } := fun n hn => w n (Nat.le_trans (Nat.le_add_right _ _) hn)
end Go.Ab

/- A copy: appended to an empty list of its own. -/
namespace Go.Ab
open Go
section
variable {M : Mc} {h : H} {e : TypeId} {es n : Nat} {dd : TypeDesc}
end
theorem wc_label {M : Mc} {ro : Option Nat} {i sz : Nat} {l : KL} {h : H} {Q : X → KL → H → Prop} (q : Q .norm l h) : Wc M ro (.label i) sz l h Q := fun e he => ⟨.norm, e, h, l, .of fun _ => rfl, he, q⟩
end Go.Ab

/- The logic: ranges over functions. -/
namespace Go.Ab
open Go

section
variable {M : Mc} {h : H} {e : TypeId} {es n : Nat} {dd : TypeDesc}
end
section
variable {M : Mc} {h : H} {e : TypeId} {es n : Nat} {dd : TypeDesc}
end
/-! room for what a region may lay, by name -/
def H.bump (h : H) (k : Nat) : H := { tr := h.tr, nx := h.nx + k }
theorem H.nx_bump (h : H) (k : Nat) : (h.bump k).nx = h.nx + k := rfl
theorem At.bumpB {h : H} {b k : Nat} {o : AObj} (a : At h b o) : At (h.bump k) b o := a.bump
theorem Grow.bumpB {g h : H} (x : Grow g h) (k : Nat) : Grow g (h.bump k) := x.bump k
theorem Wf.bumpB {h : H} (w : Wf h) (k : Nat) : Wf (h.bump k) := w.bump k
end Go.Ab

/- What a walk repeats, as arguments that fill themselves. -/
namespace Go.Ab
theorem ne_A {p : Prop} (q : p := by first | (simp only [H.nx_push, H.nx_set, H.nx_kill, H.nx_bump]; omega) | omega) : p := q
theorem lt_A {p : Prop} (q : p := by first | (simp only [H.nx_push, H.nx_set, H.nx_kill, H.nx_bump]; omega) | omega | exact At.lt (by with_reducible assumption)) : p := q
theorem at_A {h : H} {b : Nat} {o : AObj} (q : At h b o := by repeat (first | with_reducible assumption | with_reducible exact At.lay lt_A | (with_reducible refine At.set_ne ?_ ?hne _; (case hne => first | (simp only [H.nx_push, H.nx_set, H.nx_kill, H.nx_bump]; omega) | omega)) | ((with_reducible refine (?_ : At (H.push _ _) _ _)); first | with_reducible exact At.new _ _ | exact At.new _ _ | with_reducible refine At.push ?_ _) | (with_reducible refine At.kill_ne ?_ ?hne; (case hne => first | (simp only [H.nx_push, H.nx_set, H.nx_kill, H.nx_bump]; omega) | omega)) | with_reducible refine At.bumpB ?_ | with_reducible refine At.grow ?_ (by with_reducible assumption))) : At h b o := q
theorem wf_A {h : H} (q : Wf h := by repeat (first | with_reducible assumption | with_reducible exact Wf.empty | with_reducible refine Wf.push ?_ _ | with_reducible refine Wf.kill ?_ _ | with_reducible refine Wf.set ?_ lt_A _ | with_reducible refine Wf.bumpB ?_ _ | with_reducible refine Grow.wf (by with_reducible assumption) ?_)) : Wf h := q
theorem gr_A {g h : H} (q : Grow g h := by repeat (first | with_reducible assumption | with_reducible exact Grow.refl _ | with_reducible refine Grow.push ?_ _ | with_reducible refine Grow.kill ?_ ne_A | with_reducible refine Grow.set ?_ ne_A lt_A _ | with_reducible refine Grow.bumpB ?_ _ | with_reducible refine Grow.trans ?_ (by with_reducible assumption))) : Grow g h := q
end Go.Ab
