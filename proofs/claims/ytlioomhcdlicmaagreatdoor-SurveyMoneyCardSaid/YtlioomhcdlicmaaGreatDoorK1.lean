/- A logic of what is known of a frame, on the evaluator. -/
import Derived.Test.YtlioomhcdlicmaaGreatDoorA6
import GoSem.Core.Float
set_option linter.all false
/- A logic over the evaluator: what is known of the temporaries, from some fuel on. -/
namespace Go.Ab
open Go
structure Mc where
 P : Program
 G : Base
 E : Ext
abbrev KL := List (Nat × Value)
def lk : KL → Nat → Option Value
 | [], _ => none
 | (k, u) :: l, t => match Nat.beq k t with | true => some u | false => lk l t
structure Has (sz : Nat) (l : KL) (e : Env) : Prop where
 sz : e.sz = sz
 get : ∀ t v, lk l t = some v → e.get t = v
def val (l : KL) : Operand → Option Value
 | .tmp t => lk l t
 | .const v => match gd v with | true => some v | false => none
 | .global g => some (.pointer (some ⟨g, 0, none⟩))
 | .func f => some (.func (.func f) #[] #[])
def valsL (l : KL) : List Operand → Option (List Value)
 | [] => some []
 | x :: xs => match val l x, valsL l xs with
   | some v, some vs => some (v :: vs)
   | _, _ => none
theorem Has.put {sz : Nat} {l : KL} {e : Env} (hs : Has sz l e) {d : Nat} (hd : Nat.blt d sz = true) (v : Value) : ∃ e', e.put d v = some e' ∧ Has sz ((d, v) :: l) e' := by
 refine ⟨{ sz := e.sz, l := lput e.l d v }, ?_, hs.sz, fun t u h => ?_⟩
 · unfold Env.put; rw [hs.sz, hd]
 · show lget (lput e.l d v) t = u
   rw [lget_lput]
   simp only [lk] at h
   split at h
   · rename_i hb
     have := Nat.eq_of_beq_eq_true hb
     subst this
     cases h; simp
   · rename_i hb
     have := Nat.ne_of_beq_eq_false hb
     rw [if_neg (fun q => this q.symm)]
     exact hs.get t u h
def forceL : List Value → Option (List Value)
 | [] => some []
 | v :: l => match forceL l with | some l' => some (v :: l') | none => none
theorem forceL_eq : ∀ {l l' : List Value}, forceL l = some l' → l = l'
 | [], l', h => by simp only [forceL] at h; cases h; rfl
 | v :: l, l', h => by
   simp only [forceL] at h
   split at h
   · rename_i l'' hq; cases h; rw [forceL_eq hq]
   · cases h
def forceO : Option (List Value) → Option (List Value)
 | some l => forceL l
 | none => none
theorem forceO_eq {o : Option (List Value)} {l : List Value} (h : forceO o = some l) : o = some l := by
 cases o with
 | none => cases h
 | some l' => rw [forceL_eq h]
def From (M : Mc) (p : Ev → Prop) : Prop := ∃ N, ∀ n, N ≤ n → p (ev M.P M.G M.E n)
theorem From.of {M : Mc} {p : Ev → Prop} (h : ∀ r, p r) : From M p := ⟨0, fun _ _ => h _⟩
theorem From.mono {M : Mc} {p q : Ev → Prop} (a : From M p) (f : ∀ r, p r → q r) : From M q := by
 obtain ⟨n, a⟩ := a
 exact ⟨n, fun k hk => f _ (a k hk)⟩
theorem From.and {M : Mc} {p q s : Ev → Prop} (a : From M p) (b : From M q) (f : ∀ r, p r → q r → s r) : From M s := by
 obtain ⟨n, a⟩ := a
 obtain ⟨m, b⟩ := b
 exact ⟨max n m, fun k hk => f _ (a k (by omega)) (b k (by omega))⟩
def Cl (M : Mc) (f : Value) (as : List Value) (h : H) (v : Value) (h' : H) : Prop := From M fun r => r.call f as h = some (v, h')
def Cf (M : Mc) (f : Value) (as : List Value) (h : H) (Q : Value → H → Prop) : Prop := ∃ v h', Cl M f as h v h' ∧ Q v h'
theorem Cf.mono {M : Mc} {f : Value} {as : List Value} {h : H} {Q Q' : Value → H → Prop} (c : Cf M f as h Q) (q : ∀ v h', Q v h' → Q' v h') : Cf M f as h Q' := by
 obtain ⟨v, h', a, b⟩ := c
 exact ⟨v, h', a, q _ _ b⟩
def Sees (op : Op) (l : KL) (e : Env) : Prop := ∀ t, Operand.tmp t ∈ op.operands.toList → ∀ v, lk l t = some v → e.get t = v
def Op1 (M : Mc) (op : Op) (l : KL) (h : H) (v : Value) (h' : H) : Prop := ∀ e, Sees op l e → From M fun r => ∀ o : Oper, o.op = op → evOp M.P M.G r o e h = some (v, h')
theorem Has.sees {sz : Nat} {l : KL} {e : Env} (hs : Has sz l e) (op : Op) : Sees op l e := fun t _ v h => hs.get t v h
theorem Sees.val {op : Op} {l : KL} {e : Env} (hs : Sees op l e) {x : Operand} {v : Value} (hx : x ∈ op.operands.toList) (h : val l x = some v) : aeval e x = v := by
 cases x with
 | tmp t => exact hs t hx v h
 | const c =>
   simp only [Ab.val] at h
   split at h
   · rename_i hg; cases h; simp only [aeval, hg]
   · cases h
 | global g => simp only [Ab.val] at h; cases h; rfl
 | func f => simp only [Ab.val] at h; cases h; rfl
theorem Sees.vals {op : Op} {l : KL} {e : Env} (hs : Sees op l e) : ∀ {xs : List Operand} {vs : List Value}, (∀ x ∈ xs, x ∈ op.operands.toList) → valsL l xs = some vs → xs.map (aeval e) = vs
 | [], vs, _, h => by simp only [valsL] at h; cases h; rfl
 | x :: xs, vs, hx, h => by
   simp only [valsL] at h
   split at h
   · rename_i v vs' h1 h2
     cases h
     rw [List.map_cons, hs.val (hx x List.mem_cons_self) h1, hs.vals (fun y hy => hx y (List.mem_cons_of_mem _ hy)) h2]
   · cases h
section
variable {M : Mc} {l : KL} {h h' : H} {v : Value}
theorem ci_ {op : Op} (hc : ∀ c, op ≠ .call c) (ha : ∀ e, Sees op l e → aop M.P M.G op e h = some (v, h')) : Op1 M op l h v h' := by
 intro e he
 refine .of fun r o ho => ?_
 subst ho
 have hh := ha e he
 unfold evOp
 split
 · rename_i c hq; exact absurd hq (hc c)
 · exact hh
theorem op_blt {b : Builtin} {args : Array Operand} {tys : Array TypeId} (ha : ∀ e, Sees (.call ⟨.builtin b, args, tys⟩) l e → aop M.P M.G (.call ⟨.builtin b, args, tys⟩) e h = some (v, h')) :
   Op1 M (.call ⟨.builtin b, args, tys⟩) l h v h' := by
 intro e he
 refine .of fun r o ho => ?_
 have hh := ha e he
 unfold evOp
 rw [ho]
 exact hh
theorem aK_ {f : Operand} {args : Array Operand} {tys : Array TypeId} {fv : Value} {as : List Value} (hf : val l f = some fv) (ha : valsL l args.toList = some as) (hc : Cl M fv as h v h') :
   Op1 M (.call ⟨.value f, args, tys⟩) l h v h' := by
 intro e he
 refine hc.mono fun r hr o ho => ?_
 unfold evOp
 rw [ho]
 show r.call (aeval e f) (args.toList.map (aeval e)) h = some (v, h')
 rw [he.val (by simp [Op.operands, Call.operands]) hf, he.vals (fun x hx => by simp [Op.operands, Call.operands]; right; exact Array.mem_toList_iff.1 hx) ha]
 exact hr
end
def Wo (M : Mc) (ops : Array Oper) (rest : List Oper) (sz : Nat) (l : KL) (h : H) (R : KL → H → Prop) : Prop :=
 ∀ e, Has sz l e → ∃ e' h' l', (From M fun r => evOps M.P M.G r ops rest e h = some (e', h')) ∧ Has sz l' e' ∧ R l' h'
section
variable {M : Mc} {ops : Array Oper} {rest : List Oper} {sz : Nat} {l : KL} {h h1 : H} {v : Value} {R : KL → H → Prop} {d : Nat} {op : Op} {ty : TypeId} {pos : String} {after : Array Edge}
theorem ad_ (hr : R l h) : Wo M ops [] sz l h R := fun e he => ⟨e, h, l, .of fun _ => rfl, he, hr⟩
theorem bf_ {o : Oper} (ho : o.guard = none) (hop : Op1 M o.op l h v h1) (hdo : o.dst = some d) (hd : Nat.blt d sz = true) (next : Wo M ops rest sz ((d, v) :: l) h1 R) : Wo M ops (o :: rest) sz l h R := by
 intro e he
 obtain ⟨e1, p1, he1⟩ := he.put hd v
 obtain ⟨e', h', l', q1, q2, q3⟩ := next e1 he1
 refine ⟨e', h', l', (hop e (he.sees _)).and q1 fun r a b => ?_, q2, q3⟩
 simp only [evOps, wantedA, ho]
 rw [a o rfl]
 simp only [Env.putO, hdo, p1]
 exact b
theorem wo_op0 {o : Oper} (ho : o.guard = none) (hop : Op1 M o.op l h v h1) (hdo : o.dst = none) (next : Wo M ops rest sz l h1 R) : Wo M ops (o :: rest) sz l h R := by
 intro e he
 obtain ⟨e', h', l', q1, q2, q3⟩ := next e he
 refine ⟨e', h', l', (hop e (he.sees _)).and q1 fun r a b => ?_, q2, q3⟩
 simp only [evOps, wantedA, ho]
 rw [a o rfl]
 simp only [Env.putO, hdo]
 exact b
def gdst (ops : Array Oper) (j : Nat) : Option Nat := match ops[j]? with | some o => o.dst | none => none
theorem wanted_of {o : Oper} {e : Env} {j g : Nat} {want b : Bool} (ho : o.guard = some (j, want)) (hj : gdst ops j = some g) (hb : e.get g = .bool b) : wantedA ops o e = some (match b, want with | true, true | false, false => true | _, _ => false) := by
 unfold gdst at hj
 simp only [wantedA, ho]
 split at hj
 · rename_i o' ho'
   rw [ho']
   simp only [hj, hb]
   cases b <;> cases want <;> rfl
 · cases hj
theorem ai_ {o : Oper} {j g : Nat} {want : Bool} (ho : o.guard = some (j, want)) (hj : gdst ops j = some g) (hb : lk l g = some (.bool want)) (hop : Op1 M o.op l h v h1) (hdo : o.dst = some d) (hd : Nat.blt d sz = true)
   (next : Wo M ops rest sz ((d, v) :: l) h1 R) : Wo M ops (o :: rest) sz l h R := by
 intro e he
 obtain ⟨e1, p1, he1⟩ := he.put hd v
 obtain ⟨e', h', l', q1, q2, q3⟩ := next e1 he1
 refine ⟨e', h', l', (hop e (he.sees _)).and q1 fun r a b => ?_, q2, q3⟩
 have hw := wanted_of (ops := ops) ho hj (he.get g _ hb)
 simp only [evOps, hw]
 cases want
 all_goals
   simp only
   rw [a o rfl]
   simp only [Env.putO, hdo, p1]
   exact b
theorem bn_ {o : Oper} {j g : Nat} {want b : Bool} (ho : o.guard = some (j, want)) (hj : gdst ops j = some g) (hb : lk l g = some (.bool b)) (hne : b = !want) (hdo : o.dst = some d) (hd : Nat.blt d sz = true)
   (next : Wo M ops rest sz ((d, skipV) :: l) h R) : Wo M ops (o :: rest) sz l h R := by
 intro e he
 obtain ⟨e1, p1, he1⟩ := he.put hd skipV
 obtain ⟨e', h', l', q1, q2, q3⟩ := next e1 he1
 refine ⟨e', h', l', q1.mono fun r b => ?_, q2, q3⟩
 have hw := wanted_of (ops := ops) ho hj (he.get g _ hb)
 subst hne
 simp only [evOps, hw]
 cases want
 all_goals
   simp only [Env.putO, hdo, p1]
   exact b
theorem wo_gskip' {o : Oper} {j g : Nat} {want : Bool} (ho : o.guard = some (j, want)) (hj : gdst ops j = some g) (hb : lk l g = some skipV) (hdo : o.dst = some d) (hd : Nat.blt d sz = true)
   (next : Wo M ops rest sz ((d, skipV) :: l) h R) : Wo M ops (o :: rest) sz l h R := by
 intro e he
 obtain ⟨e1, p1, he1⟩ := he.put hd skipV
 obtain ⟨e', h', l', q1, q2, q3⟩ := next e1 he1
 refine ⟨e', h', l', q1.mono fun r b => ?_, q2, q3⟩
 have hw : wantedA ops o e = some false := by
   unfold gdst at hj
   simp only [wantedA, ho]
   split at hj
   · rename_i o' ho'
     rw [ho']
     simp only [hj, he.get g _ hb, skipV]
   · cases hj
 simp only [evOps, hw, Env.putO, hdo, p1]
 exact b
theorem lk_le {l l' : KL} (hl : ∀ t v, lk l' t = some v → lk l t = some v) {e : Env} (he : Has sz l e) : Has sz l' e := ⟨he.sz, fun t v q => he.get t v (hl t v q)⟩
theorem wo_known {g : Nat} {w : Value} (hb : lk l g = some w) (next : Wo M ops rest sz ((g, w) :: l) h R) : Wo M ops rest sz l h R := by
 intro e he
 refine next e (lk_le (fun t v q => ?_) he)
 simp only [lk] at q
 split at q
 · rename_i hq
   have := Nat.eq_of_beq_eq_true hq
   subst this
   rw [hb]; exact q
 · exact q
theorem aY_ {o : Oper} {j g : Nat} {want b : Bool} (_ho : o.guard = some (j, want)) (_hj : gdst ops j = some g) (hb : lk l g = some (.bool b)) (ht : b = true → Wo M ops (o :: rest) sz ((g, .bool true) :: l) h R) (hf : b = false → Wo M ops (o :: rest) sz ((g, .bool false) :: l) h R) : Wo M ops (o :: rest) sz l h R := by
 cases b with
 | true => exact wo_known hb (ht rfl)
 | false => exact wo_known hb (hf rfl)
theorem as_ {o : Oper} (ho : o.guard = none) {f : Operand} {args : Array Operand} {tys : Array TypeId} {fv : Value} {as : List Value} {Qv : Value → H → Prop} (hop : o.op = .call ⟨.value f, args, tys⟩) (hf : val l f = some fv) (ha : valsL l args.toList = some as)
   (hc : Cf M fv as h Qv) (hdo : o.dst = some d) (hd : Nat.blt d sz = true) (next : ∀ v h', Qv v h' → Wo M ops rest sz ((d, v) :: l) h' R) : Wo M ops (o :: rest) sz l h R := by
 obtain ⟨v, h', c, q⟩ := hc
 exact bf_ ho (by rw [hop]; exact aK_ hf ha c) hdo hd (next v h' q)
theorem bx_ {o : Oper} {j g : Nat} {want : Bool} (ho : o.guard = some (j, want)) (hj : gdst ops j = some g) (hb : lk l g = some (.bool want)) {f : Operand} {args : Array Operand} {tys : Array TypeId} {fv : Value} {as : List Value} {Qv : Value → H → Prop} (hop : o.op = .call ⟨.value f, args, tys⟩) (hf : val l f = some fv) (ha : valsL l args.toList = some as)
   (hc : Cf M fv as h Qv) (hdo : o.dst = some d) (hd : Nat.blt d sz = true) (next : ∀ v h', Qv v h' → Wo M ops rest sz ((d, v) :: l) h' R) : Wo M ops (o :: rest) sz l h R := by
 obtain ⟨v, h', c, q⟩ := hc
 exact ai_ ho hj hb (by rw [hop]; exact aK_ hf ha c) hdo hd (next v h' q)
end
section
variable {M : Mc} {ops : Array Oper} {rest : List Oper} {sz : Nat} {l : KL} {h : H} {R : KL → H → Prop} {dst : Option Nat} {ty : TypeId} {pos : String} {after : Array Edge} {gu : Nat × Bool}
theorem ik_move {x : Operand} (w : Wo M ops (⟨dst, .move x, ty, pos, after, none⟩ :: rest) sz l h R) : Wo M ops (⟨dst, .move x, ty, pos, after, none⟩ :: rest) sz l h R := w
theorem cx_ {x : Operand} (w : Wo M ops (⟨dst, .assign x, ty, pos, after, none⟩ :: rest) sz l h R) : Wo M ops (⟨dst, .assign x, ty, pos, after, none⟩ :: rest) sz l h R := w
theorem ik_pick {x y z : Operand} (w : Wo M ops (⟨dst, .pick x y z, ty, pos, after, none⟩ :: rest) sz l h R) : Wo M ops (⟨dst, .pick x y z, ty, pos, after, none⟩ :: rest) sz l h R := w
theorem bL_ {t : TypeId} (w : Wo M ops (⟨dst, .alloc t, ty, pos, after, none⟩ :: rest) sz l h R) : Wo M ops (⟨dst, .alloc t, ty, pos, after, none⟩ :: rest) sz l h R := w
theorem cF_ {t : TypeId} {x : Operand} (w : Wo M ops (⟨dst, .box t x, ty, pos, after, none⟩ :: rest) sz l h R) : Wo M ops (⟨dst, .box t x, ty, pos, after, none⟩ :: rest) sz l h R := w
theorem ik_build {t : TypeId} {ps : Array (Nat × Operand)} (w : Wo M ops (⟨dst, .build t ps, ty, pos, after, none⟩ :: rest) sz l h R) : Wo M ops (⟨dst, .build t ps, ty, pos, after, none⟩ :: rest) sz l h R := w
theorem aE_ {t : TypeId} {n : Nat} {ps : Array (Nat × Operand)} (w : Wo M ops (⟨dst, .buildSlice t n ps, ty, pos, after, none⟩ :: rest) sz l h R) : Wo M ops (⟨dst, .buildSlice t n ps, ty, pos, after, none⟩ :: rest) sz l h R := w
theorem al_ {t : TypeId} {x : Operand} (w : Wo M ops (⟨dst, .load t x, ty, pos, after, none⟩ :: rest) sz l h R) : Wo M ops (⟨dst, .load t x, ty, pos, after, none⟩ :: rest) sz l h R := w
theorem ay_ {t : TypeId} {x y : Operand} (w : Wo M ops (⟨dst, .store t x y, ty, pos, after, none⟩ :: rest) sz l h R) : Wo M ops (⟨dst, .store t x y, ty, pos, after, none⟩ :: rest) sz l h R := w
theorem bG_ {bo : BinOp} {t t2 : TypeId} {x y : Operand} (w : Wo M ops (⟨dst, .binOp bo t x y t2, ty, pos, after, none⟩ :: rest) sz l h R) : Wo M ops (⟨dst, .binOp bo t x y t2, ty, pos, after, none⟩ :: rest) sz l h R := w
theorem ik_un {uo : UnOp} {t : TypeId} {x : Operand} (w : Wo M ops (⟨dst, .unOp uo t x, ty, pos, after, none⟩ :: rest) sz l h R) : Wo M ops (⟨dst, .unOp uo t x, ty, pos, after, none⟩ :: rest) sz l h R := w
theorem cE_ {fn : Fn} {fs cs : Array Operand} (w : Wo M ops (⟨dst, .makeFunc fn fs cs, ty, pos, after, none⟩ :: rest) sz l h R) : Wo M ops (⟨dst, .makeFunc fn fs cs, ty, pos, after, none⟩ :: rest) sz l h R := w
theorem ik_makeSlice {t : TypeId} {x y : Operand} (w : Wo M ops (⟨dst, .makeSlice t x y, ty, pos, after, none⟩ :: rest) sz l h R) : Wo M ops (⟨dst, .makeSlice t x y, ty, pos, after, none⟩ :: rest) sz l h R := w
theorem ik_slice {t : TypeId} {x : Operand} {lo hi mx : Option Operand} (w : Wo M ops (⟨dst, .slice t x lo hi mx, ty, pos, after, none⟩ :: rest) sz l h R) : Wo M ops (⟨dst, .slice t x lo hi mx, ty, pos, after, none⟩ :: rest) sz l h R := w
theorem bp_ {t : TypeId} {x : Operand} {n : Nat} (w : Wo M ops (⟨dst, .fieldAddr t x n, ty, pos, after, none⟩ :: rest) sz l h R) : Wo M ops (⟨dst, .fieldAddr t x n, ty, pos, after, none⟩ :: rest) sz l h R := w
theorem an_ {t : TypeId} {x y : Operand} (w : Wo M ops (⟨dst, .indexAddr t x y, ty, pos, after, none⟩ :: rest) sz l h R) : Wo M ops (⟨dst, .indexAddr t x y, ty, pos, after, none⟩ :: rest) sz l h R := w
theorem bv_ {t : TypeId} {x y : Operand} (w : Wo M ops (⟨dst, .index t x y, ty, pos, after, none⟩ :: rest) sz l h R) : Wo M ops (⟨dst, .index t x y, ty, pos, after, none⟩ :: rest) sz l h R := w
theorem ik_range {t : TypeId} {x : Operand} (w : Wo M ops (⟨dst, .range t x, ty, pos, after, none⟩ :: rest) sz l h R) : Wo M ops (⟨dst, .range t x, ty, pos, after, none⟩ :: rest) sz l h R := w
theorem ik_next {x : Operand} {b : Bool} (w : Wo M ops (⟨dst, .next x b, ty, pos, after, none⟩ :: rest) sz l h R) : Wo M ops (⟨dst, .next x b, ty, pos, after, none⟩ :: rest) sz l h R := w
theorem ik_extract {x : Operand} {n : Nat} (w : Wo M ops (⟨dst, .extract x n, ty, pos, after, none⟩ :: rest) sz l h R) : Wo M ops (⟨dst, .extract x n, ty, pos, after, none⟩ :: rest) sz l h R := w
theorem at_ {x : Operand} {as : Array Operand} {tys : Array TypeId} (w : Wo M ops (⟨dst, .call ⟨.value x, as, tys⟩, ty, pos, after, none⟩ :: rest) sz l h R) : Wo M ops (⟨dst, .call ⟨.value x, as, tys⟩, ty, pos, after, none⟩ :: rest) sz l h R := w
theorem av_ {b : Builtin} {as : Array Operand} {tys : Array TypeId} (w : Wo M ops (⟨dst, .call ⟨.builtin b, as, tys⟩, ty, pos, after, none⟩ :: rest) sz l h R) : Wo M ops (⟨dst, .call ⟨.builtin b, as, tys⟩, ty, pos, after, none⟩ :: rest) sz l h R := w
theorem cC_ {o : Op} (w : Wo M ops (⟨dst, o, ty, pos, after, some gu⟩ :: rest) sz l h R) : Wo M ops (⟨dst, o, ty, pos, after, some gu⟩ :: rest) sz l h R := w
theorem bH_ {x : Operand} (w : Wo M ops (⟨dst, .move x, ty, pos, after, some gu⟩ :: rest) sz l h R) : Wo M ops (⟨dst, .move x, ty, pos, after, some gu⟩ :: rest) sz l h R := w
theorem ig_pick {x y z : Operand} (w : Wo M ops (⟨dst, .pick x y z, ty, pos, after, some gu⟩ :: rest) sz l h R) : Wo M ops (⟨dst, .pick x y z, ty, pos, after, some gu⟩ :: rest) sz l h R := w
theorem bF_ {t : TypeId} {x : Operand} (w : Wo M ops (⟨dst, .load t x, ty, pos, after, some gu⟩ :: rest) sz l h R) : Wo M ops (⟨dst, .load t x, ty, pos, after, some gu⟩ :: rest) sz l h R := w
theorem bB_ {bo : BinOp} {t t2 : TypeId} {x y : Operand} (w : Wo M ops (⟨dst, .binOp bo t x y t2, ty, pos, after, some gu⟩ :: rest) sz l h R) : Wo M ops (⟨dst, .binOp bo t x y t2, ty, pos, after, some gu⟩ :: rest) sz l h R := w
theorem ig_un {uo : UnOp} {t : TypeId} {x : Operand} (w : Wo M ops (⟨dst, .unOp uo t x, ty, pos, after, some gu⟩ :: rest) sz l h R) : Wo M ops (⟨dst, .unOp uo t x, ty, pos, after, some gu⟩ :: rest) sz l h R := w
theorem bc_ {t : TypeId} {x : Operand} {n : Nat} (w : Wo M ops (⟨dst, .fieldAddr t x n, ty, pos, after, some gu⟩ :: rest) sz l h R) : Wo M ops (⟨dst, .fieldAddr t x n, ty, pos, after, some gu⟩ :: rest) sz l h R := w
theorem ig_indexAddr {t : TypeId} {x y : Operand} (w : Wo M ops (⟨dst, .indexAddr t x y, ty, pos, after, some gu⟩ :: rest) sz l h R) : Wo M ops (⟨dst, .indexAddr t x y, ty, pos, after, some gu⟩ :: rest) sz l h R := w
theorem ig_index {t : TypeId} {x y : Operand} (w : Wo M ops (⟨dst, .index t x y, ty, pos, after, some gu⟩ :: rest) sz l h R) : Wo M ops (⟨dst, .index t x y, ty, pos, after, some gu⟩ :: rest) sz l h R := w
theorem cL_ {x : Operand} {as : Array Operand} {tys : Array TypeId} (w : Wo M ops (⟨dst, .call ⟨.value x, as, tys⟩, ty, pos, after, some gu⟩ :: rest) sz l h R) : Wo M ops (⟨dst, .call ⟨.value x, as, tys⟩, ty, pos, after, some gu⟩ :: rest) sz l h R := w
theorem ig_callb {b : Builtin} {as : Array Operand} {tys : Array TypeId} (w : Wo M ops (⟨dst, .call ⟨.builtin b, as, tys⟩, ty, pos, after, some gu⟩ :: rest) sz l h R) : Wo M ops (⟨dst, .call ⟨.builtin b, as, tys⟩, ty, pos, after, some gu⟩ :: rest) sz l h R := w
end
def Rn (M : Mc) (ro : Option Nat) (c : Code) (e : Env) (h : H) (x : X) (e' : Env) (h' : H) : Prop := From M fun r => evC M.P M.G r ro c e h = some (x, e', h')
def Wc (M : Mc) (ro : Option Nat) (c : Code) (sz : Nat) (l : KL) (h : H) (Q : X → KL → H → Prop) : Prop :=
 ∀ e, Has sz l e → ∃ x e' h' l', Rn M ro c e h x e' h' ∧ Has sz l' e' ∧ Q x l' h'
def SeqQ (M : Mc) (ro : Option Nat) (b : Code) (sz : Nat) (Q : X → KL → H → Prop) (x : X) (l : KL) (h : H) : Prop :=
 match x with | .norm => Wc M ro b sz l h Q | x => Q x l h
def BlkQ (id : Nat) (Q : X → KL → H → Prop) (x : X) (l : KL) (h : H) : Prop :=
 match x with | .exit i => (match Nat.beq i id with | true => Q .norm l h | false => Q (.exit i) l h) | x => Q x l h
section
variable {M : Mc} {ro : Option Nat} {a b c : Code} {sz id : Nat} {l : KL} {h : H} {Q : X → KL → H → Prop}
theorem sq_norm (q : Wc M ro b sz l h Q) : SeqQ M ro b sz Q .norm l h := q
theorem sq_exit {i : Nat} (q : Q (.exit i) l h) : SeqQ M ro b sz Q (.exit i) l h := q
theorem sq_ret (q : Q .ret l h) : SeqQ M ro b sz Q .ret l h := q
theorem bq_norm (q : Q .norm l h) : BlkQ id Q .norm l h := q
theorem bq_ret (q : Q .ret l h) : BlkQ id Q .ret l h := q
theorem bq_eq {i : Nat} (hi : Nat.beq i id = true) (q : Q .norm l h) : BlkQ id Q (.exit i) l h := by simp only [BlkQ, hi]; exact q
theorem wc_mono {Q' : X → KL → H → Prop} (w : Wc M ro c sz l h Q') (q : ∀ x l h, Q' x l h → Q x l h) : Wc M ro c sz l h Q := by
 intro e he
 obtain ⟨x, e', h', l', q1, q2, q3⟩ := w e he
 exact ⟨x, e', h', l', q1, q2, q _ _ _ q3⟩
theorem wc_less {l' : KL} (hl : ∀ t v, lk l' t = some v → lk l t = some v) (w : Wc M ro c sz l' h Q) : Wc M ro c sz l h Q := fun e he => w e (lk_le hl he)
theorem wc_skip (q : Q .norm l h) : Wc M ro .skip sz l h Q := fun e he => ⟨.norm, e, h, l, .of fun _ => rfl, he, q⟩
theorem wc_ret (q : Q .ret l h) : Wc M ro .ret sz l h Q := fun e he => ⟨.ret, e, h, l, .of fun _ => rfl, he, q⟩
theorem wc_exit {i : Nat} (q : Q (.exit i) l h) : Wc M ro (.exit i) sz l h Q := fun e he => ⟨.exit i, e, h, l, .of fun _ => rfl, he, q⟩
theorem wc_seq (w : Wc M ro a sz l h (SeqQ M ro b sz Q)) : Wc M ro (.seq a b) sz l h Q := by
 intro e he
 obtain ⟨x, e1, h1, l1, q1, q2, q3⟩ := w e he
 cases x with
 | norm =>
   obtain ⟨x, e', h', l', p1, p2, p3⟩ := q3 e1 q2
   refine ⟨x, e', h', l', q1.and p1 fun r a b => ?_, p2, p3⟩
   simp only [evC, a]; exact b
 | exit i => exact ⟨.exit i, e1, h1, l1, q1.mono fun r a => by simp only [evC, a], q2, q3⟩
 | ret => exact ⟨.ret, e1, h1, l1, q1.mono fun r a => by simp only [evC, a], q2, q3⟩
theorem wc_block (w : Wc M ro c sz l h (BlkQ id Q)) : Wc M ro (.block id c) sz l h Q := by
 intro e he
 obtain ⟨x, e1, h1, l1, q1, q2, q3⟩ := w e he
 cases x with
 | norm => exact ⟨.norm, e1, h1, l1, q1.mono fun r a => by simp only [evC, a], q2, q3⟩
 | ret => exact ⟨.ret, e1, h1, l1, q1.mono fun r a => by simp only [evC, a], q2, q3⟩
 | exit i =>
   cases hi : Nat.beq i id with
   | true =>
     simp only [BlkQ, hi] at q3
     exact ⟨.norm, e1, h1, l1, q1.mono fun r a => by simp only [evC, a, hi], q2, q3⟩
   | false =>
     simp only [BlkQ, hi] at q3
     exact ⟨.exit i, e1, h1, l1, q1.mono fun r a => by simp only [evC, a, hi], q2, q3⟩
theorem aG_ {x : Operand} {t : Bool} (hx : val l x = some (.bool t)) (ha : t = true → Wc M ro a sz l h Q) (hb : t = false → Wc M ro b sz l h Q) : Wc M ro (.cond x a b) sz l h Q := by
 intro e he
 have hv : aeval e x = .bool t := (he.sees (.move x)).val (by simp [Op.operands]) hx
 cases t with
 | true =>
   obtain ⟨y, e1, h1, l1, q1, q2, q3⟩ := ha rfl e he
   exact ⟨y, e1, h1, l1, q1.mono fun r a => by simp only [evC, hv]; exact a, q2, q3⟩
 | false =>
   obtain ⟨y, e1, h1, l1, q1, q2, q3⟩ := hb rfl e he
   exact ⟨y, e1, h1, l1, q1.mono fun r a => by simp only [evC, hv]; exact a, q2, q3⟩
theorem wc_ift {x : Operand} (hx : val l x = some (.bool true)) (ha : Wc M ro a sz l h Q) : Wc M ro (.cond x a b) sz l h Q := aG_ hx (fun _ => ha) (fun q => by cases q)
theorem wc_iff {x : Operand} (hx : val l x = some (.bool false)) (hb : Wc M ro b sz l h Q) : Wc M ro (.cond x a b) sz l h Q := aG_ hx (fun q => by cases q) (fun _ => hb)
theorem bk_ {os : List Oper} {i : Nat} (w : Wo M os.toArray os sz l h (Q .norm)) : Wc M ro (.region i os.toArray false) sz l h Q := by
 intro e he
 obtain ⟨e', h', l', q1, q2, q3⟩ := w e he
 have ht : os.toArray.toList = os := by simp
 exact ⟨.norm, e', h', l', q1.mono fun r a => by simp only [evC, ht, a], q2, q3⟩
def LpQ {ι : Type} (m : ι → Nat) (L : ι → KL) (I : ι → H → Prop) (i : ι) (Q : X → KL → H → Prop) (x : X) (l : KL) (h : H) : Prop :=
 match x with | .norm => ∃ j, m j < m i ∧ (∀ t v, lk (L j) t = some v → lk l t = some v) ∧ I j h | x => Q x l h
theorem bo_ {ι : Type} (m : ι → Nat) (L : ι → KL) (I : ι → H → Prop) (i : ι) (hl : ∀ t v, lk (L i) t = some v → lk l t = some v) (hi : I i h)
   (round : ∀ i h, I i h → Wc M ro c sz (L i) h (LpQ m L I i Q)) : Wc M ro (.loop c) sz l h Q := by
 refine wc_less hl ?_
 clear hl
 generalize hk : m i = k
 induction k using Nat.strongRecOn generalizing i h with
 | ind k ih =>
   intro e he
   obtain ⟨x, e1, h1, l1, q1, q2, q3⟩ := round i h hi e he
   cases x with
   | exit j => exact ⟨.exit j, e1, h1, l1, q1.mono fun r a => by simp only [evC, a], q2, q3⟩
   | ret => exact ⟨.ret, e1, h1, l1, q1.mono fun r a => by simp only [evC, a], q2, q3⟩
   | norm =>
     obtain ⟨j, g1, g2, g3⟩ := q3
     obtain ⟨x, e', h', l', p1, p2, p3⟩ := ih (m j) (by omega) j g3 rfl e1 (lk_le g2 q2)
     refine ⟨x, e', h', l', ?_, p2, p3⟩
     obtain ⟨n1, q1⟩ := q1
     obtain ⟨n2, p1⟩ := p1
     refine ⟨max n1 (n2 + 1), fun n hn => ?_⟩
     obtain ⟨n, rfl⟩ : ∃ k, n = k + 1 := ⟨n - 1, by omega⟩
     simp only [evC, q1 (n + 1) (by omega)]
     show evC M.P M.G (ev M.P M.G M.E n) ro (.loop c) e1 h1 = _
     exact p1 n (by omega)
theorem aI_ {ι : Type} {m : ι → Nat} {L : ι → KL} {I : ι → H → Prop} {i : ι} (j : ι) (g1 : m j < m i) (g2 : ∀ t v, lk (L j) t = some v → lk l t = some v) (g3 : I j h) : LpQ m L I i Q .norm l h := ⟨j, g1, g2, g3⟩
theorem lq_exit {ι : Type} {m : ι → Nat} {L : ι → KL} {I : ι → H → Prop} {i : ι} {k : Nat} (q : Q (.exit k) l h) : LpQ m L I i Q (.exit k) l h := q
theorem lq_ret {ι : Type} {m : ι → Nat} {L : ι → KL} {I : ι → H → Prop} {i : ι} (q : Q .ret l h) : LpQ m L I i Q .ret l h := q
end
def Within : KL → KL → Prop
 | [], _ => True
 | (t, v) :: r, l => lk l t = some v ∧ Within r l
theorem af_ : ∀ {l' l : KL}, Within l' l → ∀ t v, lk l' t = some v → lk l t = some v
 | [], l, _, t, v, h => by simp [lk] at h
 | (k, u) :: r, l, w, t, v, h => by
   simp only [lk] at h
   split at h
   · rename_i hb
     have := Nat.eq_of_beq_eq_true hb
     subst this
     cases h
     exact w.1
   · exact af_ w.2 t v h
def resK (M : Mc) (l : KL) (h : H) : List ResultVar → Option (List Value)
 | [] => some []
 | .tmp t :: rs => match lk l t, resK M l h rs with
   | some v, some vs => some (v :: vs)
   | _, _ => none
 | .cell a t :: rs => match lk l a with
   | some (.pointer (some ad)) => match aloadVar M.P M.G h t ad, resK M l h rs with
     | some v, some vs => some (v :: vs)
     | _, _ => none
   | _ => none
theorem resK_ok {M : Mc} {sz : Nat} {l : KL} {h : H} {e : Env} (he : Has sz l e) : ∀ {rs : List ResultVar} {vs : List Value}, resK M l h rs = some vs → aresults M.P M.G e h rs = some vs
 | [], vs, q => by simp only [resK] at q; cases q; rfl
 | .tmp t :: rs, vs, q => by
   simp only [resK] at q
   split at q
   · rename_i v vs' h1 h2
     cases q
     simp only [aresults, aresult, he.get t _ h1, resK_ok he h2]
   · cases q
 | .cell a t :: rs, vs, q => by
   simp only [resK] at q
   split at q
   · rename_i ad h0
     split at q
     · rename_i v vs' h1 h2
       cases q
       simp only [aresults, aresult, he.get a _ h0, h1, resK_ok he h2]
     · cases q
   · cases q
def RetQ (M : Mc) (rs : List ResultVar) (Q : Value → H → Prop) (x : X) (l : KL) (h : H) : Prop :=
 (match x with | .exit _ => False | _ => True) ∧ ∃ vs, resK M l h rs = some vs ∧ Q (packed vs) h
def numK : Nat → List Value → KL
 | _, [] => []
 | i, v :: vs => (i, v) :: numK (i + 1) vs
theorem lk_num : ∀ (vs : List Value) (i t : Nat) (v : Value), lk (numK i vs) t = some v → lget (numbered i vs) t = v
 | [], i, t, v, h => by simp [numK, lk] at h
 | u :: vs, i, t, v, h => by
   simp only [numK, lk] at h
   simp only [numbered, lget]
   split at h
   · cases h; rename_i hb; simp only [hb]
   · rename_i hb; simp only [hb]; exact lk_num vs (i + 1) t v h
theorem ch_ {M : Mc} {f : Nat} {fn : Func} {c : Code} {as : List Value} {h : H} {Q : Value → H → Prop} {first cap : Array Value} (hf : M.P.funcs[f]? = some fn) (hE : M.E f = none) (hb : fn.body = some c) {all : List Value} (hall : first.toList ++ as ++ cap.toList = all)
   {rs : List ResultVar} (hrs : fn.results.toList = rs) {sz : Nat} (hsz : max all.length fn.ntmps = sz) (w : Wc M none c sz (numK 0 all) h (RetQ M rs Q)) : Cf M (.func (.func f) first cap) as h Q := by
 have he : Has sz (numK 0 all) (Env.start fn.ntmps all) := ⟨hsz, fun t v q => lk_num all 0 t v q⟩
 obtain ⟨x, e', h', l', ⟨n1, q1⟩, q2, q3, vs, q4, q5⟩ := w _ he
 refine ⟨packed vs, h', ⟨n1 + 1, fun n hn => ?_⟩, q5⟩
 obtain ⟨n, rfl⟩ : ∃ k, n = k + 1 := ⟨n - 1, by omega⟩
 have hr := resK_ok q2 q4
 rw [← hrs] at hr
 have hq := q1 n (by omega)
 simp only [ev, evCall, hE, hf, hb, hall, hq]
 cases x with
 | exit i => exact absurd q3 id
 | norm =>
   simp only [hr]
   cases vs with
   | nil => rfl
   | cons v vs => cases vs <;> rfl
 | ret =>
   simp only [hr]
   cases vs with
   | nil => rfl
   | cons v vs => cases vs <;> rfl
theorem ak_ {M : Mc} {f : Nat} {fn : Func} {c : Code} {as : List Value} {h : H} {Q : Value → H → Prop} (sz : Nat) (rs : List ResultVar) (hf : M.P.funcs[f]? = some fn) (hE : M.E f = none) (hb : fn.body = some c)
   (hrs : fn.results.toList = rs) (hsz : max as.length fn.ntmps = sz) (w : Wc M none c sz (numK 0 as) h (RetQ M rs Q)) : Cf M (.func (.func f) #[] #[]) as h Q :=
 ch_ hf hE hb (by simp) hrs hsz w
theorem rq1 {M : Mc} {t : Nat} {Q : Value → H → Prop} {l : KL} {h : H} {v : Value} (hv : lk l t = some v) (q : Q v h) : RetQ M [.tmp t] Q .ret l h := ⟨trivial, [v], by simp only [resK, hv], q⟩
theorem rq2 {M : Mc} {t u : Nat} {Q : Value → H → Prop} {l : KL} {h : H} {v w : Value} (hv : lk l t = some v) (hw : lk l u = some w) (q : Q (.tuple #[v, w]) h) : RetQ M [.tmp t, .tmp u] Q .ret l h := ⟨trivial, [v, w], by simp only [resK, hv, hw], q⟩
theorem rq3 {M : Mc} {t u s : Nat} {Q : Value → H → Prop} {l : KL} {h : H} {v w x : Value} (hv : lk l t = some v) (hw : lk l u = some w) (hx : lk l s = some x) (q : Q (.tuple #[v, w, x]) h) : RetQ M [.tmp t, .tmp u, .tmp s] Q .ret l h := ⟨trivial, [v, w, x], by simp only [resK, hv, hw, hx], q⟩
theorem rqc1 {M : Mc} {t : Nat} {ty : TypeId} {Q : Value → H → Prop} {l : KL} {h : H} {v : Value} {a : Addr} (ha : lk l t = some (.pointer (some a))) (hv : aloadVar M.P M.G h ty a = some v) (q : Q v h) : RetQ M [.cell t ty] Q .ret l h := ⟨trivial, [v], by simp only [resK, ha, hv], q⟩
theorem rqc2 {M : Mc} {t u : Nat} {ty : TypeId} {Q : Value → H → Prop} {l : KL} {h : H} {v w : Value} {a : Addr} (ha : lk l t = some (.pointer (some a))) (hv : aloadVar M.P M.G h ty a = some v) (hw : lk l u = some w) (q : Q (.tuple #[v, w]) h) : RetQ M [.cell t ty, .tmp u] Q .ret l h := ⟨trivial, [v, w], by simp only [resK, ha, hv, hw], q⟩
theorem cl_ext {M : Mc} {f : Nat} {x : List Value → H → Option (Value × H)} {as : List Value} {h h' : H} {v : Value} (hE : M.E f = some x) (hx : x as h = some (v, h')) : Cl M (.func (.func f) #[] #[]) as h v h' := by
 refine ⟨1, fun n hn => ?_⟩
 obtain ⟨n, rfl⟩ : ∃ k, n = k + 1 := ⟨n - 1, by omega⟩
 simp only [ev, evCall, hE]
 simpa using hx
theorem cu_ {M : Mc} {f : Value} {as : List Value} {h : H} {v : Value} {h' : H} (c : Cf M f as h fun u g => u = v ∧ g = h') : Cl M f as h v h' := by
 obtain ⟨u, g, a, rfl, rfl⟩ := c
 exact a
def placesOf (P : Program) (t : TypeId) : Option (List (Nat × Nat)) :=
 match P.underlying t with
 | some (.struct fs) => aplaces P fs.toList
 | some (.array len e) => match tsz P e with
   | some n => some ((List.range len).map fun i => (i * n, n))
   | none => none
 | _ => none
end Go.Ab
/- Floating point: what is exact. -/
namespace Go.Fl
open Ieee
def K : Nat := 1074
theorem hK : K = 1074 := rfl
def U : Int := 2 ^ K
def iv : Datum → Int
 | .number s m e => signed s m (e + 1074).toNat
 | _ => 0
theorem signed_eq (s : Bool) (m k : Nat) : signed s m k = signed s m 0 * 2 ^ k := by
 unfold signed
 cases s with
 | true => simp [Nat.shiftLeft_eq, Int.neg_mul]
 | false => simp [Nat.shiftLeft_eq]
theorem signed_add (s : Bool) (m k c : Nat) : signed s m (k + c) = signed s m k * 2 ^ c := by
 rw [signed_eq s m (k + c), signed_eq s m k, Int.mul_assoc, ← Int.pow_add]
theorem pow_pos' (k : Nat) : (0 : Int) < 2 ^ k := Int.pow_pos (by omega)
theorem mul_lt_iff {a b c : Int} (h : 0 < c) : a * c < b * c ↔ a < b := ⟨fun q => Int.lt_of_mul_lt_mul_right q (Int.le_of_lt h), fun q => Int.mul_lt_mul_of_pos_right q h⟩
theorem order_iv {s t : Bool} {m n : Nat} {i j : Int} (hi : -1074 ≤ i) (hj : -1074 ≤ j) : (Datum.number s m i).order (.number t n j) = some (compare (iv (.number s m i)) (iv (.number t n j))) := by
 simp only [Datum.order, iv]
 congr 1
 have h1 : (i + 1074).toNat = (i - min i j).toNat + (min i j + 1074).toNat := by omega
 have h2 : (j + 1074).toNat = (j - min i j).toNat + (min i j + 1074).toNat := by omega
 rw [h1, h2, signed_add, signed_add]
 generalize signed s m (i - min i j).toNat = a
 generalize signed t n (j - min i j).toNat = b
 have hp := pow_pos' (min i j + 1074).toNat
 generalize (2 : Int) ^ (min i j + 1074).toNat = c at hp ⊢
 by_cases h : a < b
 · rw [Int.compare_eq_lt.2 h, Int.compare_eq_lt.2 ((mul_lt_iff hp).2 h)]
 · by_cases h' : a = b
   · subst h'; rw [Int.compare_eq_eq.2 rfl, Int.compare_eq_eq.2 rfl]
   · rw [Int.compare_eq_gt.2 (by omega), Int.compare_eq_gt.2 ((mul_lt_iff hp).2 (by omega))]
structure Num (f : Format) (w : Nat) (v : Int) : Prop where
 is : ∃ s m e, f.read w = .number s m e ∧ -1074 ≤ e ∧ signed s m (e + 1074).toNat = v
theorem Num.iv {f : Format} {w : Nat} {v : Int} (h : Num f w v) : Fl.iv (f.read w) = v := by
 obtain ⟨s, m, e, h1, _, h3⟩ := h.is
 rw [h1]; exact h3
theorem Num.order {f : Format} {w x : Nat} {a b : Int} (h : Num f w a) (k : Num f x b) : f.order w x = some (compare a b) := by
 obtain ⟨s, m, e, h1, h2, h3⟩ := h.is
 obtain ⟨t, n, j, k1, k2, k3⟩ := k.is
 unfold Format.order
 rw [h1, k1, order_iv h2 k2, ← h3, ← k3]
 rfl
end Go.Fl
/- The logic's operations, one law each. -/
namespace Go.Ab
open Go
theorem bI_ {α : Type} (P : Program) (v : α) : prun P (pure v) = some v := rfl
theorem blt_dec (a b : Nat) : Nat.blt a b = decide (a < b) := by
 cases h : Nat.blt a b
 · have : ¬ a < b := fun hh => by have : Nat.blt a b = true := by simpa [Nat.blt_eq] using hh
                                  rw [h] at this; cases this
   simp [this]
 · have : a < b := by simpa [Nat.blt_eq] using h
   simp [this]
theorem beq_dec (a b : Nat) : Nat.beq a b = decide (a = b) := by
 cases h : Nat.beq a b
 · simp [Nat.ne_of_beq_eq_false h]
 · simp [Nat.eq_of_beq_eq_true h]
theorem cD_ (a b : Nat) : Nat.ble a b = decide (a ≤ b) := by
 cases h : Nat.ble a b
 · have : ¬ a ≤ b := fun hh => by have := Nat.ble_eq_true_of_le hh
                                  rw [h] at this; cases this
   simp [this]
 · simp [Nat.le_of_ble_eq_true h]
theorem ba_beq (a b : ByteArray) : (a.toList == b.toList) = decide (a = b) := by
 rw [ByteArray.toList_eq, ByteArray.toList_eq]
 by_cases h : a = b
 · subst h; simp
 · rw [decide_eq_false h]
   refine beq_eq_false_iff_ne.2 fun q => h ?_
   exact ByteArray.ext (Array.ext' q)
section
variable {M : Mc} {l : KL} {h h' : H} {v u : Value} {x y z : Operand} {t ty : TypeId}
theorem aD_ (hx : val l x = some v) : Op1 M (.move x) l h v h :=
 ci_ (fun _ q => by cases q) fun e he => by simp only [aop, he.val (by simp [Op.operands]) hx]
theorem aW_ (hx : val l x = some v) : Op1 M (.assign x) l h v h :=
 ci_ (fun _ q => by cases q) fun e he => by simp only [aop, he.val (by simp [Op.operands]) hx]
theorem cb_ (hz : val l z = some (.bool true)) (hx : val l x = some v) : Op1 M (.pick z x y) l h v h :=
 ci_ (fun _ q => by cases q) fun e he => by simp only [aop, he.val (x := z) (by simp [Op.operands]) hz, he.val (x := x) (by simp [Op.operands]) hx]
theorem ct_ (hz : val l z = some (.bool false)) (hy : val l y = some v) : Op1 M (.pick z x y) l h v h :=
 ci_ (fun _ q => by cases q) fun e he => by simp only [aop, he.val (x := z) (by simp [Op.operands]) hz, he.val (x := y) (by simp [Op.operands]) hy]
theorem bP_ {n : Nat} {cs : List Value} (hz : tzero M.P t = some u) (hs : tsz M.P t = some n) (hg : gd u = true) (hn : Nat.beq u.cells.size n = true) (hc : forceL u.cells.toList = some cs) : Op1 M (.alloc t) l h (.pointer (some ⟨h.nx, 0, some 0⟩)) (h.push (.cells cs t n false)) :=
 ci_ (fun _ q => by cases q) fun e he => by simp only [aop, hz, hs, hg, hn, forceL_eq hc, Bool.and_self, newCells]
def plainV : Value → Bool
 | .tuple _ => false
 | _ => true
theorem op_box {n : Nat} {cs : List Value} (hx : val l x = some v) (hp : plainV v = true) (hs : tsz M.P t = some n) (hn : Nat.beq v.cells.size n = true) (hc : v.cells.toList = cs) : Op1 M (.box t x) l h (.pointer (some ⟨h.nx, 0, some 0⟩)) (h.push (.cells cs t n false)) :=
 ci_ (fun _ q => by cases q) fun e he => by
   simp only [aop, he.val (x := x) (by simp [Op.operands]) hx, hs]
   cases v <;> first | (simp [plainV] at hp; done) | simp only [hn, hc, newCells]
theorem ca_ {n : Nat} {cs : List Value} (hx : val l x = some (.agg ⟨cs⟩)) (hs : tsz M.P t = some n) (hn : Nat.beq cs.length n = true) : Op1 M (.box t x) l h (.pointer (some ⟨h.nx, 0, some 0⟩)) (h.push (.cells cs t n false)) :=
 op_box hx rfl hs hn rfl
def scalV : Value → Bool
 | .tuple _ | .agg _ => false
 | _ => true
theorem op_box1 (hx : val l x = some v) (hp : scalV v = true) (hs : tsz M.P t = some 1) : Op1 M (.box t x) l h (.pointer (some ⟨h.nx, 0, some 0⟩)) (h.push (.cells [v] t 1 false)) :=
 op_box hx (by cases v <;> first | rfl | (simp [scalV] at hp)) hs (by cases v <;> first | rfl | (simp [scalV] at hp)) (by cases v <;> first | rfl | (simp [scalV] at hp))
theorem op_load {a : Addr} (hx : val l x = some (.pointer (some a))) (hv : aloadVar M.P M.G h t a = some v) : Op1 M (.load t x) l h v h :=
 ci_ (fun _ q => by cases q) fun e he => by simp only [aop, he.val (x := x) (by simp [Op.operands]) hx, hv]
theorem op_store {a : Addr} (hx : val l x = some (.pointer (some a))) (hy : val l y = some u) (hv : astoreVar M.P h t a u = some h') : Op1 M (.store t x y) l h undef h' :=
 ci_ (fun _ q => by cases q) fun e he => by simp only [aop, he.val (x := x) (by simp [Op.operands]) hx, he.val (x := y) (by simp [Op.operands]) hy, hv]
theorem op_extract {vs : Array Value} {i : Nat} (hx : val l x = some (.tuple vs)) (hv : vs[i]? = some v) : Op1 M (.extract x i) l h v h :=
 ci_ (fun _ q => by cases q) fun e he => by simp only [aop, he.val (x := x) (by simp [Op.operands]) hx, hv]
theorem ab_ {a : Addr} {f n : Nat} {fs : Array Field} {fd : Field} (hx : val l x = some (.pointer (some a))) (hu : M.P.underlying t = some (.struct fs)) (hf : fs[f]? = some fd) (hn : tsz M.P fd.type = some (n + 1)) {o : Nat} (ho : fd.offset = o) :
   Op1 M (.fieldAddr t x f) l h (.pointer (some (aadd a o))) h :=
 ci_ (fun _ q => by cases q) fun e he => by simp only [aop, he.val (x := x) (by simp [Op.operands]) hx, hu, hf, hn, ho]
theorem ag_ (hx : val l x = some v) (hy : val l y = some u) {w : Value} (hv : aindexAddr M.P t v u = some w) : Op1 M (.indexAddr t x y) l h w h :=
 ci_ (fun _ q => by cases q) fun e he => by simp only [aop, he.val (x := x) (by simp [Op.operands]) hx, he.val (x := y) (by simp [Op.operands]) hy, hv]
theorem op_idxStr {s : ByteArray} {i : Int} {k : IntKind} {b : UInt8} (hx : val l x = some (.string s)) (hy : val l y = some (.int k i)) (hu : M.P.underlying t = some .string) (h0 : 0 ≤ i) (hb : s[i.toNat]? = some b) : Op1 M (.index t x y) l h (.int .u8 b.toNat) h :=
 ci_ (fun _ q => by cases q) fun e he => by simp only [aop, he.val (x := x) (by simp [Op.operands]) hx, he.val (x := y) (by simp [Op.operands]) hy, asInt?, hu, decide_eq_true h0, hb]
theorem op_idxArr {cs : Array Value} {i : Int} {k : IntKind} {len n : Nat} {et : TypeId} (hx : val l x = some (.agg cs)) (hy : val l y = some (.int k i)) (hu : M.P.underlying t = some (.array len et)) (hn : tsz M.P et = some n) (h0 : 0 ≤ i) (h1 : i < len) (hv : apart M.P et cs (i.toNat * n) = some v) : Op1 M (.index t x y) l h v h :=
 ci_ (fun _ q => by cases q) fun e he => by simp only [aop, he.val (x := x) (by simp [Op.operands]) hx, he.val (x := y) (by simp [Op.operands]) hy, asInt?, hu, hn, decide_eq_true (And.intro h0 h1), hv]
theorem co_ {fn : Fn} {first cap : Array Operand} {fs cs : List Value} (hfn : ∀ i, fn ≠ .yield i) (hf : valsL l first.toList = some fs) (hc : valsL l cap.toList = some cs) : Op1 M (.makeFunc fn first cap) l h (.func fn ⟨fs⟩ ⟨cs⟩) h :=
 ci_ (fun _ q => by cases q) fun e he => by
   have m1 : first.toList.map (aeval e) = fs := he.vals (fun x hx => by simp only [Op.operands, Array.toList_append, List.mem_append]; exact .inl hx) hf
   have m2 : cap.toList.map (aeval e) = cs := he.vals (fun x hx => by simp only [Op.operands, Array.toList_append, List.mem_append]; exact .inr hx) hc
   have e1 : first.map (aeval e) = ⟨fs⟩ := Array.ext' (by rw [Array.toList_map, m1])
   have e2 : cap.map (aeval e) = ⟨cs⟩ := Array.ext' (by rw [Array.toList_map, m2])
   simp only [aop, e1, e2]
theorem op_makeSlice {a b w : Value} (hx : val l x = some a) (hy : val l y = some b) (hv : amakeSlice M.P h t a b = some (w, h')) : Op1 M (.makeSlice t x y) l h w h' :=
 ci_ (fun _ q => by cases q) fun e he => by simp only [aop, he.val (x := x) (by simp [Op.operands]) hx, he.val (x := y) (by simp [Op.operands]) hy, hv]
def optV (l : KL) : Option Operand → Option (Option Value)
 | none => some none
 | some x => match val l x with | some v => some (some v) | none => none
theorem optV_ok {op : Op} {e : Env} (he : Sees op l e) {x : Option Operand} {v : Option Value} (hx : ∀ y, x = some y → y ∈ op.operands.toList) (h : optV l x = some v) : x.map (aeval e) = v := by
 cases x with
 | none => simp only [optV] at h; cases h; rfl
 | some y =>
   simp only [optV] at h
   split at h
   · rename_i u hu; cases h; simp only [Option.map_some, he.val (hx y rfl) hu]
   · cases h
theorem op_slice {lo hi mx : Option Operand} {a b c : Option Value} {w : Value} (hx : val l x = some v) (ha : optV l lo = some a) (hb : optV l hi = some b) (hc : optV l mx = some c) (hv : aslice M.P h t v a b c = some w) : Op1 M (.slice t x lo hi mx) l h w h :=
 ci_ (fun _ q => by cases q) fun e he => by
   simp only [aop, he.val (x := x) (by simp [Op.operands]) hx, optV_ok he (fun y q => by subst q; simp [Op.operands]) ha, optV_ok he (fun y q => by subst q; simp [Op.operands]) hb, optV_ok he (fun y q => by subst q; simp [Op.operands]) hc, hv]
def partsK (l : KL) : List (Nat × Operand) → Option (List (Nat × Value))
 | [] => some []
 | (i, x) :: ps => match val l x, partsK l ps with
   | some v, some vs => some ((i, v) :: vs)
   | _, _ => none
theorem partsK_ok {op : Op} {e : Env} (he : Sees op l e) : ∀ {ps : List (Nat × Operand)} {vs : List (Nat × Value)}, (∀ p ∈ ps, p.2 ∈ op.operands.toList) → partsK l ps = some vs → (ps.map fun p => (p.1, aeval e p.2)) = vs
 | [], vs, _, h => by simp only [partsK] at h; cases h; rfl
 | (i, x) :: ps, vs, hm, h => by
   simp only [partsK] at h
   split at h
   · rename_i v vs' h1 h2
     cases h
     rw [List.map_cons, he.val (hm (i, x) List.mem_cons_self) h1, partsK_ok he (fun p hp => hm p (List.mem_cons_of_mem _ hp)) h2]
   · cases h
theorem op_build {ps : Array (Nat × Operand)} {vs : List (Nat × Value)} (hp : partsK l ps.toList = some vs) (hv : abuild M.P t vs = some v) : Op1 M (.build t ps) l h v h :=
 ci_ (fun _ q => by cases q) fun e he => by simp only [aop, partsK_ok he (fun p hp => by simp [Op.operands]; exact ⟨p.1, Array.mem_toList_iff.1 hp⟩) hp, hv]
theorem op_buildSlice {ps : Array (Nat × Operand)} {vs : List (Nat × Value)} {n : Nat} (hp : partsK l ps.toList = some vs) (hv : abuildSlice M.P h t n vs = some (v, h')) : Op1 M (.buildSlice t n ps) l h v h' :=
 ci_ (fun _ q => by cases q) fun e he => by simp only [aop, partsK_ok he (fun p hp => by simp [Op.operands]; exact ⟨p.1, Array.mem_toList_iff.1 hp⟩) hp, hv]
theorem op_bin {op : BinOp} {a b w : Value} (hx : val l x = some a) (hy : val l y = some b) (hga : gd a = true) (hgb : gd b = true) (hv : prun M.P (do eqGuard op t x y a b; binOp op t a b) = some w) (hw : gd w = true) : Op1 M (.binOp op t x y ty) l h w h :=
 ci_ (fun _ q => by cases q) fun e he => by simp only [aop, he.val (x := x) (by simp [Op.operands]) hx, he.val (x := y) (by simp [Op.operands]) hy, hga, hgb, Bool.and_self, hv, hw]
theorem op_aeq {a b : Value} {r : Bool} (hx : val l x = some a) (hy : val l y = some b) (hg : (gd a && gd b) = false) (hv : aeq M.P t a b = some r) : Op1 M (.binOp .eql t x y ty) l h (.bool r) h :=
 ci_ (fun _ q => by cases q) fun e he => by simp only [aop, he.val (x := x) (by simp [Op.operands]) hx, he.val (x := y) (by simp [Op.operands]) hy, hg, hv]
theorem op_add {a b : Int} {k : IntKind} (hx : val l x = some (.int k a)) (hy : val l y = some (.int k b)) : Op1 M (.binOp .add t x y ty) l h (.int k (k.wrap (a + b))) h :=
 op_bin hx hy rfl rfl (by simp [eqGuard, binOp, Op.intArith, Op.intCmp, Op.intDiv, Op.intBits, Op.floatCmp, Op.floatArith, Op.stringOp, bI_, bind_pure_comp]) rfl
theorem op_add' {a b c : Int} {k : IntKind} (hx : val l x = some (.int k a)) (hy : val l y = some (.int k b)) (hc : k.wrap (a + b) = c) : Op1 M (.binOp .add t x y ty) l h (.int k c) h := hc ▸ op_add hx hy
theorem op_sub {a b : Int} {k : IntKind} (hx : val l x = some (.int k a)) (hy : val l y = some (.int k b)) : Op1 M (.binOp .sub t x y ty) l h (.int k (k.wrap (a - b))) h :=
 op_bin hx hy rfl rfl (by simp [eqGuard, binOp, Op.intArith, Op.intCmp, Op.intDiv, Op.intBits, Op.floatCmp, Op.floatArith, Op.stringOp, bI_, bind_pure_comp]) rfl
theorem bY_ {a b c : Int} {k : IntKind} (hx : val l x = some (.int k a)) (hy : val l y = some (.int k b)) (hc : k.wrap (a - b) = c) : Op1 M (.binOp .sub t x y ty) l h (.int k c) h := hc ▸ op_sub hx hy
theorem op_mul {a b : Int} {k : IntKind} (hx : val l x = some (.int k a)) (hy : val l y = some (.int k b)) : Op1 M (.binOp .mul t x y ty) l h (.int k (k.wrap (a * b))) h :=
 op_bin hx hy rfl rfl (by simp [eqGuard, binOp, Op.intArith, Op.intCmp, Op.intDiv, Op.intBits, Op.floatCmp, Op.floatArith, Op.stringOp, bI_, bind_pure_comp]) rfl
theorem op_mul' {a b c : Int} {k : IntKind} (hx : val l x = some (.int k a)) (hy : val l y = some (.int k b)) (hc : k.wrap (a * b) = c) : Op1 M (.binOp .mul t x y ty) l h (.int k c) h := hc ▸ op_mul hx hy
theorem op_eql {a b : Int} {k : IntKind} (hx : val l x = some (.int k a)) (hy : val l y = some (.int k b)) : Op1 M (.binOp .eql t x y ty) l h (.bool (decide (a = b))) h :=
 op_bin hx hy rfl rfl (by
   first
     | (simp [eqGuard, binOp, Op.intArith, Op.intCmp, Op.intDiv, Op.intBits, Op.floatCmp, Op.floatArith, Op.stringOp, bI_, bind_pure_comp]; done)
     | (simp [eqGuard, binOp, Op.intArith, Op.intCmp, Op.intDiv, Op.intBits, Op.floatCmp, Op.floatArith, Op.stringOp, bI_, bind_pure_comp]; by_cases hab : a = b <;> simp [hab])) rfl
theorem cH_ {a b : Int} {k : IntKind} (hx : val l x = some (.int k a)) (hy : val l y = some (.int k b)) : Op1 M (.binOp .neq t x y ty) l h (.bool (decide (¬ a = b))) h :=
 op_bin hx hy rfl rfl (by
   first
     | (simp [eqGuard, binOp, Op.intArith, Op.intCmp, Op.intDiv, Op.intBits, Op.floatCmp, Op.floatArith, Op.stringOp, bI_, bind_pure_comp]; done)
     | (simp [eqGuard, binOp, Op.intArith, Op.intCmp, Op.intDiv, Op.intBits, Op.floatCmp, Op.floatArith, Op.stringOp, bI_, bind_pure_comp]; by_cases hab : a = b <;> simp [hab])) rfl
theorem cI_ {a b : Int} {k : IntKind} (hx : val l x = some (.int k a)) (hy : val l y = some (.int k b)) : Op1 M (.binOp .lss t x y ty) l h (.bool (decide (a < b))) h :=
 op_bin hx hy rfl rfl (by
   first
     | (simp [eqGuard, binOp, Op.intArith, Op.intCmp, Op.intDiv, Op.intBits, Op.floatCmp, Op.floatArith, Op.stringOp, bI_, bind_pure_comp]; done)
     | (simp [eqGuard, binOp, Op.intArith, Op.intCmp, Op.intDiv, Op.intBits, Op.floatCmp, Op.floatArith, Op.stringOp, bI_, bind_pure_comp]; by_cases hab : a = b <;> simp [hab])) rfl
theorem op_leq {a b : Int} {k : IntKind} (hx : val l x = some (.int k a)) (hy : val l y = some (.int k b)) : Op1 M (.binOp .leq t x y ty) l h (.bool (decide (a ≤ b))) h :=
 op_bin hx hy rfl rfl (by
   first
     | (simp [eqGuard, binOp, Op.intArith, Op.intCmp, Op.intDiv, Op.intBits, Op.floatCmp, Op.floatArith, Op.stringOp, bI_, bind_pure_comp]; done)
     | (simp [eqGuard, binOp, Op.intArith, Op.intCmp, Op.intDiv, Op.intBits, Op.floatCmp, Op.floatArith, Op.stringOp, bI_, bind_pure_comp]; by_cases hab : a = b <;> simp [hab])) rfl
theorem bM_ {a b : Int} {k : IntKind} (hx : val l x = some (.int k a)) (hy : val l y = some (.int k b)) : Op1 M (.binOp .gtr t x y ty) l h (.bool (decide (b < a))) h :=
 op_bin hx hy rfl rfl (by
   first
     | (simp [eqGuard, binOp, Op.intArith, Op.intCmp, Op.intDiv, Op.intBits, Op.floatCmp, Op.floatArith, Op.stringOp, bI_, bind_pure_comp]; done)
     | (simp [eqGuard, binOp, Op.intArith, Op.intCmp, Op.intDiv, Op.intBits, Op.floatCmp, Op.floatArith, Op.stringOp, bI_, bind_pure_comp]; by_cases hab : a = b <;> simp [hab])) rfl
theorem op_geq {a b : Int} {k : IntKind} (hx : val l x = some (.int k a)) (hy : val l y = some (.int k b)) : Op1 M (.binOp .geq t x y ty) l h (.bool (decide (b ≤ a))) h :=
 op_bin hx hy rfl rfl (by
   first
     | (simp [eqGuard, binOp, Op.intArith, Op.intCmp, Op.intDiv, Op.intBits, Op.floatCmp, Op.floatArith, Op.stringOp, bI_, bind_pure_comp]; done)
     | (simp [eqGuard, binOp, Op.intArith, Op.intCmp, Op.intDiv, Op.intBits, Op.floatCmp, Op.floatArith, Op.stringOp, bI_, bind_pure_comp]; by_cases hab : a = b <;> simp [hab])) rfl
theorem op_seq {a b : ByteArray} (hx : val l x = some (.string a)) (hy : val l y = some (.string b)) : Op1 M (.binOp .eql t x y ty) l h (.bool (decide (a = b))) h :=
 op_bin hx hy rfl rfl (by show prun M.P (pure (Value.bool (a.toList == b.toList))) = _; rw [ba_beq]; rfl) rfl
theorem op_sne {a b : ByteArray} (hx : val l x = some (.string a)) (hy : val l y = some (.string b)) : Op1 M (.binOp .neq t x y ty) l h (.bool (decide (¬ a = b))) h :=
 op_bin hx hy rfl rfl (by show prun M.P (pure (Value.bool (!(a.toList == b.toList)))) = _; rw [ba_beq, decide_not]; rfl) rfl
theorem op_un {op : UnOp} {a w : Value} (hx : val l x = some a) (hga : gd a = true) (hv : prun M.P (Op.unary op a) = some w) (hw : gd w = true) : Op1 M (.unOp op t x) l h w h :=
 ci_ (fun _ q => by cases q) fun e he => by simp only [aop, he.val (x := x) (by simp [Op.operands]) hx, hga, hv, hw]
theorem cG_ {b : Bool} (hx : val l x = some (.bool b)) : Op1 M (.unOp .not t x) l h (.bool (!b)) h := op_un hx rfl (by simp [Op.unary, bI_]) rfl
theorem ax_ {a : Option Addr} {n c : Nat} {e1 : TypeId} (hx : val l x = some (.slice a n c)) (hu : M.P.underlying t = some (.slice e1)) : Op1 M (.call ⟨.builtin .len, #[x], #[t]⟩) l h (.int .i64 n) h :=
 op_blt fun e he => by simp [aop, he.val (x := x) (by simp [Op.operands, Call.operands]) hx, hu]
theorem cd_ {s : ByteArray} (hx : val l x = some (.string s)) (hu : M.P.underlying t = some .string) : Op1 M (.call ⟨.builtin .len, #[x], #[t]⟩) l h (.int .i64 s.size) h :=
 op_blt fun e he => by simp [aop, he.val (x := x) (by simp [Op.operands, Call.operands]) hx, hu]
theorem bl_ {s w r : Value} {st xt : TypeId} (hx : val l x = some s) (hy : val l y = some w) (hv : aappend M.P M.G h st xt s w = some (r, h')) : Op1 M (.call ⟨.builtin .append, #[x, y], #[st, xt]⟩) l h r h' :=
 op_blt fun e he => by simp [aop, he.val (x := x) (by simp [Op.operands, Call.operands]) hx, he.val (x := y) (by simp [Op.operands, Call.operands]) hy, hv]
theorem op_max {a b : Int} {k : IntKind} {tys : Array TypeId} (hx : val l x = some (.int k a)) (hy : val l y = some (.int k b)) : Op1 M (.call ⟨.builtin .max, #[x, y], tys⟩) l h (.int k (max a b)) h :=
 op_blt fun e he => by
   have h1 := he.val (x := x) (by simp [Op.operands, Call.operands]) hx
   have h2 := he.val (x := y) (by simp [Op.operands, Call.operands]) hy
   have hp : prun M.P (Builtin.max_ tys 0 ⟨[.int k a, .int k b]⟩) = some (.int k (max a b)) := by
     show prun M.P (Builtin.max2 (.int k a) (.int k b) >>= fun s => List.foldlM Builtin.max2 s []) = _
     by_cases hab : a < b
     · have : max a b = b := by omega
       rw [this]
       simp only [Builtin.max2, List.foldlM_nil, if_pos (show b > a from hab)]
       rfl
     · have : max a b = a := by omega
       rw [this]
       simp only [Builtin.max2, List.foldlM_nil, if_neg (show ¬ b > a from hab)]
       rfl
   simp [aop, h1, h2, gd, gnd, hp]
end
/- What is known of the heap. -/
def Wf (h : H) : Prop := ∀ n, h.nx ≤ n → h.get n = none
theorem Wf.empty : Wf H.empty := fun _ _ => rfl
structure Grow (h h' : H) : Prop where
 nx : h.nx ≤ h'.nx
 get : ∀ n, n < h.nx → h'.get n = h.get n
 wf : Wf h → Wf h'
theorem Grow.refl (h : H) : Grow h h := ⟨Nat.le_refl _, fun _ _ => rfl, id⟩
theorem Grow.trans {a b c : H} (x : Grow a b) (y : Grow b c) : Grow a c := ⟨Nat.le_trans x.nx y.nx, fun n hn => (y.get n (Nat.lt_of_lt_of_le hn x.nx)).trans (x.get n hn), fun w => y.wf (x.wf w)⟩
theorem Wf.push {h : H} (w : Wf h) (o : AObj) : Wf (h.push o) := by
 intro n hn
 rw [H.nx_push] at hn
 rw [H.get_push, if_neg (by omega)]
 exact w n (by omega)
theorem Wf.set {h : H} (w : Wf h) {b : Nat} (hb : b < h.nx) (o : AObj) : Wf (h.set b o) := by
 intro n hn
 rw [H.nx_set] at hn
 rw [H.get_set, if_neg (by omega)]
 exact w n hn
theorem Grow.push {a b : H} (x : Grow a b) (o : AObj) : Grow a (b.push o) := by
 refine ⟨by rw [H.nx_push]; have := x.nx; omega, fun n hn => ?_, fun w => (x.wf w).push o⟩
 have := x.nx
 rw [H.get_push, if_neg (by omega), x.get n hn]
theorem Grow.set {a b : H} (x : Grow a b) {n : Nat} (hn : a.nx ≤ n) (hb : n < b.nx) (o : AObj) : Grow a (b.set n o) := by
 refine ⟨x.nx, fun m hm => ?_, fun w => (x.wf w).set hb o⟩
 rw [H.get_set, if_neg (by omega), x.get m hm]
theorem Grow.kill {a b : H} (x : Grow a b) {n : Nat} (hn : a.nx ≤ n) : Grow a (b.kill n) := by
 refine ⟨x.nx, fun m hm => ?_, fun w m hm => ?_⟩
 · rw [H.get_kill, if_neg (by omega), x.get m hm]
 · rw [H.nx_kill] at hm
   rw [H.get_kill]
   split
   · rfl
   · exact x.wf w m hm
structure At (h : H) (b : Nat) (o : AObj) : Prop where
 lt : b < h.nx
 get : h.get b = some o
theorem At.grow {h h' : H} {b : Nat} {o : AObj} (a : At h b o) (g : Grow h h') : At h' b o := ⟨Nat.lt_of_lt_of_le a.lt g.nx, (g.get b a.lt).trans a.get⟩
theorem At.new (h : H) (o : AObj) : At (h.push o) h.nx o := ⟨by rw [H.nx_push]; omega, by rw [H.get_push, if_pos rfl]⟩
theorem At.push {h : H} {b : Nat} {o : AObj} (a : At h b o) (p : AObj) : At (h.push p) b o := a.grow ((Grow.refl h).push p)
theorem At.set {h : H} {b : Nat} {o : AObj} (a : At h b o) (p : AObj) : At (h.set b p) b p := ⟨a.lt, by rw [H.get_set, if_pos rfl]⟩
theorem At.set_ne {h : H} {b c : Nat} {o : AObj} (a : At h b o) (hn : b ≠ c) (p : AObj) : At (h.set c p) b o := ⟨a.lt, by rw [H.get_set, if_neg hn]; exact a.get⟩
theorem At.kill_ne {h : H} {b c : Nat} {o : AObj} (a : At h b o) (hn : b ≠ c) : At (h.kill c) b o := ⟨a.lt, by rw [H.get_kill, if_neg hn]; exact a.get⟩
structure Cells (G : Base) (h : H) (a : Addr) (l : List Value) : Prop where
 lt : a.spot = some 0 → a.block < h.nx
 get : ∀ i v, l[i]? = some v → acell G h (aadd a i) = some v
 spot : a.spot = none ∨ a.spot = some 0
 own : a.spot = some 0 → ∃ c e es s, h.get a.block = some (.cells c e es s)
theorem acell_grow {G : Base} {h h' : H} (g : Grow h h') {a : Addr} (hl : a.spot = some 0 → a.block < h.nx) (hs : a.spot = none ∨ a.spot = some 0) : acell G h' a = acell G h a := by
 unfold acell
 rcases hs with hs | hs
 · rw [hs]
 · rw [hs, g.get _ (hl hs)]
theorem Cells.grow {G : Base} {h h' : H} {a : Addr} {l : List Value} (c : Cells G h a l) (g : Grow h h') : Cells G h' a l :=
 ⟨fun q => Nat.lt_of_lt_of_le (c.lt q) g.nx, fun i v q => by rw [acell_grow g (a := aadd a i) c.lt c.spot]; exact c.get i v q, c.spot, fun q => by rw [g.get _ (c.lt q)]; exact c.own q⟩
theorem aadd_aadd (a : Addr) (i j : Nat) : aadd (aadd a i) j = aadd a (i + j) := by simp [aadd, Nat.add_assoc]
theorem Cells.drop {G : Base} {h : H} {a : Addr} {l : List Value} (c : Cells G h a l) (k : Nat) : Cells G h (aadd a k) (l.drop k) :=
 ⟨c.lt, fun i v q => by rw [aadd_aadd]; exact c.get (k + i) v (by rw [List.getElem?_drop] at q; exact q), c.spot, c.own⟩
theorem Cells.take {G : Base} {h : H} {a : Addr} {l : List Value} (c : Cells G h a l) (k : Nat) : Cells G h a (l.take k) :=
 ⟨c.lt, fun i v q => c.get i v (by
   rw [List.getElem?_take] at q
   split at q
   · exact q
   · cases q), c.spot, c.own⟩
theorem At.cells {G : Base} {h : H} {b : Nat} {c : List Value} {e : TypeId} {es : Nat} {s : Bool} (a : At h b (.cells c e es s)) : Cells G h ⟨b, 0, some 0⟩ c :=
 ⟨fun _ => a.lt, fun i v q => by simp only [acell, aadd, a.get]; simpa using q, .inr rfl, fun _ => ⟨c, e, es, s, a.get⟩⟩
theorem baseCells_of {G : Base} : ∀ (l : List Value) (a : Addr), (∀ i v, l[i]? = some v → G (aadd a i) = some v) → baseCells G l.length a = some l
 | [], _, _ => rfl
 | v :: l, a, q => by
   have h0 := q 0 v rfl
   rw [aadd_zero] at h0
   have ih := baseCells_of l (aadd a 1) fun i u hu => by rw [aadd_aadd]; have := q (i + 1) u (by simpa using hu); rwa [Nat.add_comm 1 i]
   simp only [List.length_cons, baseCells, h0, ih]
theorem Cells.all {G : Base} {h : H} {a : Addr} {l : List Value} (c : Cells G h a l) : acells G h l.length a = some l := by
 obtain ⟨blk, off, spot⟩ := a
 rcases c.spot with hs | hs
 · simp only at hs; subst hs
   simp only [acells]
   exact baseCells_of l _ fun i v q => by have := c.get i v q; simpa [acell, aadd] using this
 · simp only at hs; subst hs
   obtain ⟨cs, e, es, sf, hg⟩ := c.own rfl
   simp only at hg
   simp only [acells, hg]
   have : (cs.drop off).take l.length = l := by
     refine List.ext_getElem? fun i => ?_
     rw [List.getElem?_take]
     split
     · rename_i hi
       obtain ⟨v, hv⟩ : ∃ v, l[i]? = some v := ⟨_, List.getElem?_eq_getElem hi⟩
       have := c.get i v hv
       simp only [acell, aadd, hg] at this
       rw [List.getElem?_drop, hv]; exact this
     · rename_i hi
       rw [List.getElem?_eq_none (by omega)]
   rw [this]
   simp
theorem ld_one {M : Mc} {h : H} {t : TypeId} {a : Addr} {v : Value} {d : TypeDesc} (hu : M.P.underlying t = some d) (hd : isAggD d = false) (hc : acell M.G h a = some v) : aloadVar M.P M.G h t a = some v := by
 simp only [aloadVar, hu, hd, hc]
theorem ld_agg {M : Mc} {h : H} {t : TypeId} {a : Addr} {l : List Value} {d : TypeDesc} {n : Nat} (hu : M.P.underlying t = some d) (hd : isAggD d = true) (hn : tsz M.P t = some n) (hc : acells M.G h n a = some l) : aloadVar M.P M.G h t a = some (.agg ⟨l⟩) := by
 simp only [aloadVar, hu, hd, hn, hc]
inductive Sl (G : Base) (h : H) (es : Nat) : Value → Nat → List Value → Prop where
 | nil : Sl G h es (.slice none 0 0) 0 []
 | end' (b o : Nat) : Sl G h es (.slice (some ⟨b, o, some 1⟩) 0 0) 0 []
 | mem (a : Addr) (n c : Nat) (l : List Value) : l.length = n * es → Cells G h a l → n ≤ c → (a.spot = some 0 → ∃ c e s, h.get a.block = some (.cells c e es s)) → Sl G h es (.slice (some a) n c) n l
theorem Sl.grow {G : Base} {h h' : H} {es n : Nat} {v : Value} {l : List Value} (s : Sl G h es v n l) (g : Grow h h') : Sl G h' es v n l := by
 cases s with
 | nil => exact .nil
 | end' b o => exact .end' b o
 | mem a n c l hl hc hn ho => exact .mem a n c l hl (hc.grow g) hn fun q => by rw [g.get _ (hc.lt q)]; exact ho q
theorem Sl.length {G : Base} {h : H} {es n : Nat} {v : Value} {l : List Value} (s : Sl G h es v n l) : l.length = n * es := by
 cases s with
 | nil => simp
 | end' => simp
 | mem a n c l hl hc hn ho => exact hl
theorem Sl.form {G : Base} {h : H} {es n : Nat} {v : Value} {l : List Value} (s : Sl G h es v n l) : ∃ a c, v = .slice a n c := by
 cases s with
 | nil => exact ⟨_, _, rfl⟩
 | end' => exact ⟨_, _, rfl⟩
 | mem a n c l hl hc hn ho => exact ⟨_, _, rfl⟩
theorem Sl.addr {M : Mc} {h : H} {es n : Nat} {v : Value} {l : List Value} (s : Sl M.G h es v n l) {t e : TypeId} (hu : M.P.underlying t = some (.slice e)) (hz : tsz M.P e = some es) {i : Int} {k : IntKind} (h0 : 0 ≤ i) (h1 : i < n) :
   ∃ a, aindexAddr M.P t v (.int k i) = some (.pointer (some a)) ∧ Cells M.G h a (l.drop (i.toNat * es)) := by
 cases s with
 | nil => omega
 | end' => omega
 | mem a n c l hl hc hn ho =>
   refine ⟨aadd a (i.toNat * es), ?_, hc.drop _⟩
   simp only [aindexAddr, asInt?, hu, hz, decide_eq_true (And.intro h0 h1)]
theorem Sl.first {M : Mc} {h : H} {es n : Nat} {v : Value} {l : List Value} (s : Sl M.G h es v n l) : afirst M.G h es n v = some l := by
 cases s with
 | nil => rfl
 | end' b o => rfl
 | mem a n c l hl hc hn ho =>
   unfold afirst
   have h1 : a.spot ≠ some 1 := by rcases hc.spot with q | q <;> simp [q]
   split
   · rename_i a' ll cc hq
     cases hq
     split
     · rename_i hs; exact absurd hs h1
     · rw [← hl]; exact hc.all
   · rename_i hq; cases hq
   · rename_i hq; cases hq
   · rename_i h2 _ _; exact absurd rfl (h2 a n c)
/- Sums that stay in their kind. -/
theorem w64 {x : Int} (h0 : -9223372036854775808 ≤ x) (h1 : x ≤ 9223372036854775807) : IntKind.wrap .i64 x = x := by
 simp only [IntKind.wrap, IntKind.signed, IntKind.bits]
 simp
 split <;> omega
end Go.Ab
