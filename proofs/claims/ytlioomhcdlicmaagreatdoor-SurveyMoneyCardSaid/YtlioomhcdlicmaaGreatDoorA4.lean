/- Code, calls and loops: what the evaluator answers is what the machine does. -/
import Derived.Test.YtlioomhcdlicmaaGreatDoorA3
import Derived.RangeFuncRecord
set_option linter.all false
namespace Go.Ab
open Go
variable {P : Program} {B : Nat} {G : Base}
def Does (P : Program) (c : Frame) (cs : List Frame) (s : Sem Next) (w : World) (v' : Value) (w' : World) : Prop :=
 ∃ nx w1, s.run P w = .ok nx w1 ∧ match nx with
   | .value u => u = v' ∧ w1 = w'
   | .skip => v' = undef ∧ w1 = w'
   | .enter f args => Steps P (lone (Frame.enter P f args .normal) (c :: cs) w1) (lone (c.finish v') cs w')
   | .round l f tmps assign body => Steps P (lone (Frame.round l f tmps assign body .normal) (c :: cs) w1) (lone (c.finish v') cs w')
   | _ => False
def Ends (P : Program) (B : Nat) (G : Base) (ρ : Ctx) (h : H) (w : World) (c : Frame) (cs : List Frame) (s : Sem Next) (v : Value) (h' : H) : Prop :=
 ∃ v' w' ρ', VRel ρ' v v' ∧ Rep B G ρ' h' w' ∧ Step ρ h w ρ' h' w' ∧ Does P c cs s w v' w'
theorem Good.ends {ρ : Ctx} {h h' : H} {w : World} {s : Sem Next} {v : Value} (g : Good P B G ρ h w s v h') (c : Frame) (cs : List Frame) : Ends P B G ρ h w c cs s v h' := by
 obtain ⟨nx, w', hr, v', ρ', hn, hv, hR, hS⟩ := g
 refine ⟨v', w', ρ', hv, hR, hS, nx, w', hr, ?_⟩
 rcases hn with rfl | ⟨rfl, rfl⟩
 · exact ⟨rfl, rfl⟩
 · exact ⟨rfl, rfl⟩
def CallSound (P : Program) (B : Nat) (G : Base) (rec : Ev) : Prop :=
 ∀ fv args h v h', rec.call fv args h = some (v, h') → ∀ ρ w fv' args', Rep B G ρ h w → VRel ρ fv fv' → LRel ρ args args' →
   ∀ c cs, Ends P B G ρ h w c cs (do let d ← Deferred.ofValue fv' ⟨args'⟩; invoke d.target d.args) v h'
theorem Ends.of_eq {ρ : Ctx} {h h' : H} {w : World} {c : Frame} {cs : List Frame} {s s' : Sem Next} {v : Value} (g : Ends P B G ρ h w c cs s v h') (e : s = s') : Ends P B G ρ h w c cs s' v h' := e ▸ g
theorem evOp_sound {rec : Ev} (hc : CallSound P B G rec) {ρ : Ctx} {h h' : H} {w : World} {e : Env} {a : Act} (R : Rep B G ρ h w) (E : ERel ρ e a.tmps) (o : Oper) {v : Value}
   (hb : evOp P G rec o e h = some (v, h')) (c : Frame) (cs : List Frame) : Ends P B G ρ h w c cs (execOp a.eval o) v h' := by
 unfold evOp at hb
 split at hb
 · rename_i cl hop
   split at hb
   · rename_i f hf
     refine (hc _ _ _ _ _ hb ρ w (a.eval f) (cl.args.toList.map a.eval) R (E.eval f) (map_rel E _) c cs).of_eq ?_
     obtain ⟨dst, op, ty, pos, after, guard⟩ := o
     obtain ⟨callee, args, ats⟩ := cl
     simp only at hop hf
     subst hop hf
     have : (⟨args.toList.map a.eval⟩ : Array Value) = args.map a.eval := by
       obtain ⟨l⟩ := args; simp
     simp only [execOp, resolve, this]
   · exact (aop_sound R E o hb).ends c cs
   · cases hb
 · rename_i op hop
   exact (aop_sound R E o hb).ends c cs
theorem evOp_nodefer {rec : Ev} {o : Oper} {e : Env} {h : H} {r : Value × H} (hb : evOp P G rec o e h = some r) : ∀ c, o.op ≠ .defer c := by
 intro c hc
 unfold evOp at hb
 rw [hc] at hb
 simp [aop] at hb
theorem step_does {b : Frame} {a : Act} {k : List Item} {cs : List Frame} {w w' : World} {ops : Array Oper} {i : Nat} {rest : List Nat} {o : Oper} {v' : Value}
   (ho : ops[i]? = some o) (hw : Region.wanted o (yielded ops a.tmps) = true) (hd : ∀ c, o.op ≠ .defer c)
   (h : Does P (b.atR a (.inRegion ops (i :: rest) :: k)) cs (execOp a.eval o) w v' w') :
   Steps P (lone (b.atR a (.inRegion ops (i :: rest) :: k)) cs w) (lone (b.atR (a.put o.dst v') (.inRegion ops rest :: k)) cs w') := by
 obtain ⟨nx, w1, hr, hm⟩ := h
 have hg := stepGR_op (P := P) (b := b) (k := k) (cs := cs) (w := w) (rest := rest) ho hw
 rw [Oper.semAt_eq _ _ _ hd] at hg
 have hfin : ∀ v, (b.atR a (.inRegion ops (i :: rest) :: k)).finish v = b.atR (a.put o.dst v) (.inRegion ops rest :: k) := by
   intro v; rw [Frame.finish_atR, ho]; rfl
 cases nx with
 | value u =>
   obtain ⟨rfl, rfl⟩ := hm
   refine .one (step_lone_go ?_)
   rw [hg, ← hfin]; simp [stepG.apply, hr]
 | skip =>
   obtain ⟨rfl, rfl⟩ := hm
   refine .one (step_lone_go ?_)
   rw [hg, ← hfin]; simp [stepG.apply, hr]
 | enter f args =>
   refine .head (m₁ := lone (Frame.enter P f args .normal) (b.atR a (.inRegion ops (i :: rest) :: k) :: cs) w1) (step_lone_go ?_) ?_
   · rw [hg]; simp [stepG.apply, hr, Frame.atR]
   · rw [← hfin]; exact hm
 | round l f tmps assign body =>
   refine .head (m₁ := lone (Frame.round l f tmps assign body .normal) (b.atR a (.inRegion ops (i :: rest) :: k) :: cs) w1) (step_lone_go ?_) ?_
   · rw [hg]; simp [stepG.apply, hr]
   · rw [← hfin]; exact hm
 | _ => exact hm.elim
theorem cy_ {ρ : Ctx} {e : Env} {a : Act} {ops : Array Oper} {o : Oper} {t : Bool} (E : ERel ρ e a.tmps) (h : wantedA ops o e = some t) : Region.wanted o (yielded ops a.tmps) = t := by
 unfold wantedA at h
 unfold Region.wanted
 cases hg : o.guard with
 | none => rw [hg] at h; simp at h; simp [h]
 | some g =>
   obtain ⟨j, want⟩ := g
   rw [hg] at h
   simp only at h ⊢
   unfold yielded
   cases hj : ops[j]? with
   | none => rw [hj] at h; simp at h
   | some oj =>
     rw [hj] at h
     simp only at h
     cases hd : oj.dst with
     | none => rw [hd] at h; simp at h
     | some d =>
       rw [hd] at h
       simp only [Option.bind_some, hd] at h ⊢
       have hx := E.get d
       have hgd : ∀ u : Value, a.tmps.getD d undef = u → u ≠ undef → a.tmps[d]? = some u := by
         intro u hu hne
         rw [Array.getD_eq_getD_getElem?] at hu
         cases hq : a.tmps[d]? with
         | none => rw [hq] at hu; exact absurd hu.symm hne
         | some q => rw [hq] at hu; simp at hu; rw [hu]
       generalize hu : a.tmps.getD d undef = u at hx
       generalize he : e.get d = q at h hx
       cases hx with
       | bool bb =>
         have := hgd _ hu (by simp [undef])
         simp only [this] at h ⊢
         cases bb <;> cases want <;> simp at h ⊢ <;> first | exact h | (subst h; rfl)
       | skip =>
         simp [skipV] at h
         subst h
         rw [Array.getD_eq_getD_getElem?] at hu
         cases hq : a.tmps[d]? with
         | none => rfl
         | some q => rw [hq] at hu; simp at hu; subst hu; rfl
       | _ => simp [undef] at h
theorem Env.putO_some {e e' : Env} {d : Option Nat} {v : Value} (h : e.putO d v = some e') : e'.sz = e.sz := by
 cases d with
 | none => simp only [Env.putO] at h; cases h; rfl
 | some d => exact (Env.put_some h).2.1
theorem evOps_sound {rec : Ev} (hc : CallSound P B G rec) {ops : Array Oper} : ∀ (l pre : List Oper), ops.toList = pre ++ l → ∀ (e : Env) (h : H) (e' : Env) (h' : H), evOps P G rec ops l e h = some (e', h') →
   ∀ (ρ : Ctx) (w : World) (a : Act), Rep B G ρ h w → ERel ρ e a.tmps → ∀ (b : Frame) (k : List Item) (cs : List Frame),
   ∃ ρ' w' a', Rep B G ρ' h' w' ∧ Step ρ h w ρ' h' w' ∧ ERel ρ' e' a'.tmps ∧ a'.defers = a.defers ∧
     Steps P (lone (b.atR a (.inRegion ops (List.range' pre.length l.length) :: k)) cs w) (lone (b.atR a' k) cs w')
 | [], pre, hp, e, h, e', h', hb, ρ, w, a, R, E, b, k, cs => by
   simp only [evOps] at hb
   cases hb
   exact ⟨ρ, w, a, R, .refl _ _ _, E, rfl, .one stepR_region_end⟩
 | o :: l, pre, hp, e, h, e', h', hb, ρ, w, a, R, E, b, k, cs => by
   have ho : ops[pre.length]? = some o := by
     rw [← Array.getElem?_toList, hp, List.getElem?_append_right (Nat.le_refl _)]
     simp
   have hp' : ops.toList = (pre ++ [o]) ++ l := by rw [hp]; simp
   have hr : List.range' pre.length (o :: l).length = pre.length :: List.range' (pre ++ [o]).length l.length := by
     simp [List.range'_succ]
   rw [hr]
   simp only [evOps] at hb
   split at hb
   · rename_i hw
     have hw' := cy_ E hw
     split at hb
     · rename_i v h1 hv
       split at hb
       · rename_i e1 he1
         obtain ⟨v', w1, ρ1, g1, g2, g3, g4⟩ := evOp_sound hc R E o hv (b.atR a (.inRegion ops (pre.length :: List.range' (pre ++ [o]).length l.length) :: k)) cs
         have E1 : ERel ρ1 e1 (a.put o.dst v').tmps := (E.mono (R.sub_of g3)).putO he1 g1
         obtain ⟨ρ2, w2, a2, q1, q2, q3, q4, q5⟩ := evOps_sound hc l (pre ++ [o]) hp' e1 h1 e' h' hb ρ1 w1 (a.put o.dst v') g2 E1 b k cs
         exact ⟨ρ2, w2, a2, q1, g3.trans q2, q3, by rw [q4]; cases o.dst <;> rfl, (step_does ho hw' (evOp_nodefer hv) g4).trans q5⟩
       · cases hb
     · cases hb
   · rename_i hw
     have hw' := cy_ E hw
     split at hb
     · rename_i e1 he1
       have E1 : ERel ρ e1 (a.put o.dst undef).tmps := E.putO he1 .skip
       obtain ⟨ρ2, w2, a2, q1, q2, q3, q4, q5⟩ := evOps_sound hc l (pre ++ [o]) hp' e1 h e' h' hb ρ w (a.put o.dst undef) R E1 b k cs
       refine ⟨ρ2, w2, a2, q1, q2, q3, by rw [q4]; cases o.dst <;> rfl, .head (stepR_op_skip (by simp [ho, hw'])) ?_⟩
       rw [ho]; exact q5
     · cases hb
   · cases hb
def mark (r : Nat) : Deferred := { target := .collected r, args := #[] }
def Marks (n0 : Nat) (ρ : Ctx) (h : H) (w : World) (ds : List Deferred) : Prop :=
 ∃ rs : List Nat, ds = rs.map mark ∧ rs.Nodup ∧ ∀ r ∈ rs, n0 ≤ r ∧ r < w.heap.size ∧ w.heap[r]? = some (.deferred (some [])) ∧ ¬ Live ρ h r
theorem Marks.step {n0 : Nat} {ρ ρ' : Ctx} {h h' : H} {w w' : World} {ds : List Deferred} (m : Marks n0 ρ h w ds) (s : Step ρ h w ρ' h' w') : Marks n0 ρ' h' w' ds := by
 obtain ⟨rs, h1, h2, h3⟩ := m
 refine ⟨rs, h1, h2, fun r hr => ?_⟩
 obtain ⟨g1, g2, g3, g4⟩ := h3 r hr
 exact ⟨g1, Nat.lt_of_lt_of_le g2 s.size, by rw [s.frame r g2 g4]; exact g3, fun hl => g4 (s.live r g2 hl)⟩
theorem Marks.nil (n0 : Nat) (ρ : Ctx) (h : H) (w : World) : Marks n0 ρ h w [] := ⟨[], rfl, .nil, by simp⟩
def RoOk (ρ : Ctx) (ro ro' : Option Nat) : Prop := (ro = none ∧ ro' = none) ∨ ∃ l i, ro = some l ∧ ρ l = some i ∧ ro' = some i.blk
theorem RoOk.mono {ρ ρ' : Ctx} {ro ro' : Option Nat} (h : RoOk ρ ro ro') (s : Sub ρ ρ') : RoOk ρ' ro ro' := by
 rcases h with h | ⟨l, i, h1, h2, h3⟩
 · exact .inl h
 · exact .inr ⟨l, i, h1, s _ _ h2, h3⟩
def Left (P : Program) (b : Frame) (cs : List Frame) (k : List Item) (m : Machine) (a' : Act) (w' : World) : X → Prop
 | .norm => Steps P m (lone (b.atR a' k) cs w')
 | .exit id => ∃ k1, exitTo id k1 = exitTo id k ∧ Steps P m (lone (b.atR a' (.code (.exit id) :: k1)) cs w')
 | .ret => ∃ k1, Steps P m (lone (b.atR a' (.code .ret :: k1)) cs w')
theorem Left.of_steps {b : Frame} {cs : List Frame} {k : List Item} {m m1 : Machine} {a' : Act} {w' : World} {x : X} (s : Steps P m m1) (l : Left P b cs k m1 a' w' x) : Left P b cs k m a' w' x := by
 cases x with
 | norm => exact s.trans l
 | exit id => obtain ⟨k1, h1, h2⟩ := l; exact ⟨k1, h1, s.trans h2⟩
 | ret => obtain ⟨k1, h2⟩ := l; exact ⟨k1, s.trans h2⟩
def Fine (P : Program) (B : Nat) (G : Base) (n0 : Nat) (ρ : Ctx) (h : H) (w : World) (b : Frame) (a : Act) (its : List Item) (k : List Item) (cs : List Frame) (x : X) (e' : Env) (h' : H) : Prop :=
 ∃ ρ' w' a', Rep B G ρ' h' w' ∧ Step ρ h w ρ' h' w' ∧ ERel ρ' e' a'.tmps ∧ Marks n0 ρ' h' w' a'.defers ∧
   Left P b cs k (lone (b.atR a (its ++ k)) cs w) a' w' x
def CodeSound (P : Program) (B : Nat) (G : Base) (ev : Option Nat → Code → Env → H → Option (X × Env × H)) (its : Code → List Item) (c : Code) : Prop :=
 ∀ ro e h x e' h', ev ro c e h = some (x, e', h') → ∀ ρ w n0 (b : Frame) a, RoOk ρ ro b.roundOf → Rep B G ρ h w → ERel ρ e a.tmps → Marks n0 ρ h w a.defers → n0 ≤ w.heap.size →
   ∀ k cs, Fine P B G n0 ρ h w b a (its c) k cs x e' h'
def loopIts : Code → List Item
 | .loop c => [.code c, .inLoop c]
 | _ => []
def LoopSound (P : Program) (B : Nat) (G : Base) (rec : Ev) : Prop := ∀ c, CodeSound P B G rec.loop loopIts (.loop c)
def DrawSound (P : Program) (B : Nat) (G : Base) (rec : Ev) : Prop :=
 ∀ ops e h e' h', evDraw P G rec ops e h = some (e', h') → ∀ (t : Nat) (ρ : Ctx) (w : World) (a : Act), Rep B G ρ h w → ERel ρ e a.tmps → ∀ (b : Frame) (k : List Item) (cs : List Frame),
   ∃ ρ' w' a', Rep B G ρ' h' w' ∧ Step ρ h w ρ' h' w' ∧ ERel ρ' e' a'.tmps ∧ a'.defers = a.defers ∧
     Steps P (lone (b.atR a (.inRegion ops (Region.schedule (P.follows .mixedOrders) ops t) :: k)) cs w) (lone (b.atR a' k) cs w')
section
variable {n0 : Nat} {ρ : Ctx} {h : H} {w : World} {b : Frame} {a : Act} {its : List Item} {k : List Item} {cs : List Frame}
theorem Fine.seq {its2 : List Item} {x : X} {e1 e2 : Env} {h1 h2 : H} (hro : ∀ {j id}, exitTo id (its2 ++ j) = exitTo id j)
   (f : Fine P B G n0 ρ h w b a its (its2 ++ k) cs .norm e1 h1) (hn : n0 ≤ w.heap.size) (R : Rep B G ρ h w)
   (g : ∀ ρ1 w1 a1, Sub ρ ρ1 → Rep B G ρ1 h1 w1 → ERel ρ1 e1 a1.tmps → Marks n0 ρ1 h1 w1 a1.defers → n0 ≤ w1.heap.size → Fine P B G n0 ρ1 h1 w1 b a1 its2 k cs x e2 h2) :
   Fine P B G n0 ρ h w b a (its ++ its2) k cs x e2 h2 := by
 obtain ⟨ρ1, w1, a1, g1, g2, g3, g4, g5⟩ := f
 obtain ⟨ρ2, w2, a2, q1, q2, q3, q4, q5⟩ := g ρ1 w1 a1 (R.sub_of g2) g1 g3 g4 (Nat.le_trans hn g2.size)
 exact ⟨ρ2, w2, a2, q1, g2.trans q2, q3, q4, Left.of_steps (by rw [List.append_assoc]; exact g5) q5⟩
theorem Fine.pre {its' : List Item} {x : X} {e' : Env} {h' : H} (s : ∀ k, Steps P (lone (b.atR a (its' ++ k)) cs w) (lone (b.atR a (its ++ k)) cs w))
   (f : Fine P B G n0 ρ h w b a its k cs x e' h') : Fine P B G n0 ρ h w b a its' k cs x e' h' := by
 obtain ⟨ρ1, w1, a1, g1, g2, g3, g4, g5⟩ := f
 exact ⟨ρ1, w1, a1, g1, g2, g3, g4, .of_steps (s k) g5⟩
theorem Fine.under {its2 : List Item} {x : X} {e' : Env} {h' : H} (hx : x ≠ .norm) (he : ∀ id, x = .exit id → exitTo id (its2 ++ k) = exitTo id k)
   (f : Fine P B G n0 ρ h w b a its (its2 ++ k) cs x e' h') : Fine P B G n0 ρ h w b a (its ++ its2) k cs x e' h' := by
 obtain ⟨ρ1, w1, a1, g1, g2, g3, g4, g5⟩ := f
 refine ⟨ρ1, w1, a1, g1, g2, g3, g4, ?_⟩
 rw [List.append_assoc]
 cases x with
 | norm => exact absurd rfl hx
 | exit id => obtain ⟨k1, h1, h2⟩ := g5; exact ⟨k1, h1.trans (he id rfl), h2⟩
 | ret => exact g5
end
abbrev one' (c : Code) : List Item := [.code c]
theorem loop_sound {rec : Ev} (hl : LoopSound P B G rec) {c : Code} (hcode : CodeSound P B G (evC P G rec) one' c) : CodeSound P B G (evC P G rec) loopIts (.loop c) := by
 intro ro e h x e' h' hb ρ w n0 b a hro R E M hn k cs
 simp only [evC] at hb
 have hroS : ∀ {ρ1 : Ctx}, Sub ρ ρ1 → RoOk ρ1 ro b.roundOf := fun s => hro.mono s
 split at hb
 · rename_i e1 h1 he
   have f := hcode ro e h _ e1 h1 he ρ w n0 b a hro R E M hn (.inLoop c :: k) cs
   have : Fine P B G n0 ρ h w b a (one' c ++ [.inLoop c]) k cs x e' h' := by
     refine Fine.seq (its2 := [.inLoop c]) (by intro j id; rfl) f hn R fun ρ1 w1 a1 s1 R1 E1 M1 hn1 => ?_
     have g := hl c ro e1 h1 x e' h' hb ρ1 w1 n0 b a1 (hroS s1) R1 E1 M1 hn1 k cs
     exact g.pre fun k => .one stepR_inLoop
   exact this
 · rename_i r hne
   have hx : x ≠ .norm := by rintro rfl; exact hne _ _ hb
   have f := hcode ro e h _ e' h' hb ρ w n0 b a hro R E M hn (.inLoop c :: k) cs
   exact Fine.under (its2 := [.inLoop c]) hx (fun id _ => rfl) f
theorem stepR_scope {b : Frame} {a : Act} {k : List Item} {cs : List Frame} {w : World} {c : Code} : step P (lone (b.atR a (.code (.scope c) :: k)) cs w) = .next (lone (b.atR a (.code c :: .inScope c :: k)) cs w) :=
 step_lone_go (by simp [stepG, stepG.exec, Frame.atR])
theorem stepR_inScope {b : Frame} {a : Act} {k : List Item} {cs : List Frame} {w : World} {c : Code} : step P (lone (b.atR a (.inScope c :: k)) cs w) = .next (lone (b.atR a k) cs w) :=
 step_lone_go (by simp [stepG, stepG.exec, Frame.atR])
def RangeSound (P : Program) (B : Nat) (G : Base) (rec : Ev) : Prop := ∀ f ps asg body, CodeSound P B G (evC P G rec) one' (.rangeFunc f ps asg body)
theorem evC_sound {rec : Ev} (hc : CallSound P B G rec) (hl : LoopSound P B G rec) (hd : DrawSound P B G rec) (hr : RangeSound P B G rec) : ∀ c, CodeSound P B G (evC P G rec) one' c := by
 intro c
 induction c with
 | skip =>
   intro ro e h x e' h' hb ρ w n0 b a hro R E M hn k cs
   simp only [evC] at hb; cases hb
   exact ⟨ρ, w, a, R, .refl _ _ _, E, M, .one stepR_skip⟩
 | label l =>
   intro ro e h x e' h' hb ρ w n0 b a hro R E M hn k cs
   simp only [evC] at hb; cases hb
   exact ⟨ρ, w, a, R, .refl _ _ _, E, M, .one stepR_label⟩
 | region id ops draw =>
   intro ro e h x e' h' hb ρ w n0 b a hro R E M hn k cs
   cases draw with
   | false =>
     simp only [evC] at hb
     split at hb
     · rename_i e1 h1 he
       cases hb
       obtain ⟨ρ1, w1, a1, g1, g2, g3, g4, g5⟩ := evOps_sound hc ops.toList [] rfl e h _ _ he ρ w a R E b k cs
       refine ⟨ρ1, w1, a1, g1, g2, g3, g4 ▸ M.step g2, .head stepR_region ?_⟩
       have : List.range ops.size = List.range' ([] : List Oper).length ops.toList.length := by simp [List.range_eq_range']
       rw [this]; exact g5
     · cases hb
   | true =>
     simp only [evC] at hb
     split at hb
     · rename_i e1 h1 he
       cases hb
       have R0 : Rep B G ρ h w.drew := R.drew
       obtain ⟨ρ1, w1, a1, g1, g2, g3, g4, g5⟩ := hd ops e h _ _ he (w.tape w.drawn (.order b.fn id)) ρ w.drew a R0 E b k cs
       have g2' := (Step.drew ρ h w).trans g2
       exact ⟨ρ1, w1, a1, g1, g2', g3, g4 ▸ M.step g2', .head stepR_region_draw g5⟩
     · cases hb
 | seq c1 c2 ih1 ih2 =>
   intro ro e h x e' h' hb ρ w n0 b a hro R E M hn k cs
   simp only [evC] at hb
   split at hb
   · rename_i e1 h1 he
     have f := ih1 ro e h _ e1 h1 he ρ w n0 b a hro R E M hn (.code c2 :: k) cs
     have : Fine P B G n0 ρ h w b a (one' c1 ++ one' c2) k cs x e' h' :=
       Fine.seq (its2 := one' c2) (by intro j id; rfl) f hn R fun ρ1 w1 a1 s1 R1 E1 M1 hn1 => ih2 ro e1 h1 x e' h' hb ρ1 w1 n0 b a1 (hro.mono s1) R1 E1 M1 hn1 k cs
     exact this.pre fun k => .one stepR_seq
   · rename_i hne
     have hx : x ≠ .norm := by rintro rfl; exact hne _ _ hb
     have f := ih1 ro e h _ e' h' hb ρ w n0 b a hro R E M hn (.code c2 :: k) cs
     have : Fine P B G n0 ρ h w b a (one' c1 ++ one' c2) k cs x e' h' := Fine.under (its2 := one' c2) hx (fun id _ => rfl) f
     exact this.pre fun k => .one stepR_seq
 | cond q c1 c2 ih1 ih2 =>
   intro ro e h x e' h' hb ρ w n0 b a hro R E M hn k cs
   simp only [evC] at hb
   have hq := E.eval q
   split at hb
   · rename_i ht
     rw [ht] at hq
     have hq' : a.eval q = .bool true := hq.gd_eq rfl
     exact (ih1 ro e h x e' h' hb ρ w n0 b a hro R E M hn k cs).pre fun k => .one (stepR_cond hq')
   · rename_i ht
     rw [ht] at hq
     have hq' : a.eval q = .bool false := hq.gd_eq rfl
     exact (ih2 ro e h x e' h' hb ρ w n0 b a hro R E M hn k cs).pre fun k => .one (stepR_cond hq')
   · cases hb
 | block id c ih =>
   intro ro e h x e' h' hb ρ w n0 b a hro R E M hn k cs
   simp only [evC] at hb
   split at hb
   · rename_i id' e1 h1 he
     have f := ih ro e h _ e1 h1 he ρ w n0 b a hro R E M hn (.inBlock id :: k) cs
     obtain ⟨ρ1, w1, a1, g1, g2, g3, g4, k1, g5, g6⟩ := f
     split at hb
     · rename_i hid
       cases hb
       have hid' := Nat.eq_of_beq_eq_true hid
       subst hid'
       refine ⟨ρ1, w1, a1, g1, g2, g3, g4, .head stepR_block (g6.trans (.one (stepR_exit ?_)))⟩
       rw [g5]; simp [exitTo]
     · rename_i hid
       cases hb
       have hid' := Nat.ne_of_beq_eq_false hid
       refine ⟨ρ1, w1, a1, g1, g2, g3, g4, k1, ?_, .head stepR_block g6⟩
       rw [g5]; simp [exitTo, Ne.symm hid']
   · rename_i hne
     have f := ih ro e h _ e' h' hb ρ w n0 b a hro R E M hn (.inBlock id :: k) cs
     obtain ⟨ρ1, w1, a1, g1, g2, g3, g4, g5⟩ := f
     cases x with
     | norm => exact ⟨ρ1, w1, a1, g1, g2, g3, g4, .head stepR_block (Steps.trans g5 (.one stepR_inBlock))⟩
     | exit id' => exact absurd hb (hne _ _ _)
     | ret =>
       obtain ⟨k1, g6⟩ := g5
       exact ⟨ρ1, w1, a1, g1, g2, g3, g4, k1, .head stepR_block g6⟩
 | loop c ih =>
   intro ro e h x e' h' hb ρ w n0 b a hro R E M hn k cs
   exact (loop_sound hl ih ro e h x e' h' hb ρ w n0 b a hro R E M hn k cs).pre fun k => .one stepR_loop
 | scope c ih =>
   intro ro e h x e' h' hb ρ w n0 b a hro R E M hn k cs
   simp only [evC] at hb
   have f := ih ro e h x e' h' hb ρ w n0 b a hro R E M hn (.inScope c :: k) cs
   obtain ⟨ρ1, w1, a1, g1, g2, g3, g4, g5⟩ := f
   cases x with
   | norm => exact ⟨ρ1, w1, a1, g1, g2, g3, g4, .head stepR_scope (Steps.trans g5 (.one stepR_inScope))⟩
   | exit id =>
     obtain ⟨k1, g5, g6⟩ := g5
     exact ⟨ρ1, w1, a1, g1, g2, g3, g4, k1, g5, .head stepR_scope g6⟩
   | ret =>
     obtain ⟨k1, g6⟩ := g5
     exact ⟨ρ1, w1, a1, g1, g2, g3, g4, k1, .head stepR_scope g6⟩
 | exit id =>
   intro ro e h x e' h' hb ρ w n0 b a hro R E M hn k cs
   simp only [evC] at hb; cases hb
   exact ⟨ρ, w, a, R, .refl _ _ _, E, M, k, rfl, .refl _ _⟩
 | ret =>
   intro ro e h x e' h' hb ρ w n0 b a hro R E M hn k cs
   simp only [evC] at hb; cases hb
   exact ⟨ρ, w, a, R, .refl _ _ _, E, M, k, .refl _ _⟩
 | rangeFunc f ps asg body _ _ => exact hr f ps asg body
 | _ =>
   intro ro e h x e' h' hb
   simp [evC] at hb
theorem load_still {ρ : Ctx} {h : H} {w : World} (R : Rep B G ρ h w) {t : TypeId} {x x' : Addr} {v : Value} (ha : ARel ρ x x') (hl : aloadVar P G h t x = some v) :
   ∃ v', (loadVar t x').run P w = .ok v' w ∧ VRel ρ v v' := by
 unfold aloadVar at hl
 split at hl
 · cases hl
 · rename_i d hd
   split at hl
   · rename_i hg
     split at hl
     · rename_i n hn
       split at hl
       · rename_i l hc
         cases hl
         obtain ⟨l', h1, h2⟩ := acells_rel R ha hc
         refine ⟨.agg l'.toArray, ?_, .agg l l' h1.1 h1.2⟩
         simp only [loadVar, Sem.run_bind, run_agg hd, Result.andThen_ok, hg, if_true, bS_ hn, h2 P w rfl, Sem.run_pure]
       · cases hl
     · cases hl
   · rename_i hg
     obtain ⟨v', h1, h2⟩ := acell_rel R ha hl
     refine ⟨v', ?_, h2⟩
     simp only [loadVar, Sem.run_bind, run_agg hd, Result.andThen_ok, hg, Bool.false_eq_true, if_false, run_load, h1]
def result1 (tmps : Array Value) : ResultVar → Sem Value
 | .tmp t => pure (tmps.getD t undef)
 | .cell a t => do loadVar t (← asAddr (tmps.getD a undef))
theorem aresult_sound {ρ : Ctx} {h : H} {w : World} (R : Rep B G ρ h w) {e : Env} {tmps : Array Value} (E : ERel ρ e tmps) {r : ResultVar} {v : Value} (hb : aresult P G e h r = some v) :
   ∃ v', (result1 tmps r).run P w = .ok v' w ∧ VRel ρ v v' := by
 cases r with
 | tmp t =>
   simp only [aresult] at hb; cases hb
   exact ⟨_, rfl, E.get t⟩
 | cell a t =>
   simp only [aresult] at hb
   split at hb
   · rename_i ad had
     have hx := E.get a
     rw [had] at hx
     obtain ⟨a', h1, h2⟩ := hx.pointer_inv
     obtain ⟨v', g1, g2⟩ := load_still R h2 hb
     exact ⟨v', by simp [result1, h1, asAddr, g1], g2⟩
   · cases hb
theorem aresults_sound {ρ : Ctx} {h : H} {w : World} (R : Rep B G ρ h w) {e : Env} {tmps : Array Value} (E : ERel ρ e tmps) : ∀ {l : List ResultVar} {vs : List Value}, aresults P G e h l = some vs →
   ∃ vs', (l.mapM (result1 tmps)).run P w = .ok vs' w ∧ LRel ρ vs vs'
 | [], vs, hb => by simp only [aresults] at hb; cases hb; exact ⟨[], rfl, .nil⟩
 | r :: l, vs, hb => by
   simp only [aresults] at hb
   split at hb
   · rename_i v l1 h1 h2
     cases hb
     obtain ⟨v', g1, g2⟩ := aresult_sound R E h1
     obtain ⟨vs', q1, q2⟩ := aresults_sound R E h2
     exact ⟨v' :: vs', by simp [List.mapM_cons, g1, q1], .cons g2 q2⟩
   · cases hb
def packed : List Value → Value
 | [v] => v
 | l => .tuple ⟨l⟩
theorem results_sound {ρ : Ctx} {h : H} {w : World} (R : Rep B G ρ h w) {e : Env} {tmps : Array Value} (E : ERel ρ e tmps) {fn : Func} {vs : List Value} (hb : aresults P G e h fn.results.toList = some vs) :
   ∃ v', (results fn tmps).run P w = .ok v' w ∧ VRel ρ (packed vs) v' := by
 obtain ⟨vs', h1, h2⟩ := aresults_sound R E hb
 have hr : (results fn tmps).run P w = .ok (if h : vs'.toArray.size = 1 then vs'.toArray[0] else .tuple vs'.toArray) w := by
   have e0 : results fn tmps = (do
       let vs ← fn.results.mapM (result1 tmps)
       pure (if h : vs.size = 1 then vs[0] else .tuple vs)) := by
     unfold results
     congr 2
   rw [e0]
   simp [Array.mapM_eq_mapM_toList, h1]
 refine ⟨_, hr, ?_⟩
 match vs, vs', h2 with
 | [], [], _ => exact .top _
 | [v], [v'], h2 => exact h2.2 0 _ _ rfl rfl
 | v :: v2 :: l, v' :: v2' :: l', h2 =>
   simp only [packed]
   rw [dif_neg (by simp)]
   exact .tuple v (v2 :: l) _ h2.1 h2.2
 | [], _ :: _, h2 => exact absurd h2.1 (by simp)
 | _ :: _, [], h2 => exact absurd h2.1 (by simp)
 | [_], _ :: _ :: _, h2 => exact absurd h2.1 (by simp)
 | _ :: _ :: _, [_], h2 => exact absurd h2.1 (by simp)
theorem lget_numbered : ∀ (l : List Value) (i t : Nat), lget (numbered i l) t = if i ≤ t then l.getD (t - i) undef else undef
 | [], i, t => by simp [numbered, lget]
 | v :: l, i, t => by
   simp only [numbered, lget]
   cases hb : Nat.beq i t
   · have hne := Nat.ne_of_beq_eq_false hb
     simp only [lget_numbered l (i + 1) t]
     by_cases h : i + 1 ≤ t
     · rw [if_pos h, if_pos (by omega)]
       have : t - i = (t - (i + 1)) + 1 := by omega
       rw [this]; simp
     · rw [if_neg h, if_neg (by omega)]
   · have := Nat.eq_of_beq_eq_true hb
     subst this
     simp
theorem start_rel {ρ : Ctx} {args args' : List Value} (h : LRel ρ args args') (n : Nat) : ERel ρ (Env.start n args) (args'.toArray ++ Array.replicate (n - args'.toArray.size) undef) := by
 refine ⟨by simp [Env.start, h.1]; omega, fun t => ?_⟩
 simp only [Env.get, Env.start, lget_numbered, Nat.zero_le, if_true, Nat.sub_zero]
 rcases Nat.lt_or_ge t args.length with ht | ht
 · have ht' : t < args'.length := by rw [← h.1]; exact ht
   have e1 : args[t]? = some args[t] := List.getElem?_eq_getElem ht
   have e2 : args'[t]? = some args'[t] := List.getElem?_eq_getElem ht'
   have := h.2 t _ _ e1 e2
   rw [List.getD_eq_getElem?_getD, e1, Array.getD_eq_getD_getElem?, Array.getElem?_append_left (by simpa using ht')]
   simpa [e2] using this
 · rw [List.getD_eq_getElem?_getD, List.getElem?_eq_none (by omega)]
   exact .top _
theorem unmark {n0 : Nat} {ρ : Ctx} {h : H} {cs : List Frame} (hB : B ≤ n0) : ∀ (rs : List Nat) (w : World) (fr : Frame), rs.Nodup → (∀ r ∈ rs, n0 ≤ r ∧ r < w.heap.size ∧ w.heap[r]? = some (.deferred (some [])) ∧ ¬ Live ρ h r) →
   fr.mode = .returning → fr.defers = rs.map mark → Rep B G ρ h w →
   ∃ w', Rep B G ρ h w' ∧ w'.heap.size = w.heap.size ∧ (∀ r, r < n0 → w'.heap[r]? = w.heap[r]?) ∧ w'.os = w.os ∧ w'.tape = w.tape ∧ w'.output = w.output ∧
     Steps P (lone fr cs w) (lone { fr with defers := [] } cs w')
 | [], w, fr, _, _, _, hd, R => by
   refine ⟨w, R, rfl, fun _ _ => rfl, rfl, rfl, rfl, ?_⟩
   have : { fr with defers := [] } = fr := by rw [show ([] : List Deferred) = fr.defers from hd.symm]
   rw [this]; exact .refl _ _
 | r :: rs, w, fr, hn, hm, hmode, hd, R => by
   obtain ⟨g1, g2, g3, g4⟩ := hm r (by simp)
   have hs := step_collected (P := P) (fr := fr) (cs := cs) (d := mark r) (ds := rs.map mark) (by rw [hmode]; simp) hd rfl (run_takeDeferred g3)
   have R1 : Rep B G ρ h (w.putObj r (.deferred none)) := R.elsewhere (fun q _ hq => World.putObj_heap_other (by
     rintro rfl
     rcases hq with hq | hq
     · omega
     · exact g4 hq)) (by simp)
   obtain ⟨hr, hn'⟩ := List.nodup_cons.1 hn
   obtain ⟨w', q1, q2, q3, q4, q5, q6, q7⟩ := unmark hB rs (w.putObj r (.deferred none)) { fr with defers := [] ++ rs.map mark } hn' (fun q hq => by
     obtain ⟨p1, p2, p3, p4⟩ := hm q (by simp [hq])
     have hne : q ≠ r := by rintro rfl; exact hr hq
     exact ⟨p1, by simpa using p2, by rw [World.putObj_heap_other hne]; exact p3, p4⟩) hmode (by simp) R1
   exact ⟨w', q1, by rw [q2]; simp, fun q hq => by rw [q3 q hq, World.putObj_heap_other (by omega)], q4, q5, q6, .head hs q7⟩
theorem Step.after {ρ ρ' : Ctx} {h h' : H} {w w' w2 : World} (s : Step ρ h w ρ' h' w') (hsz : w2.heap.size = w'.heap.size) (hh : ∀ r, r < w.heap.size → w2.heap[r]? = w'.heap[r]?)
   (h1 : w2.os = w'.os) (h2 : w2.tape = w'.tape) (h3 : w2.output = w'.output) : Step ρ h w ρ' h' w2 :=
 ⟨s.sub, s.nx, by rw [hsz]; exact s.size, h1.trans s.os, h2.trans s.tape, h3.trans s.output, fun r hr hl => (hh r hr).trans (s.frame r hr hl), s.live, s.gone⟩
def FnEnds (P : Program) (B : Nat) (G : Base) (ρ : Ctx) (h : H) (w : World) (f : FuncId) (args : Array Value) (v : Value) (h' : H) : Prop :=
 ∀ cs, ∃ v' w' ρ' fr, VRel ρ' v v' ∧ Rep B G ρ' h' w' ∧ Step ρ h w ρ' h' w' ∧ Steps P (lone (Frame.enter P f args .normal) cs w) (lone fr cs w') ∧ fr.fn = f ∧ fr.leaving P w' (.returned v')
theorem fn_sound {rec : Ev} {f : FuncId} {fn : Func} {c : Code} (hf : P.funcs[f]? = some fn) (hbody : fn.body = some c) (hcode : CodeSound P B G (evC P G rec) one' c)
   {ρ : Ctx} {h h' : H} {w : World} {args args' : List Value} (R : Rep B G ρ h w) (A : LRel ρ args args') {x : X} {e : Env} {l : List Value}
   (hb : evC P G rec none c (Env.start fn.ntmps args) h = some (x, e, h')) (hx : x = .norm ∨ x = .ret) (hl : aresults P G e h' fn.results.toList = some l) :
   FnEnds P B G ρ h w f args'.toArray (packed l) h' := by
 intro cs
 let b : Frame := { (default : Frame) with fn := f, kind := .normal, roundOf := none }
 have henter : Frame.enter P f args'.toArray .normal =
     b.atR { tmps := args'.toArray ++ Array.replicate (fn.ntmps - args'.toArray.size) undef, defers := [] } [.code c] := by
   simp [Frame.enter, Frame.atR, hf, hbody, b]
 obtain ⟨ρ1, w1, a1, g1, g2, g3, g4, g5⟩ := hcode none _ _ _ _ _ hb ρ w w.heap.size b { tmps := args'.toArray ++ Array.replicate (fn.ntmps - args'.toArray.size) undef, defers := [] } (.inl ⟨rfl, rfl⟩) R (start_rel A fn.ntmps) (.nil _ _ _ _) (Nat.le_refl _) [] cs
 rw [henter]
 obtain ⟨rs, m1, m2, m3⟩ := g4
 have fin : ∃ todo, Steps P (lone (b.atR { tmps := args'.toArray ++ Array.replicate (fn.ntmps - args'.toArray.size) undef, defers := [] } [.code c]) cs w) (lone { b.atR a1 todo with mode := .returning } cs w1) := by
   rcases hx with rfl | rfl
   · exact ⟨[], Steps.trans g5 (.one (stepR_end rfl))⟩
   · obtain ⟨k1, g5⟩ := g5
     exact ⟨.code .ret :: k1, Steps.trans g5 (.one (stepR_ret rfl))⟩
 obtain ⟨todo, fin⟩ := fin
 obtain ⟨w2, q1, q2, q3, q4, q5, q6, q7⟩ := unmark (P := P) (cs := cs) R.base.size rs w1 { b.atR a1 todo with mode := .returning } m2 m3 rfl m1 g1
 obtain ⟨v', r1, r2⟩ := results_sound q1 g3 hl
 exact ⟨v', w2, ρ1, _, r2, q1, g2.after q2 q3 q4 q5 q6, fin.trans q7, rfl, rfl, rfl, rfl, fn, hf, r1⟩
def ExtSound (P : Program) (B : Nat) (G : Base) (E : Ext) : Prop :=
 ∀ f x, E f = some x → ∀ args h v h', x args h = some (v, h') → ∀ ρ w args', Rep B G ρ h w → LRel ρ args args' → ∀ c cs, Ends P B G ρ h w c cs (callFunc f args'.toArray) v h'
def NoCount (P : Program) : Prop := ∀ (f : FuncId) (fn : Func), P.funcs[f]? = some fn → fn.body.isSome = true → (fn.name == "runtime.NumGoroutine") = false
theorem callFunc_run (hng : NoCount P) {f : FuncId} {fn : Func} {c : Code} (hf : P.funcs[f]? = some fn) (hbody : fn.body = some c) (args : Array Value) (w : World) :
   (callFunc f args).run P w = .ok (.enter f args) w := by
 have h1 := hng f fn hf (by rw [hbody]; rfl)
 have h2 : ¬ fn.name = "runtime.NumGoroutine" := by simpa using h1
 simp [callFunc, Sem.run_bind, hf, h2, hbody]
theorem fn_ends (hng : NoCount P) {f : FuncId} {fn : Func} {c0 : Code} (hf : P.funcs[f]? = some fn) (hbody : fn.body = some c0) {ρ : Ctx} {h h' : H} {w : World} {args : Array Value} {v : Value}
   (he : FnEnds P B G ρ h w f args v h') (c : Frame) (cs : List Frame) : Ends P B G ρ h w c cs (callFunc f args) v h' := by
 obtain ⟨v', w', ρ', fr, g1, g2, g3, g4, g5, g6⟩ := he (c :: cs)
 exact ⟨v', w', ρ', g1, g2, g3, _, _, callFunc_run hng hf hbody args w, g4.trans (.one (step_leave_returned g6))⟩
theorem putAll_rel {ρ : Ctx} : ∀ (ts : List Tmp) (vs vs' : List Value) (e e' : Env) (tmps : Array Value), putAll e ts vs = some e' → ERel ρ e tmps → LRel ρ vs vs' →
   ERel ρ e' ((ts.zip vs').foldl (fun tmps (p : Tmp × Value) => tmps.setIfInBounds p.1 p.2) tmps) ∧ ts.length = vs'.length
 | [], [], vs', e, e', tmps, h, E, L => by
   simp only [putAll] at h; cases h
   have : vs' = [] := List.length_eq_zero_iff.1 (by rw [← L.1]; rfl)
   subst this
   exact ⟨E, rfl⟩
 | t :: ts, v :: vs, vs', e, e', tmps, h, E, L => by
   simp only [putAll] at h
   split at h
   · rename_i e1 he1
     match vs', L with
     | [], L => exact absurd L.1 (by simp)
     | v' :: vs', L =>
       have hv : VRel ρ v v' := L.2 0 _ _ rfl rfl
       have L' : LRel ρ vs vs' := ⟨by simpa using L.1, fun j u u' x y => L.2 (j + 1) u u' (by simpa using x) (by simpa using y)⟩
       obtain ⟨q1, q2⟩ := putAll_rel ts vs vs' e1 e' (tmps.setIfInBounds t v') h (E.put he1 hv) L'
       exact ⟨q1, by simp [q2]⟩
   · cases h
 | [], _ :: _, _, _, _, _, h, _, _ => by simp [putAll] at h
 | _ :: _, [], _, _, _, _, h, _, _ => by simp [putAll] at h
theorem zip_fold (ps : Array Tmp) (vs : List Value) (tmps : Array Value) :
   (ps.zip vs.toArray).foldl (fun tmps (t, a) => tmps.setIfInBounds t a) tmps = (ps.toList.zip vs).foldl (fun tmps (p : Tmp × Value) => tmps.setIfInBounds p.1 p.2) tmps := by
 obtain ⟨ps⟩ := ps
 simp
theorem Rep.put {ρ : Ctx} {h : H} {w : World} (R : Rep B G ρ h w) {n : Nat} {i : Info} {o o2 : AObj} {o2' : Obj} (hn : h.get n = some o) (hi : ρ n = some i)
   (ho : ORel ρ i o2 o2') : Rep B G ρ (h.set n o2) (w.putObj i.blk o2') ∧ Step ρ h w ρ (h.set n o2) (w.putObj i.blk o2') := by
 obtain ⟨j, o', g1, g2, g3, g4⟩ := R.own n o hn
 rw [hi] at g1; cases g1
 exact R.update hn hi ho (World.putObj_heap_same (Array.getElem?_eq_some_iff.1 g3).1) (fun r hr => World.putObj_heap_other hr) (by simp) rfl rfl rfl
theorem Rep.loopAt {ρ : Ctx} {h : H} {w : World} (R : Rep B G ρ h w) {n : Nat} {i : Info} (hi : ρ n = some i) {st : LoopState} {pend : Option Code} {env : Env} {ps : Array Tmp} {asg body : Code}
   (hn : h.get n = some (.loop st pend env ps asg body)) :
   ∃ fn tmps d, w.heap[i.blk]? = some (.loop { state := st, pending := pend, fn := fn, tmps := tmps, params := ps, assign := asg, body := body, defers := d }) ∧ ERel ρ env tmps := by
 obtain ⟨j, o', g1, g2, g3, g4⟩ := R.own n _ hn
 rw [hi] at g1; cases g1
 cases g4 with
 | loop _ _ _ _ _ _ fn tmps d h1 h2 => exact ⟨fn, tmps, d, g3, h1, h2⟩
theorem loop_orel {ρ : Ctx} {i : Info} {env : Env} {tmps : Array Value} (E : ERel ρ env tmps) (st : LoopState) (pend : Option Code) (ps : Array Tmp) (asg body : Code) (fn : FuncId) (d : Nat) :
   ORel ρ i (.loop st pend env ps asg body) (.loop { state := st, pending := pend, fn := fn, tmps := tmps, params := ps, assign := asg, body := body, defers := d }) := .loop st pend env ps asg body fn tmps d E.1 E.2
theorem round_sound {rec : Ev} (hcode : ∀ c, CodeSound P B G (evC P G rec) one' c) {n : Nat} {i : Info} {args args' : List Value} {h h' : H} {v : Value} (hb : evRound P G rec n args h = some (v, h'))
   {ρ : Ctx} {w : World} (R : Rep B G ρ h w) (hi : ρ n = some i) (A : LRel ρ args args') (c : Frame) (cs : List Frame) : Ends P B G ρ h w c cs (Instr.yield i.blk args'.toArray) v h' := by
 unfold evRound at hb
 split at hb
 case h_2 => cases hb
 rename_i st pend env ps asg body hn
 obtain ⟨fn, tmps, d, hl, E0⟩ := R.loopAt hi hn
 split at hb
 · cases hb
 rename_i e1 he1
 obtain ⟨E1, hlen⟩ := putAll_rel _ _ _ _ _ tmps he1 E0 A
 have hyield := run_yield (P := P) (args := args'.toArray) hl (by simp [← hlen])
 simp only [zip_fold] at hyield
 generalize htm : (ps.toList.zip args').foldl (fun tmps (p : Tmp × Value) => tmps.setIfInBounds p.1 p.2) tmps = tm at E1 hyield
 let b : Frame := { (default : Frame) with fn := fn, kind := .normal, roundOf := some i.blk }
 have hb0 : Frame.round i.blk fn tm asg body .normal = b.atR { tmps := tm, defers := [] } [.code asg, .beginRound, .code body] := by
   simp [Frame.round, Frame.atR, b]
 have hnx := R.fresh n i hi
 split at hb
 case h_2 => cases hb
 rename_i e2 h2 hasg
 obtain ⟨ρ1, w1, a1, g1, g2, g3, g4, g5⟩ := hcode asg (some n) e1 h _ e2 h2 hasg ρ w 0 b { tmps := tm, defers := [] } (.inr ⟨n, i, rfl, hi, rfl⟩) R E1 (.nil _ _ _ _) (Nat.zero_le _) [.beginRound, .code body] (c :: cs)
 have hi1 : ρ1 n = some i := by rw [g2.sub n hnx]; exact hi
 split at hb
 case h_2 => cases hb
 rename_i pd env2 ps2 asg2 body2 hn2
 obtain ⟨fn2, tmps2, d2, hl2, E2⟩ := g1.loopAt hi1 hn2
 have s1 := stepR_beginRound (P := P) (b := b) (a := a1) (k := [.code body]) (cs := c :: cs) rfl (run_beginRound (P := P) hl2 rfl)
 obtain ⟨R2, S2⟩ := g1.put hn2 hi1 (loop_orel E2 .busy pd ps2 asg2 body2 fn2 d2)
 split at hb
 case h_2 => cases hb
 rename_i x e3 h3 hbody
 obtain ⟨ρ3, w3, a3, q1, q2, q3, q4, q5⟩ := hcode body (some n) e2 _ _ e3 h3 hbody ρ1 _ 0 b a1 (.inr ⟨n, i, rfl, hi1, rfl⟩) R2 g3 (g4.step S2) (Nat.zero_le _) [] (c :: cs)
 have hi3 : ρ3 n = some i := by rw [q2.sub n (Nat.lt_of_lt_of_le hnx g2.nx)]; exact hi1
 split at hb
 case h_2 => cases hb
 rename_i st3 pd3 env3 ps3 asg3 body3 hn3
 obtain ⟨fn3, tmps3, d3, hl3, E3⟩ := q1.loopAt hi3 hn3
 have pre : Steps P (lone (Frame.round i.blk fn tm asg body .normal) (c :: cs) w) (lone (b.atR a1 ([.code body] ++ [])) (c :: cs) (w1.putObj i.blk (.loop { state := .busy, pending := pd, fn := fn2, tmps := tmps2, params := ps2, assign := asg2, body := body2, defers := d2 }))) := by
   rw [hb0]; exact Steps.trans g5 (.one s1)
 have S13 := g2.trans (S2.trans q2)
 split at hb
 · cases hb
   obtain ⟨R4, S4⟩ := q1.put hn3 hi3 (loop_orel E3 .ready none ps3 asg3 body3 fn3 d3)
   refine ⟨.bool true, _, ρ3, .bool true, R4, S13.trans S4, _, w, hyield, pre.trans (Steps.trans q5 (.one ?_))⟩
   exact stepR_round_end rfl rfl (run_endRound none hl3)
 · rename_i id
   cases hb
   obtain ⟨R4, S4⟩ := q1.put hn3 hi3 (loop_orel E3 .done (some (.exit id)) ps3 asg3 body3 fn3 d3)
   obtain ⟨k1, hk, q5⟩ := q5
   refine ⟨.bool false, _, ρ3, .bool false, R4, S13.trans S4, _, w, hyield, pre.trans (Steps.trans q5 (.one ?_))⟩
   exact stepR_round_exit rfl rfl hk (run_endRound _ hl3)
 · cases hb
   obtain ⟨R4, S4⟩ := q1.put hn3 hi3 (loop_orel E3 .done (some .ret) ps3 asg3 body3 fn3 d3)
   obtain ⟨k1, q5⟩ := q5
   refine ⟨.bool false, _, ρ3, .bool false, R4, S13.trans S4, _, w, hyield, pre.trans (Steps.trans q5 (.one ?_))⟩
   exact stepR_round_ret rfl rfl (run_endRound _ hl3)
theorem evCall_sound {E : Ext} {rec : Ev} (hE : ExtSound P B G E) (hng : NoCount P) (hcode : ∀ c, CodeSound P B G (evC P G rec) one' c) {fv : Value} {args : List Value} {h h' : H} {v : Value}
   (hb : evCall P G E rec fv args h = some (v, h')) {ρ : Ctx} {w : World} {fv' : Value} {args' : List Value} (R : Rep B G ρ h w) (F : VRel ρ fv fv') (A : LRel ρ args args') (c : Frame) (cs : List Frame) :
   Ends P B G ρ h w c cs (do let d ← Deferred.ofValue fv' ⟨args'⟩; invoke d.target d.args) v h' := by
 unfold evCall at hb
 split at hb
 · rename_i f first cap
   obtain ⟨first⟩ := first
   obtain ⟨cap⟩ := cap
   cases F with
   | func _ f' _ a' _ c' hf ha hc h1 h2 =>
     cases hf with
     | same _ _ =>
     have A' : LRel ρ (first ++ args ++ cap) (a' ++ args' ++ c') := (LRel.append ⟨ha, h1⟩ A).append ⟨hc, h2⟩
     have key : Ends P B G ρ h w c cs (callFunc f (a' ++ args' ++ c').toArray) v h' := by
       split at hb
       · rename_i x hx
         exact hE f x hx _ _ _ _ hb ρ w _ R A' c cs
       · split at hb
         · cases hb
         · rename_i fn hfn
           split at hb
           · rename_i cd hcd
             split at hb
             · rename_i e h1 he
               split at hb
               · rename_i u hu
                 cases hb
                 exact fn_ends hng hfn hcd (fn_sound hfn hcd (hcode cd) R A' he (.inl rfl) hu) c cs
               · rename_i l hl hu
                 cases hb
                 have := fn_ends hng hfn hcd (fn_sound hfn hcd (hcode cd) R A' he (.inl rfl) hu) c cs
                 have hp : packed l = .tuple ⟨l⟩ := by
                   unfold packed; split
                   · exact absurd rfl (hl _)
                   · rfl
                 rwa [hp] at this
               · cases hb
             · rename_i e h1 he
               split at hb
               · rename_i u hu
                 cases hb
                 exact fn_ends hng hfn hcd (fn_sound hfn hcd (hcode cd) R A' he (.inr rfl) hu) c cs
               · rename_i l hl hu
                 cases hb
                 have := fn_ends hng hfn hcd (fn_sound hfn hcd (hcode cd) R A' he (.inr rfl) hu) c cs
                 have hp : packed l = .tuple ⟨l⟩ := by
                   unfold packed; split
                   · exact absurd rfl (hl _)
                   · rfl
                 rwa [hp] at this
               · cases hb
             · cases hb
           · cases hb
     refine key.of_eq ?_
     simp [Deferred.ofValue, invoke]
 · rename_i n
   cases F with
   | func _ f' _ a' _ c' hf ha hc h1 h2 =>
     cases hf with
     | same _ hh => exact absurd rfl (hh _)
     | yield m i hi =>
       have : a' = [] := List.length_eq_zero_iff.1 ha.symm
       subst this
       refine (round_sound hcode hb R hi A c cs).of_eq ?_
       simp [Deferred.ofValue, invoke]
 · cases hb
theorem rangeFunc_does {b : Frame} {a : Act} {k : List Item} {cs : List Frame} {w w1 w' : World} {g : Operand} {ps : Array Tmp} {asg body : Code} {l : Nat} {mk : List Deferred} {v' : Value}
   (he : (Instr.enterLoop b.fn a.tmps ps asg body b.roundOf).run P w = .ok (l, mk) w1)
   (h : Does P (b.atR { a with defers := mk ++ a.defers } (.inRangeFunc l :: k)) cs (do let d ← Deferred.ofValue (a.eval g) #[.func (.yield l) #[] #[]]; invoke d.target d.args) w1 v' w') :
   Steps P (lone (b.atR a (.code (.rangeFunc g ps asg body) :: k)) cs w) (lone (b.atR { a with defers := mk ++ a.defers } (.endRangeFunc l :: k)) cs w') := by
 obtain ⟨nx, w2, hr, hm⟩ := h
 have hev := Frame.eval_atR b { a with defers := mk ++ a.defers } (.inRangeFunc l :: k)
 simp only [Frame.atR] at hev
 have hres : (resolve ({ tmps := a.tmps, defers := mk ++ a.defers } : Act).eval { callee := .value g, args := #[.const (.func (.yield l) #[] #[])], argTypes := #[] } 0) = Deferred.ofValue (a.eval g) #[.func (.yield l) #[] #[]] := by
   cases g <;> simp [resolve, Act.eval]
 have hfin := finish_atR_inRangeFunc (b := b) (a := { a with defers := mk ++ a.defers }) (k := k) l
 cases nx with
 | value u =>
   obtain ⟨rfl, rfl⟩ := hm
   refine .one (step_lone_go ?_)
   rw [← hfin u]
   simp [stepG, stepG.exec, Frame.atR, Sem.runT_eq, he, GStep.bare_after, stepG.apply, hev, hres, hr]
 | skip =>
   obtain ⟨rfl, rfl⟩ := hm
   refine .one (step_lone_go ?_)
   rw [← hfin undef]
   simp [stepG, stepG.exec, Frame.atR, Sem.runT_eq, he, GStep.bare_after, stepG.apply, hev, hres, hr]
 | enter f args =>
   refine .head (m₁ := lone (Frame.enter P f args .normal) (b.atR { a with defers := mk ++ a.defers } (.inRangeFunc l :: k) :: cs) w2) (step_lone_go ?_) ?_
   · simp [stepG, stepG.exec, Frame.atR, Sem.runT_eq, he, GStep.bare_after, stepG.apply, hev, hres, hr]
   · rw [← hfin v']; exact hm
 | round l' f tmps asg' body' =>
   refine .head (m₁ := lone (Frame.round l' f tmps asg' body' .normal) (b.atR { a with defers := mk ++ a.defers } (.inRangeFunc l :: k) :: cs) w2) (step_lone_go ?_) ?_
   · simp [stepG, stepG.exec, Frame.atR, Sem.runT_eq, he, GStep.bare_after, stepG.apply, hev, hres, hr]
   · rw [← hfin v']; exact hm
 | _ => exact hm.elim
theorem live_lt {ρ : Ctx} {h : H} {w : World} (R : Rep B G ρ h w) {r : Nat} (hl : Live ρ h r) : r < w.heap.size := by
 obtain ⟨n, i, h1, h2, h3⟩ := hl
 obtain ⟨o, ho⟩ := Option.isSome_iff_exists.1 h1
 obtain ⟨j, o', g1, g2, g3, g4⟩ := R.own n o ho
 rw [h2] at g1; cases g1; subst h3
 exact (Array.getElem?_eq_some_iff.1 g3).1
theorem Rep.pushed {ρ : Ctx} {h : H} {w : World} (R : Rep B G ρ h w) (o : Obj) : Rep B G ρ h (w.alloc o) ∧ Step ρ h w ρ h (w.alloc o) := by
 have hold : ∀ r, r < w.heap.size → (w.alloc o).heap[r]? = w.heap[r]? := fun r hr => by
   show (w.heap.push o)[r]? = _
   rw [Array.getElem?_push, if_neg (by omega)]
 refine ⟨R.elsewhere (fun r hr _ => hold r hr) ?_, ⟨fun _ _ => rfl, Nat.le_refl _, ?_, rfl, rfl, rfl, fun r hr _ => hold r hr, fun _ _ h => h, fun _ _ h => h⟩⟩
 · show _ ≤ (w.heap.push o).size; simp
 · show _ ≤ (w.heap.push o).size; simp
theorem enter_sound {n0 : Nat} {ρ : Ctx} {h : H} {w : World} {ro : Option Nat} {e : Env} {a : Act} {b : Frame} (hchk : (match ro with
     | none => true
     | some l => match h.get l with | some (.loop ..) => true | _ => false) = true)
   (hro : RoOk ρ ro b.roundOf)
   (R : Rep B G ρ h w) (E : ERel ρ e a.tmps) (M : Marks n0 ρ h w a.defers) (hn : n0 ≤ w.heap.size) (ps : Array Tmp) (asg body : Code) :
   ∃ l mk w1 ρ1 i, (Instr.enterLoop b.fn a.tmps ps asg body b.roundOf).run P w = .ok (l, mk) w1 ∧ ρ1 h.nx = some i ∧ i.blk = l ∧
     Rep B G ρ1 (h.push (.loop .ready none e ps asg body)) w1 ∧ Step ρ h w ρ1 (h.push (.loop .ready none e ps asg body)) w1 ∧
     Marks n0 ρ1 (h.push (.loop .ready none e ps asg body)) w1 (mk ++ a.defers) := by
 have hsub : ∀ j : Info, Sub ρ (fun n => if n = h.nx then some j else ρ n) := fun j n k hk => by
   have := R.fresh n k hk
   exact (if_neg (by omega)).trans hk
 rcases hro with ⟨rfl, hro'⟩ | ⟨l0, i0, rfl, hi0, hro'⟩
 · rw [hro']
   obtain ⟨R1, S1⟩ := R.pushed (.deferred (some []))
   have hsz : (w.alloc (.deferred (some []))).heap.size = w.heap.size + 1 := by
     show (w.heap.push _).size = _; simp
   let i : Info := { blk := w.heap.size + 1, size := 0, es := 0, rsz := 0, soft := false }
   obtain ⟨R2, S2⟩ := R1.alloc i (.loop .ready none e ps asg body) (.loop { state := .ready, pending := none, fn := b.fn, tmps := a.tmps, params := ps, assign := asg, body := body, defers := w.heap.size }) hsz.symm
     (loop_orel (E.mono (hsub i)) .ready none ps asg body b.fn w.heap.size) (w1 := (w.alloc (.deferred (some []))).alloc (.loop { state := .ready, pending := none, fn := b.fn, tmps := a.tmps, params := ps, assign := asg, body := body, defers := w.heap.size })) rfl rfl rfl rfl
   have S := S1.trans S2
   refine ⟨_, _, _, _, i, run_enterLoop_outer b.fn a.tmps ps asg body, by simp, rfl, R2, S, ?_⟩
   obtain ⟨rs, h1, h2, h3⟩ := M.step S
   obtain ⟨rs', h1', h2', h3'⟩ := M
   have hrs : ∀ r ∈ rs', r < w.heap.size := fun r hr => (h3' r hr).2.1
   have heq : rs' = rs := by
     have hinj : ∀ x y : List Nat, x.map mark = y.map mark → x = y := by
       intro x
       induction x with
       | nil => intro y hy; cases y with
         | nil => rfl
         | cons _ _ => simp at hy
       | cons u x ih => intro y hy; cases y with
         | nil => simp at hy
         | cons v y =>
           simp only [List.map_cons, List.cons.injEq] at hy
           have : u = v := by
             have := hy.1
             simpa [mark] using this
           rw [this, ih y hy.2]
     exact hinj _ _ (h1'.symm.trans h1)
   subst heq
   refine ⟨w.heap.size :: rs', by simp [h1, mark], List.nodup_cons.2 ⟨fun hm => Nat.lt_irrefl _ (hrs _ hm), h2⟩, fun r hr => ?_⟩
   rcases List.mem_cons.1 hr with rfl | hr
   · refine ⟨hn, ?_, ?_, ?_⟩
     · have := S2.size; rw [hsz] at this; omega
     · have := S2.frame w.heap.size (by rw [hsz]; omega) (fun hl => Nat.lt_irrefl _ (live_lt R hl))
       rw [this]; exact World.alloc_heap_new _ _
     · rintro ⟨n, j, q1, q2, q3⟩
       rw [H.get_push] at q1
       by_cases hnx : n = h.nx
       · simp only [hnx, if_true] at q2; cases q2; simp [i] at q3
       · simp only [if_neg hnx] at q1 q2
         exact Nat.lt_irrefl _ (live_lt R ⟨n, j, q1, q2, q3⟩)
   · exact h3 r hr
 · rw [hro']
   simp only at hchk
   split at hchk
   · rename_i st pend env ps0 asg0 body0 hl0
     obtain ⟨fn0, tmps0, d0, hw0, E0⟩ := R.loopAt hi0 hl0
     let i : Info := { blk := w.heap.size, size := 0, es := 0, rsz := 0, soft := false }
     obtain ⟨R2, S2⟩ := R.alloc i (.loop .ready none e ps asg body) (.loop { state := .ready, pending := none, fn := b.fn, tmps := a.tmps, params := ps, assign := asg, body := body, defers := d0 }) rfl
       (loop_orel (E.mono (hsub i)) .ready none ps asg body b.fn d0) (w1 := w.alloc (.loop { state := .ready, pending := none, fn := b.fn, tmps := a.tmps, params := ps, assign := asg, body := body, defers := d0 })) rfl rfl rfl rfl
     refine ⟨w.heap.size, [], _, _, i, ?_, by simp, rfl, R2, S2, M.step S2⟩
     unfold Instr.enterLoop
     simp only [Sem.run_bind, run_getLoop hw0, run_newObj_alloc, Result.andThen, Sem.run_pure]
   · cases hchk
theorem range_sound {rec : Ev} (hc : CallSound P B G rec) : RangeSound P B G rec := by
 intro f ps asg body ro e h x e' h' hb ρ w n0 b a hro R E M hn k cs
 simp only [evC] at hb
 split at hb
 · cases hb
 rename_i hchk
 split at hb
 case h_2 => cases hb
 rename_i v h2 hcall
 obtain ⟨l, mk, w1, ρ1, i, he, hi, hil, R1, S1, M1⟩ := enter_sound (P := P) hchk hro R E M hn ps asg body
 subst hil
 have hf : VRel ρ1 (aeval e f) (a.eval f) := (E.eval f).mono (R.sub_of S1)
 have hy : LRel ρ1 [.func (.yield h.nx) #[] #[]] [.func (.yield i.blk) #[] #[]] := .cons (.func _ _ [] [] [] [] (.yield _ i hi) rfl rfl (by simp) (by simp)) .nil
 obtain ⟨v', w2, ρ2, g1, g2, g3, g4⟩ := hc _ _ _ _ _ hcall ρ1 w1 (a.eval f) _ R1 hf hy (b.atR { a with defers := mk ++ a.defers } (.inRangeFunc i.blk :: k)) cs
 have s1 := rangeFunc_does (ps := ps) (asg := asg) (body := body) he g4
 have hlt : h.nx < (h.push (.loop .ready none e ps asg body)).nx := by rw [H.nx_push]; omega
 have hi2 : ρ2 h.nx = some i := by rw [g3.sub _ hlt]; exact hi
 split at hb
 case h_2 => cases hb
 rename_i st pend env2 ps2 asg2 body2 hn2
 obtain ⟨fn2, tmps2, d2, hw2, E2⟩ := g2.loopAt hi2 hn2
 obtain ⟨R3, S3⟩ := g2.put hn2 hi2 (loop_orel E2 .exhausted pend ps2 asg2 body2 fn2 d2)
 obtain ⟨R4, S4⟩ := R3.killed h.nx
 have hkk : (h2.set h.nx (.loop .exhausted pend env2 ps2 asg2 body2)).kill h.nx = (h2.set h.nx (.loop .exhausted pend env2 ps2 asg2 body2)).kill h.nx := rfl
 have conv : Rep B G ρ2 (h2.kill h.nx) (w2.putObj i.blk (.loop { state := .exhausted, pending := pend, fn := fn2, tmps := tmps2, params := ps2, assign := asg2, body := body2, defers := d2 })) ∧
     Step ρ2 h2 w2 ρ2 (h2.kill h.nx) (w2.putObj i.blk (.loop { state := .exhausted, pending := pend, fn := fn2, tmps := tmps2, params := ps2, assign := asg2, body := body2, defers := d2 })) := by
   obtain ⟨Rk, Sk⟩ := g2.killed h.nx
   have hne : ¬ Live ρ2 (h2.kill h.nx) i.blk := by
     rintro ⟨m, j, q1, q2, q3⟩
     rw [H.get_kill] at q1
     by_cases hm : m = h.nx
     · rw [if_pos hm] at q1; cases q1
     · rw [if_neg hm] at q1
       exact hm (g2.inj m h.nx j i q2 hi2 q1 (by rw [hn2]; rfl) q3)
   have hBi : B ≤ i.blk := by
     obtain ⟨j, o', q1, q2, _⟩ := g2.own _ _ hn2
     rw [hi2] at q1; cases q1; exact q2
   refine ⟨Rk.elsewhere (fun r _ hr => World.putObj_heap_other ?_) (by simp), ?_⟩
   · rintro rfl
     rcases hr with hr | hr
     · omega
     · exact hne hr
   · refine ⟨fun _ _ => rfl, Nat.le_refl _, by simp, rfl, rfl, rfl, fun r hr hl => World.putObj_heap_other ?_, Sk.live, Sk.gone⟩
     rintro rfl
     exact hl ⟨h.nx, i, by rw [hn2]; rfl, hi2, rfl⟩
 have S := S1.trans (g3.trans conv.2)
 have M2 : Marks n0 ρ2 (h2.kill h.nx) _ (mk ++ a.defers) := (M1.step g3).step conv.2
 have E' : ERel ρ2 e a.tmps := E.mono (fun n j hj => by rw [(S1.trans g3).sub n (R.fresh n j hj)]; exact hj)
 have fin : st ≠ .busy → Steps P (lone (b.atR a (.code (.rangeFunc f ps asg body) :: k)) cs w) (lone (b.atR { a with defers := mk ++ a.defers } ((pend.map Item.code).toList ++ k)) cs (w2.putObj i.blk (.loop { state := .exhausted, pending := pend, fn := fn2, tmps := tmps2, params := ps2, assign := asg2, body := body2, defers := d2 }))) := fun hst =>
   s1.trans (.one (stepR_endRangeFunc (run_endLoop hw2 hst)))
 cases st with
 | busy => simp at hb
 | _ =>
   simp only at hb
   have fin := fin (by simp)
   split at hb
   · cases hb
     exact ⟨ρ2, _, { a with defers := mk ++ a.defers }, conv.1, S, E', M2, fin⟩
   · cases hb
     exact ⟨ρ2, _, { a with defers := mk ++ a.defers }, conv.1, S, E', M2, k, rfl, fin⟩
   · cases hb
     exact ⟨ρ2, _, { a with defers := mk ++ a.defers }, conv.1, S, E', M2, k, fin⟩
   · cases hb
theorem ev_sound0 {E : Ext} (hE : ExtSound P B G E) (hng : NoCount P) (hd : ∀ rec, CallSound P B G rec → DrawSound P B G rec) : ∀ n, CallSound P B G (ev P G E n) ∧ LoopSound P B G (ev P G E n)
 | 0 => ⟨fun fv args h v h' hb => by simp [ev] at hb, fun c ro e h x e' h' hb => by simp [ev] at hb⟩
 | n + 1 => by
   obtain ⟨hc, hl⟩ := ev_sound0 hE hng hd n
   have hcode := evC_sound hc hl (hd _ hc) (range_sound hc)
   refine ⟨fun fv args h v h' hb ρ w fv' args' R F A c cs => evCall_sound hE hng hcode hb R F A c cs, fun c => ?_⟩
   exact loop_sound hl (hcode c)
end Go.Ab
