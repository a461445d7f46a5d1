/- The logic: regions that draw their order, memory, equality, slices. -/
import Derived.Test.YtlioomhcdlicmaaGreatDoorK1
import Derived.Test.YtlioomhcdlicmaaGreatDoorA5
set_option linter.all false
/- The logic's regions that draw their order. -/
namespace Go.Ab
open Go
def Op1q (M : Mc) (op : Op) (l : KL) (h : H) (v : Value) : Prop := ∀ e, Sees op l e → ∃ h', aop M.P M.G op e h = some (v, h')
theorem ar_ {M : Mc} {op : Op} {l : KL} {h h' : H} {v : Value} (hc : cls M.P op = .q) (o : Op1 M op l h v h') : Op1q M op l h v := by
 intro e he
 obtain ⟨n, q⟩ := o e he
 have := q n (Nat.le_refl _) ⟨none, op, 0, "", #[], none⟩ rfl
 refine ⟨h', ?_⟩
 unfold evOp at this
 simp only at this
 split at this
 · rename_i c
   split at this
   · rename_i f hf
     obtain ⟨cl, ar, ty⟩ := c
     simp only at hf
     subst hf
     simp [cls] at hc
   · rename_i b hb; exact this
   · cases this
 · exact this
def noHeap : Op → Bool
 | .move _ | .assign _ | .pick .. | .build .. | .nilCheck _ | .binOp .. | .unOp .. | .makeInterface .. | .makeFunc .. | .fieldAddr .. | .field .. | .indexAddr .. | .index .. | .extract .. => true
 | .call c => match c.callee with
   | .builtin .len | .builtin .min | .builtin .max | .builtin .real | .builtin .imag | .builtin .complex => true
   | _ => false
 | _ => false
theorem noHeap_aop {P : Program} {G : Base} {o : Op} {e : Env} {h1 h2 : H} {v : Value} (hn : noHeap o = true) (hb : aop P G o e h1 = some (v, h2)) (g : H) : ∃ g', aop P G o e g = some (v, g') := by
 refine ⟨g, ?_⟩
 cases o <;> first | (simp [noHeap] at hn; done) | skip
 case call c =>
   obtain ⟨cl, ar, ty⟩ := c
   cases cl <;> simp only [noHeap] at hn
   · cases hn
   · cases hn
   · rename_i b
     cases b <;> first | (simp at hn; done) | skip
     all_goals
       simp only [aop] at hb ⊢
       repeat' (split at hb)
       all_goals first | (cases hb; done) | skip
       all_goals simp_all
 all_goals
   simp only [aop] at hb ⊢
   first
     | (cases hb; rfl)
     | (repeat' (split at hb)
        all_goals first | (cases hb; done) | skip
        all_goals simp_all)
def vdep : Nat → Value → Bool
 | 0, _ => false
 | _ + 1, .bool _ | _ + 1, .int _ _ | _ + 1, .float _ _ | _ + 1, .complex _ _ _ | _ + 1, .string _ | _ + 1, .pointer _ | _ + 1, .slice _ _ _ | _ + 1, .map _ | _ + 1, .nilFunc | _ + 1, .nilIface | _ + 1, .chan none => true
 | n + 1, .iface _ v => vdep n v
 | n + 1, .agg ⟨a⟩ => a.all (vdep n)
 | n + 1, .tuple ⟨a :: as⟩ => vdep n a && as.all (vdep n)
 | n + 1, .func _ ⟨a⟩ ⟨c⟩ => a.all (vdep n) && c.all (vdep n)
 | _, _ => false
theorem vdep_zip {n : Nat} (ih : ∀ v, vdep n v = true → veq n v v = true) : ∀ l : List Value, l.all (vdep n) = true → ((l.zip l).all fun p => veq n p.1 p.2) = true
 | [], _ => rfl
 | v :: l, h => by
   simp only [List.all_cons, Bool.and_eq_true] at h
   simp only [List.zip_cons_cons, List.all_cons, Bool.and_eq_true]
   exact ⟨ih v h.1, vdep_zip ih l h.2⟩
theorem bC_ (n : Nat) : Nat.beq n n = true := Nat.beq_refl n
theorem vdep_veq : ∀ (n : Nat) (v : Value), vdep n v = true → veq n v v = true
 | 0, _, h => by simp [vdep] at h
 | n + 1, v, h => by
   have ih := vdep_veq n
   cases v with
   | iface t v => simp only [vdep] at h; simp only [veq, bC_, ih v h, Bool.and_self]
   | agg a =>
     obtain ⟨a⟩ := a
     simp only [vdep] at h
     simp only [veq, bC_, Bool.true_and]
     exact vdep_zip ih a h
   | tuple a =>
     obtain ⟨a⟩ := a
     cases a with
     | nil => simp [vdep] at h
     | cons a as =>
       simp only [vdep, Bool.and_eq_true] at h
       simp only [veq, bC_, Bool.true_and, Bool.and_eq_true]
       exact ⟨ih a h.1, vdep_zip ih as h.2⟩
   | func f a c =>
     obtain ⟨a⟩ := a
     obtain ⟨c⟩ := c
     simp only [vdep, Bool.and_eq_true] at h
     simp only [veq, bC_, decide_true, Bool.true_and, Bool.and_eq_true]
     exact ⟨vdep_zip ih a h.1, vdep_zip ih c h.2⟩
   | chan r =>
     cases r with
     | none => rfl
     | some r => simp [vdep] at h
   | _ => simp [veq, beq_dec]
structure TR where
 r : DRes
 l : KL
structure OB where
 op : Op
 l : KL
 v : Value
 m : Nat
 i : Nat
def skp (s : Stage) (m i : Nat) : Bool := s.abs.testBit i || (match s.nxt with | none => false | some x => m.testBit x)
def OblS (M : Mc) (nx0 : Nat) (as : List (Nat × AObj)) (op : Op) (l : KL) (v : Value) (m i : Nat) (st : List Stage) : Prop :=
 ∀ s ∈ st, skp s m i = true ∨ Op1q M op l (addAs nx0 (unseen m s.abs) as s.g) v
def OblL (M : Mc) (nx0 : Nat) (as : List (Nat × AObj)) (st : List Stage) (obs : List OB) : Prop :=
 ∀ b ∈ obs, OblS M nx0 as b.op b.l b.v b.m b.i st
def ConsT (M : Mc) (nx0 : Nat) (as : List (Nat × AObj)) (st : List Stage) (sz : Nat) : List (Oper × Nat) → List TR → Nat → Env → Prop
 | (o, m) :: oms, t :: ts, i, e => Has sz t.l e ∧ (match t.r.k with
     | .q => vdep 6 t.r.v = true ∧ ((noHeap o.op = true ∧ ∃ h, Op1q M o.op t.l h t.r.v) ∨ OblS M nx0 as o.op t.l t.r.v m i st)
     | _ => True) ∧ ∃ e', e.putO t.r.d t.r.v = some e' ∧ ConsT M nx0 as st sz oms ts (i + 1) e'
 | [], [], _, _ => True
 | _, _, _, _ => False
theorem cp_ {sz : Nat} {l : KL} {e : Env} (hs : Has sz l e) (ops : Array Oper) (o : Oper) : Sees o.op l (restrict e (o.looksAt ops)) := by
 intro t ht v h
 rw [restrict_get, if_pos]
 · exact hs.get t v h
 · unfold Oper.looksAt
   refine List.mem_append_left _ (List.mem_filterMap.2 ⟨.tmp t, ht, rfl⟩)
theorem oblS_ok {M : Mc} {nx0 : Nat} {as : List (Nat × AObj)} {o : Oper} {ops : Array Oper} {l : KL} {v : Value} {m i sz : Nat} {e : Env} (he : Has sz l e) (hv : veq 6 v v = true) : ∀ st, OblS M nx0 as o.op l v m i st → dCheckAt M.P M.G nx0 as o.op m i (restrict e (o.looksAt ops)) v st = true
 | [], _ => rfl
 | s :: ss, h => by
   have h1 := h s List.mem_cons_self
   have ih := oblS_ok (ops := ops) he hv ss fun s hs => h s (List.mem_cons_of_mem _ hs)
   simp only [dCheckAt, Bool.and_eq_true]
   refine ⟨?_, ih⟩
   rcases h1 with h1 | h1
   · unfold skp at h1
     cases hn : s.nxt <;> simp only [hn] at h1 ⊢ <;> rw [h1]
   · obtain ⟨h', q⟩ := h1 _ (cp_ he ops o)
     rw [q]
     split
     · rfl
     · exact hv
theorem dCheckAt_noHeap {P : Program} {G : Base} {nx0 : Nat} {as : List (Nat × AObj)} {o : Op} {v : Value} {m i : Nat} {e : Env} (hn : noHeap o = true) {h h' : H} (hb : aop P G o e h = some (v, h')) (hv : veq 6 v v = true) : ∀ st, dCheckAt P G nx0 as o m i e v st = true
 | [] => rfl
 | s :: ss => by
   simp only [dCheckAt, Bool.and_eq_true]
   refine ⟨?_, dCheckAt_noHeap hn hb hv ss⟩
   obtain ⟨g', q⟩ := noHeap_aop hn hb (addAs nx0 (unseen m s.abs) as s.g)
   rw [q]
   split
   · rfl
   · exact hv
theorem cons_ok {M : Mc} {nx0 : Nat} {as : List (Nat × AObj)} {st : List Stage} {ops : Array Oper} {sz : Nat} : ∀ (oms : List (Oper × Nat)) (ts : List TR) (i : Nat) (e : Env), ConsT M nx0 as st sz oms ts i e → dCheck M.P M.G ops nx0 as st oms (ts.map (·.r)) i e = true
 | [], [], _, _, _ => rfl
 | (o, m) :: oms, t :: ts, i, e, hc => by
   simp only [ConsT] at hc
   obtain ⟨h1, ho, e', h2, h3⟩ := hc
   have ih := cons_ok (ops := ops) oms ts (i + 1) e' h3
   simp only [List.map_cons, dCheck, h2, ih, Bool.and_true]
   split
   · rename_i hk
     rw [hk] at ho
     simp only at ho
     have hv := vdep_veq 6 _ ho.1
     rcases ho.2 with ⟨hn, h0, hq⟩ | ho1
     · obtain ⟨h', q⟩ := hq _ (cp_ h1 ops o)
       exact dCheckAt_noHeap hn q hv st
     · exact oblS_ok h1 hv st ho1
   · rfl
 | [], _ :: _, _, _, h => by simp [ConsT] at h
 | _ :: _, [], _, _, h => by simp [ConsT] at h
def Fin' (M : Mc) (nx0 : Nat) (R : KL → H → Prop) (obs : List OB) (st : List Stage) (as : List (Nat × AObj)) (gf : H) (absf : Nat) (l : KL) : Prop :=
 OblL M nx0 as st obs ∧ stOk nx0 as st = true ∧ R l (addAs nx0 (fun j => !absf.testBit j) as gf)
def WD (M : Mc) (ops : Array Oper) (nx0 sz : Nat) (R : KL → H → Prop) (rem : List (Oper × Nat)) (i : Nat) (l : KL) (g : H) (abs : Nat) (es : List Nat) (as : List (Nat × AObj)) (sts : List Stage) (obs : List OB) : Prop :=
 ∀ e, Has sz l e → ∃ (ts : List TR) (bs : List OB) (st2 : List Stage) (as2 : List (Nat × AObj)) (gf : H) (absf : Nat), (From M fun r => dPass M.P M.G r ops nx0 rem i e g abs es as = some (ts.map (·.r))) ∧
   (∀ As St, OblL M nx0 As St bs → ConsT M nx0 As St sz rem ts i e) ∧ stagesOf rem (ts.map (·.r)) i g abs = st2 ∧ asOf (ts.map (·.r)) i = as2 ∧ stg (fun _ => true) rem (ts.map (·.r)) i g abs = (gf, absf) ∧
   ∃ e' l', putsOf (ts.map (·.r)) e = some e' ∧ Has sz l' e' ∧ Fin' M nx0 R (obs.reverse ++ bs) (sts.reverse ++ st2) (as ++ as2) gf absf l'
theorem wc_draw0 {M : Mc} {ro : Option Nat} {id sz : Nat} {ops : Array Oper} {l : KL} {h : H} {Q : X → KL → H → Prop} (ms : List Nat) (hm : masksFrom ops.toList [] = some ms) (ht : tmpsOk ops (ops.toList.zip ms) = true)
   {k : Nat} (hk : ops.toList.length = k)
   (w : WD M ops h.nx sz (Q .norm) (ops.toList.zip ms) 0 l { tr := h.tr, nx := h.nx + k } 0 [] [] [] []) : Wc M ro (.region id ops true) sz l h Q := by
 subst hk
 intro e he
 obtain ⟨ts, bs, st2, as2, gf, absf, q1, q2, q3, q4, q5, e', l', q6, q7, f1, f2, f3⟩ := w e he
 simp only [List.reverse_nil, List.nil_append] at f1 f2 f3
 refine ⟨.norm, e', _, l', q1.mono fun r a => ?_, q7, f3⟩
 have hd := cons_ok (ops := ops) _ _ 0 e (q2 _ _ f1)
 simp only [evC, evDraw, hm, ht, a, q3, q4, q5, q6, hd, f2, Bool.and_self]
section
variable {M : Mc} {ops : Array Oper} {rest : List (Oper × Nat)} {nx0 sz i m abs : Nat} {g g1 : H} {R : KL → H → Prop} {l : KL} {es : List Nat} {as : List (Nat × AObj)} {sts : List Stage} {obs : List OB} {o : Oper} {v : Value} {d : Nat}
theorem wd_nil (ho : OblL M nx0 as (⟨g, abs, none⟩ :: sts) obs) (hs : stOk nx0 as (⟨g, abs, none⟩ :: sts) = true) {hf : H} (hh : addAs nx0 (fun j => !abs.testBit j) as g = hf) (hr : R l hf) : WD M ops nx0 sz R [] i l g abs es as sts obs := by
 intro e he
 refine ⟨[], [], [⟨g, abs, none⟩], [], g, abs, .of fun _ => rfl, fun _ _ _ => trivial, rfl, rfl, rfl, e, l, rfl, he, ?_, ?_, ?_⟩
 · simp only [List.append_nil]
   intro b hb s hs
   exact ho b (by simpa using hb) s (by
     simp only [List.mem_append, List.mem_reverse, List.mem_singleton] at hs
     rcases hs with hs | hs
     · exact List.mem_cons_of_mem _ hs
     · rw [hs]; exact List.mem_cons_self)
 · simp only [List.append_nil]
   unfold stOk at hs ⊢
   simp only [List.all_cons, Bool.and_eq_true] at hs
   simp only [List.all_append, List.all_reverse, List.all_cons, List.all_nil, Bool.and_true, Bool.and_eq_true]
   exact ⟨hs.2, hs.1⟩
 · simp only [List.append_nil, hh]; exact hr
theorem aP_ {st : List Stage} : OblL M nx0 as st [] := fun _ h => by cases h
theorem aJ_ {st : List Stage} {op : Op} {bl : KL} {bv : Value} {bm bi : Nat} (h : OblS M nx0 as op bl bv bm bi st) (hr : OblL M nx0 as st obs) : OblL M nx0 as st (⟨op, bl, bv, bm, bi⟩ :: obs) := fun c hc => by
 rcases List.mem_cons.1 hc with rfl | hc
 · exact h
 · exact hr c hc
theorem aS_ {op : Op} : OblS M nx0 as op l v m i [] := fun _ h => by cases h
def skp' (abs : Nat) (nxt : Option Nat) (m i : Nat) : Bool := abs.testBit i || (match nxt with | none => false | some x => m.testBit x)
theorem aQ_ {op : Op} {sg : H} {sa : Nat} {sn : Option Nat} {st : List Stage} (h : skp' sa sn m i = true) (hr : OblS M nx0 as op l v m i st) : OblS M nx0 as op l v m i (⟨sg, sa, sn⟩ :: st) := fun c hc => by
 rcases List.mem_cons.1 hc with rfl | hc
 · exact .inl h
 · exact hr c hc
theorem obs_chk {op : Op} {sg : H} {sa : Nat} {sn : Option Nat} {st : List Stage} {h' : H} (hh : addAs nx0 (unseen m sa) as sg = h') (h : Op1q M op l h' v) (hr : OblS M nx0 as op l v m i st) : OblS M nx0 as op l v m i (⟨sg, sa, sn⟩ :: st) := fun c hc => by
 rcases List.mem_cons.1 hc with rfl | hc
 · exact .inr (hh ▸ h)
 · exact hr c hc
theorem restrict_guard {e : Env} {j gd : Nat} {want : Bool} (ho : o.guard = some (j, want)) (hj : gdst ops j = some gd) : (restrict e (o.looksAt ops)).get gd = e.get gd := by
 rw [restrict_get, if_pos]
 unfold Oper.looksAt gdst at *
 rw [ho]
 refine List.mem_append_right _ ?_
 simp only
 split at hj
 · rename_i o' ho'
   rw [ho']
   simp [hj]
 · cases hj
def Wt (ops : Array Oper) (o : Oper) (sz : Nat) (l : KL) (b : Bool) : Prop := ∀ e, Has sz l e → wantedA ops o (restrict e (o.looksAt ops)) = some b
theorem wd_q (hw : Wt ops o sz l true) (hc : cls M.P o.op = .q) (hn : noHeap o.op = true) (hop : Op1q M o.op l g v) (hv : vdep 6 v = true) (hdo : o.dst = some d) (hd : Nat.blt d sz = true)
   (next : WD M ops nx0 sz R rest (i + 1) ((d, v) :: l) g abs es as sts obs) : WD M ops nx0 sz R ((o, m) :: rest) i l g abs es as sts obs := by
 intro e he
 obtain ⟨e1, p1, he1⟩ := he.put hd v
 obtain ⟨ts, bs, st2, as2, gf, absf, q1, q2, q3, q4, q5, e', l', q6, q7, q8⟩ := next e1 he1
 obtain ⟨h2, p2⟩ := hop _ (cp_ he ops o)
 obtain ⟨h3, p3⟩ := noHeap_aop hn p2 (addAs nx0 (unseen m abs) as g)
 refine ⟨⟨⟨some d, v, .q⟩, l⟩ :: ts, bs, st2, as2, gf, absf, q1.mono fun r a => ?_, fun As St hb => ⟨he, ⟨hv, .inl ⟨hn, g, hop⟩⟩, e1, p1, q2 As St hb⟩, ?_, ?_, ?_, e', l', ?_, q7, q8⟩
 · simp only [dPass, hw e he, hc, p3, Env.putO, hdo, p1, a, List.map_cons]
 · simp only [List.map_cons, stagesOf]; exact q3
 · simp only [List.map_cons, asOf]; exact q4
 · simp only [List.map_cons, stg]; exact q5
 · simp only [List.map_cons, putsOf, Env.putO, p1]; exact q6
theorem wd_h (hw : Wt ops o sz l true) (hc : cls M.P o.op = .q) {h' : H} (hh : addAs nx0 (unseen m abs) as g = h') (hop : Op1q M o.op l h' v) (hv : vdep 6 v = true) (hdo : o.dst = some d) (hd : Nat.blt d sz = true)
   (next : WD M ops nx0 sz R rest (i + 1) ((d, v) :: l) g abs es as sts (⟨o.op, l, v, m, i⟩ :: obs)) : WD M ops nx0 sz R ((o, m) :: rest) i l g abs es as sts obs := by
 intro e he
 obtain ⟨e1, p1, he1⟩ := he.put hd v
 obtain ⟨ts, bs, st2, as2, gf, absf, q1, q2, q3, q4, q5, e', l', q6, q7, q8⟩ := next e1 he1
 obtain ⟨h2, p2⟩ := hop _ (cp_ he ops o)
 refine ⟨⟨⟨some d, v, .q⟩, l⟩ :: ts, ⟨o.op, l, v, m, i⟩ :: bs, st2, as2, gf, absf, q1.mono fun r a => ?_, fun As St hb => ⟨he, ⟨hv, .inr (hb _ List.mem_cons_self)⟩, e1, p1, q2 As St fun b hb' => hb b (List.mem_cons_of_mem _ hb')⟩, ?_, ?_, ?_, e', l', ?_, q7, ?_⟩
 · simp only [dPass, hw e he, hc, hh, p2, Env.putO, hdo, p1, a, List.map_cons]
 · simp only [List.map_cons, stagesOf]; exact q3
 · simp only [List.map_cons, asOf]; exact q4
 · simp only [List.map_cons, stg]; exact q5
 · simp only [List.map_cons, putsOf, Env.putO, p1]; exact q6
 · simpa using q8
theorem wd_s (hw : Wt ops o sz l false) (hdo : o.dst = some d) (hd : Nat.blt d sz = true)
   (next : WD M ops nx0 sz R rest (i + 1) ((d, skipV) :: l) g abs es as sts obs) : WD M ops nx0 sz R ((o, m) :: rest) i l g abs es as sts obs := by
 intro e he
 obtain ⟨e1, p1, he1⟩ := he.put hd skipV
 obtain ⟨ts, bs, st2, as2, gf, absf, q1, q2, q3, q4, q5, e', l', q6, q7, q8⟩ := next e1 he1
 refine ⟨⟨⟨some d, skipV, .s⟩, l⟩ :: ts, bs, st2, as2, gf, absf, q1.mono fun r a => ?_, fun As St hb => ⟨he, trivial, e1, p1, q2 As St hb⟩, ?_, ?_, ?_, e', l', ?_, q7, q8⟩
 · simp only [dPass, hw e he, Env.putO, hdo, p1, a, List.map_cons]
 · simp only [List.map_cons, stagesOf]; exact q3
 · simp only [List.map_cons, asOf]; exact q4
 · simp only [List.map_cons, stg]; exact q5
 · simp only [List.map_cons, putsOf, Env.putO, p1]; exact q6
def Op1a (M : Mc) (op : Op) (l : KL) (n : Nat) (v : Value) (ob : AObj) : Prop := ∀ e, Sees op l e → ∃ h', aop M.P M.G op e { tr := .leaf, nx := n } = some (v, h') ∧ h'.get n = some ob
theorem wd_a (hw : Wt ops o sz l true) (hc : cls M.P o.op = .a) {ob : AObj} {n : Nat} (hn : nx0 + i = n) (hop : Op1a M o.op l n v ob) (hdo : o.dst = some d) (hd : Nat.blt d sz = true)
   (next : WD M ops nx0 sz R rest (i + 1) ((d, v) :: l) g abs es (as ++ [(i, ob)]) sts obs) : WD M ops nx0 sz R ((o, m) :: rest) i l g abs es as sts obs := by
 subst hn
 intro e he
 obtain ⟨e1, p1, he1⟩ := he.put hd v
 obtain ⟨ts, bs, st2, as2, gf, absf, q1, q2, q3, q4, q5, e', l', q6, q7, q8⟩ := next e1 he1
 obtain ⟨h2, p2, p3⟩ := hop _ (cp_ he ops o)
 refine ⟨⟨⟨some d, v, .a ob⟩, l⟩ :: ts, bs, st2, (i, ob) :: as2, gf, absf, q1.mono fun r a => ?_, fun As St hb => ⟨he, trivial, e1, p1, q2 As St hb⟩, ?_, ?_, ?_, e', l', ?_, q7, ?_⟩
 · simp only [dPass, hw e he, hc, p2, p3, Env.putO, hdo, p1, a, List.map_cons]
 · simp only [List.map_cons, stagesOf]; exact q3
 · simp only [List.map_cons, asOf]; rw [q4]
 · simp only [List.map_cons, stg]; exact q5
 · simp only [List.map_cons, putsOf, Env.putO, p1]; exact q6
 · simpa using q8
theorem wd_e (hw : Wt ops o sz l true) (hc : cls M.P o.op = .e) (hes : ((es.all fun x => m.testBit x) && Nat.beq (m ||| abs) m) = true) {h' : H} (hh : addAs nx0 (unseen m abs) as g = h') (hop : Op1 M o.op l h' v g1) (hdo : o.dst = some d) (hd : Nat.blt d sz = true)
   (next : WD M ops nx0 sz R rest (i + 1) ((d, v) :: l) g1 m (i :: es) as (⟨g, abs, some i⟩ :: sts) obs) : WD M ops nx0 sz R ((o, m) :: rest) i l g abs es as sts obs := by
 intro e he
 obtain ⟨e1, p1, he1⟩ := he.put hd v
 obtain ⟨ts, bs, st2, as2, gf, absf, q1, q2, q3, q4, q5, e', l', q6, q7, q8⟩ := next e1 he1
 refine ⟨⟨⟨some d, v, .e g1⟩, l⟩ :: ts, bs, ⟨g, abs, some i⟩ :: st2, as2, gf, absf, (hop _ (cp_ he ops o)).and q1 fun r p2 a => ?_, fun As St hb => ⟨he, trivial, e1, p1, q2 As St hb⟩, ?_, ?_, ?_, e', l', ?_, q7, ?_⟩
 · simp only [dPass, hw e he, hc, hes, hh, p2 o rfl, Env.putO, hdo, p1, a, List.map_cons]
 · simp only [List.map_cons, stagesOf]; rw [q3]
 · simp only [List.map_cons, asOf]; exact q4
 · simp only [List.map_cons, stg]; exact q5
 · simp only [List.map_cons, putsOf, Env.putO, p1]; exact q6
 · simpa using q8
theorem wd_e0 (hw : Wt ops o sz l true) (hc : cls M.P o.op = .e) (hes : ((es.all fun x => m.testBit x) && Nat.beq (m ||| abs) m) = true) {h' : H} (hh : addAs nx0 (unseen m abs) as g = h') (hop : Op1 M o.op l h' v g1) (hdo : o.dst = none)
   (next : WD M ops nx0 sz R rest (i + 1) l g1 m (i :: es) as (⟨g, abs, some i⟩ :: sts) obs) : WD M ops nx0 sz R ((o, m) :: rest) i l g abs es as sts obs := by
 intro e he
 obtain ⟨ts, bs, st2, as2, gf, absf, q1, q2, q3, q4, q5, e', l', q6, q7, q8⟩ := next e he
 refine ⟨⟨⟨none, v, .e g1⟩, l⟩ :: ts, bs, ⟨g, abs, some i⟩ :: st2, as2, gf, absf, (hop _ (cp_ he ops o)).and q1 fun r p2 a => ?_, fun As St hb => ⟨he, trivial, e, rfl, q2 As St hb⟩, ?_, ?_, ?_, e', l', ?_, q7, ?_⟩
 · simp only [dPass, hw e he, hc, hes, hh, p2 o rfl, Env.putO, hdo, a, List.map_cons]
 · simp only [List.map_cons, stagesOf]; rw [q3]
 · simp only [List.map_cons, asOf]; exact q4
 · simp only [List.map_cons, stg]; exact q5
 · simp only [List.map_cons, putsOf, Env.putO]; exact q6
 · simpa using q8
theorem wd_call (hw : Wt ops o sz l true) {f : Operand} {args : Array Operand} {tys : Array TypeId} {fv : Value} {vs : List Value} {Qv : Value → H → Prop} (hop : o.op = .call ⟨.value f, args, tys⟩) (hes : ((es.all fun x => m.testBit x) && Nat.beq (m ||| abs) m) = true) {h' : H} (hh : addAs nx0 (unseen m abs) as g = h')
   (hf : val l f = some fv) (ha : valsL l args.toList = some vs) (hcf : Cf M fv vs h' Qv) (hdo : o.dst = some d) (hd : Nat.blt d sz = true)
   (next : ∀ v g1, Qv v g1 → WD M ops nx0 sz R rest (i + 1) ((d, v) :: l) g1 m (i :: es) as (⟨g, abs, some i⟩ :: sts) obs) : WD M ops nx0 sz R ((o, m) :: rest) i l g abs es as sts obs := by
 obtain ⟨v, g1, c, q⟩ := hcf
 exact wd_e hw (by rw [hop]; rfl) hes hh (by rw [hop]; exact aK_ hf ha c) hdo hd (next v g1 q)
def WX (M : Mc) (ops : Array Oper) (nx0 sz : Nat) (R : KL → H → Prop) (rem : List Oper) (ms ix : List Nat) (l : KL) (g : H) (abs : Nat) (es : List Nat) (as : List (Nat × AObj)) (sts : List Stage) (obs : List OB) : Prop :=
 ms.length = rem.length → ix = List.range' (ix.headD 0) rem.length → WD M ops nx0 sz R (rem.zip ms) (ix.headD 0) l g abs es as sts obs
theorem aa_ (ho : o.guard = none) : Wt ops o sz l true := fun e _ => by simp only [wantedA, ho]
theorem aL_ {j gd : Nat} {want : Bool} (ho : o.guard = some (j, want)) (hj : gdst ops j = some gd) (hb : lk l gd = some (.bool want)) : Wt ops o sz l true := fun e he => by
 rw [wanted_of ho hj (by rw [restrict_guard ho hj]; exact he.get gd _ hb)]
 cases want <;> rfl
theorem wt_skip {j gd : Nat} {want b : Bool} (ho : o.guard = some (j, want)) (hj : gdst ops j = some gd) (hb : lk l gd = some (.bool b)) (hne : b = !want) : Wt ops o sz l false := fun e he => by
 rw [wanted_of ho hj (by rw [restrict_guard ho hj]; exact he.get gd _ hb)]
 subst hne
 cases want <;> rfl
end
theorem wc_draw {M : Mc} {ro : Option Nat} {id sz : Nat} {os : List Oper} {l : KL} {h : H} {Q : X → KL → H → Prop} (k : Nat) (ms ix : List Nat) (hm : masksFrom os [] = some ms) (ht : tmpsOk os.toArray (os.zip ms) = true)
   (hi : (Nat.beq os.length k && Nat.beq ms.length k) = true) (hx : List.range' 0 k = ix) {n : Nat} (hn : h.nx = n)
   (w : WX M os.toArray n sz (Q .norm) os ms ix l { tr := h.tr, nx := n + k } 0 [] [] [] []) : Wc M ro (.region id os.toArray true) sz l h Q := by
 subst hn
 have ho : os.toArray.toList = os := by simp
 rw [Bool.and_eq_true] at hi
 have e1 := Nat.eq_of_beq_eq_true hi.1
 have e2 := Nat.eq_of_beq_eq_true hi.2
 have hx0 : ix.headD 0 = 0 := by
   subst hx
   cases k <;> rfl
 refine wc_draw0 (k := k) ms (by rw [ho]; exact hm) (by rw [ho]; exact ht) (by rw [ho]; exact e1) ?_
 have := w (by omega) (by rw [hx0, e1]; exact hx.symm)
 rw [hx0] at this
 rw [ho]
 exact this
section
variable {M : Mc} {ops : Array Oper} {rest : List Oper} {ms ix : List Nat} {nx0 sz i m abs : Nat} {g g1 : H} {R : KL → H → Prop} {l : KL} {es : List Nat} {as : List (Nat × AObj)} {sts : List Stage} {obs : List OB} {o : Oper} {v : Value} {d : Nat}
theorem wx_next {l' : KL} {g' : H} {abs' : Nat} {es' : List Nat} {as' : List (Nat × AObj)} {sts' : List Stage} {obs' : List OB} (next : WX M ops nx0 sz R rest ms ix l' g' abs' es' as' sts' obs') (h1 : (m :: ms).length = (o :: rest).length) (h2 : i :: ix = List.range' ((i :: ix).headD 0) (o :: rest).length) :
   WD M ops nx0 sz R (rest.zip ms) (i + 1) l' g' abs' es' as' sts' obs' := by
 simp only [List.length_cons, List.headD_cons, List.range'_succ, List.cons.injEq, true_and] at h1 h2
 have h1 : ms.length = rest.length := by omega
 cases rest with
 | nil =>
   have hm : ms = [] := List.length_eq_zero_iff.1 h1
   subst hm
   have hx : ix = [] := by simpa using h2
   subst hx
   intro e he
   have := next rfl rfl e he
   simp only [List.zip_nil_right, List.headD_nil] at this
   obtain ⟨ts, bs, st2, as2, gf, absf, q1, q2, q3, q4, q5, e', l2, q6, q7, q8⟩ := this
   cases ts with
   | nil =>
     simp only [List.map_nil, stagesOf, asOf, stg, putsOf] at q3 q4 q5 q6
     cases q5; cases q6
     exact ⟨[], bs, _, [], g', abs', .of fun _ => rfl, fun As St hb => trivial, rfl, rfl, rfl, e, l2, rfl, q7, by subst q3 q4; exact q8⟩
   | cons t ts =>
     exfalso
     obtain ⟨n, q1⟩ := q1
     have := q1 n (Nat.le_refl _)
     simp [dPass] at this
 | cons o2 rest =>
   cases ix with
   | nil => simp at h2
   | cons j ix =>
     have hj : j = i + 1 := by
       simp only [List.length_cons, List.range'_succ, List.cons.injEq] at h2
       exact h2.1
     subst hj
     exact next h1 (by simpa using h2)
theorem wx_nil (ho : OblL M nx0 as (⟨g, abs, none⟩ :: sts) obs) (hs : stOk nx0 as (⟨g, abs, none⟩ :: sts) = true) {hf : H} (hh : addAs nx0 (fun j => !abs.testBit j) as g = hf) (hr : R l hf) : WX M ops nx0 sz R [] ms ix l g abs es as sts obs := by
 intro h1 _
 have : ms = [] := List.length_eq_zero_iff.1 h1
 subst this
 exact wd_nil ho hs hh hr
theorem bj_ (ho : OblL M nx0 [] (⟨g, abs, none⟩ :: sts) obs) (hr : R l g) : WX M ops nx0 sz R [] ms ix l g abs es [] sts obs :=
 wx_nil ho (by unfold stOk; simp) rfl hr
theorem aH_ (hw : Wt ops o sz l true) (hc : cls M.P o.op = .q) (hn : noHeap o.op = true) (hop : Op1q M o.op l g v) (hv : vdep 6 v = true) (hdo : o.dst = some d) (hd : Nat.blt d sz = true)
   (next : WX M ops nx0 sz R rest ms ix ((d, v) :: l) g abs es as sts obs) : WX M ops nx0 sz R (o :: rest) (m :: ms) (i :: ix) l g abs es as sts obs :=
 fun h1 h2 => wd_q hw hc hn hop hv hdo hd (wx_next next h1 h2)
theorem wx_h {h' : H} (hw : Wt ops o sz l true) (hc : cls M.P o.op = .q) (hh : addAs nx0 (unseen m abs) as g = h') (hop : Op1q M o.op l h' v) (hv : vdep 6 v = true) (hdo : o.dst = some d) (hd : Nat.blt d sz = true)
   (next : WX M ops nx0 sz R rest ms ix ((d, v) :: l) g abs es as sts (⟨o.op, l, v, m, i⟩ :: obs)) : WX M ops nx0 sz R (o :: rest) (m :: ms) (i :: ix) l g abs es as sts obs :=
 fun h1 h2 => wd_h hw hc hh hop hv hdo hd (wx_next next h1 h2)
theorem aO_ (hw : Wt ops o sz l true) (hc : cls M.P o.op = .q) (hop : Op1q M o.op l g v) (hv : vdep 6 v = true) (hdo : o.dst = some d) (hd : Nat.blt d sz = true)
   (next : WX M ops nx0 sz R rest ms ix ((d, v) :: l) g abs es [] sts (⟨o.op, l, v, m, i⟩ :: obs)) : WX M ops nx0 sz R (o :: rest) (m :: ms) (i :: ix) l g abs es [] sts obs := wx_h hw hc rfl hop hv hdo hd next
theorem wx_s (hw : Wt ops o sz l false) (hdo : o.dst = some d) (hd : Nat.blt d sz = true)
   (next : WX M ops nx0 sz R rest ms ix ((d, skipV) :: l) g abs es as sts obs) : WX M ops nx0 sz R (o :: rest) (m :: ms) (i :: ix) l g abs es as sts obs :=
 fun h1 h2 => wd_s hw hdo hd (wx_next next h1 h2)
theorem wx_a (hw : Wt ops o sz l true) (hc : cls M.P o.op = .a) {ob : AObj} {n : Nat} (hn : nx0 + i = n) (hop : Op1a M o.op l n v ob) (hdo : o.dst = some d) (hd : Nat.blt d sz = true) {as' : List (Nat × AObj)} (has : as ++ [(i, ob)] = as')
   (next : WX M ops nx0 sz R rest ms ix ((d, v) :: l) g abs es as' sts obs) : WX M ops nx0 sz R (o :: rest) (m :: ms) (i :: ix) l g abs es as sts obs :=
 fun h1 h2 => wd_a hw hc hn hop hdo hd (by subst has; exact wx_next next h1 h2)
theorem wx_a0 (hw : Wt ops o sz l true) (hc : cls M.P o.op = .a) {ob : AObj} (hop : Op1a M o.op l (nx0 + i) v ob) (hdo : o.dst = some d) (hd : Nat.blt d sz = true)
   (next : WX M ops nx0 sz R rest ms ix ((d, v) :: l) g abs es [(i, ob)] sts obs) : WX M ops nx0 sz R (o :: rest) (m :: ms) (i :: ix) l g abs es [] sts obs := wx_a hw hc rfl hop hdo hd rfl next
theorem wx_e {h' : H} (hw : Wt ops o sz l true) (hc : cls M.P o.op = .e) (hes : ((es.all fun x => m.testBit x) && Nat.beq (m ||| abs) m) = true) (hh : addAs nx0 (unseen m abs) as g = h') (hop : Op1 M o.op l h' v g1) (hdo : o.dst = some d) (hd : Nat.blt d sz = true)
   (next : WX M ops nx0 sz R rest ms ix ((d, v) :: l) g1 m (i :: es) as (⟨g, abs, some i⟩ :: sts) obs) : WX M ops nx0 sz R (o :: rest) (m :: ms) (i :: ix) l g abs es as sts obs :=
 fun h1 h2 => wd_e hw hc hes hh hop hdo hd (wx_next next h1 h2)
theorem wx_ee (hw : Wt ops o sz l true) (hc : cls M.P o.op = .e) (hes : ((es.all fun x => m.testBit x) && Nat.beq (m ||| abs) m) = true) (hop : Op1 M o.op l g v g1) (hdo : o.dst = some d) (hd : Nat.blt d sz = true)
   (next : WX M ops nx0 sz R rest ms ix ((d, v) :: l) g1 m (i :: es) [] (⟨g, abs, some i⟩ :: sts) obs) : WX M ops nx0 sz R (o :: rest) (m :: ms) (i :: ix) l g abs es [] sts obs := wx_e hw hc hes rfl hop hdo hd next
theorem wx_e0 {h' : H} (hw : Wt ops o sz l true) (hc : cls M.P o.op = .e) (hes : ((es.all fun x => m.testBit x) && Nat.beq (m ||| abs) m) = true) (hh : addAs nx0 (unseen m abs) as g = h') (hop : Op1 M o.op l h' v g1) (hdo : o.dst = none)
   (next : WX M ops nx0 sz R rest ms ix l g1 m (i :: es) as (⟨g, abs, some i⟩ :: sts) obs) : WX M ops nx0 sz R (o :: rest) (m :: ms) (i :: ix) l g abs es as sts obs :=
 fun h1 h2 => wd_e0 hw hc hes hh hop hdo (wx_next next h1 h2)
theorem wx_ee0 (hw : Wt ops o sz l true) (hc : cls M.P o.op = .e) (hes : ((es.all fun x => m.testBit x) && Nat.beq (m ||| abs) m) = true) (hop : Op1 M o.op l g v g1) (hdo : o.dst = none)
   (next : WX M ops nx0 sz R rest ms ix l g1 m (i :: es) [] (⟨g, abs, some i⟩ :: sts) obs) : WX M ops nx0 sz R (o :: rest) (m :: ms) (i :: ix) l g abs es [] sts obs := wx_e0 hw hc hes rfl hop hdo next
theorem wx_call {h' : H} (hw : Wt ops o sz l true) {f : Operand} {args : Array Operand} {tys : Array TypeId} {fv : Value} {vs : List Value} {Qv : Value → H → Prop} (hop : o.op = .call ⟨.value f, args, tys⟩) (hes : ((es.all fun x => m.testBit x) && Nat.beq (m ||| abs) m) = true) (hh : addAs nx0 (unseen m abs) as g = h')
   (hf : val l f = some fv) (ha : valsL l args.toList = some vs) (hcf : Cf M fv vs h' Qv) (hdo : o.dst = some d) (hd : Nat.blt d sz = true)
   (next : ∀ v g1, Qv v g1 → WX M ops nx0 sz R rest ms ix ((d, v) :: l) g1 m (i :: es) as (⟨g, abs, some i⟩ :: sts) obs) : WX M ops nx0 sz R (o :: rest) (m :: ms) (i :: ix) l g abs es as sts obs :=
 fun h1 h2 => wd_call hw hop hes hh hf ha hcf hdo hd fun v g1 q => wx_next (next v g1 q) h1 h2
theorem aM_ (hw : Wt ops o sz l true) {f : Operand} {args : Array Operand} {tys : Array TypeId} {fv : Value} {vs : List Value} {Qv : Value → H → Prop} (hop : o.op = .call ⟨.value f, args, tys⟩) (hes : ((es.all fun x => m.testBit x) && Nat.beq (m ||| abs) m) = true)
   (hf : val l f = some fv) (ha : valsL l args.toList = some vs) (hcf : Cf M fv vs g Qv) (hdo : o.dst = some d) (hd : Nat.blt d sz = true)
   (next : ∀ v g1, Qv v g1 → WX M ops nx0 sz R rest ms ix ((d, v) :: l) g1 m (i :: es) [] (⟨g, abs, some i⟩ :: sts) obs) : WX M ops nx0 sz R (o :: rest) (m :: ms) (i :: ix) l g abs es [] sts obs := wx_call hw hop hes rfl hf ha hcf hdo hd next
theorem bO_ {j gd : Nat} {want b : Bool} (_ho : o.guard = some (j, want)) (_hj : gdst ops j = some gd) (hb : lk l gd = some (.bool b)) (ht : b = true → WX M ops nx0 sz R (o :: rest) (m :: ms) (i :: ix) ((gd, .bool true) :: l) g abs es as sts obs) (hf : b = false → WX M ops nx0 sz R (o :: rest) (m :: ms) (i :: ix) ((gd, .bool false) :: l) g abs es as sts obs) :
   WX M ops nx0 sz R (o :: rest) (m :: ms) (i :: ix) l g abs es as sts obs := by
 have known : ∀ w, lk l gd = some w → WX M ops nx0 sz R (o :: rest) (m :: ms) (i :: ix) ((gd, w) :: l) g abs es as sts obs → WX M ops nx0 sz R (o :: rest) (m :: ms) (i :: ix) l g abs es as sts obs := fun w hw next h1 h2 e he => next h1 h2 e (lk_le (fun t v q => by
   simp only [lk] at q
   split at q
   · rename_i hq
     have := Nat.eq_of_beq_eq_true hq
     subst this
     rw [hw]; exact q
   · exact q) he)
 cases b with
 | true => exact known _ hb (ht rfl)
 | false => exact known _ hb (hf rfl)
section
variable {ty : TypeId} {dst : Option Nat} {pos : String} {after : Array Edge} {gu : Nat × Bool}
theorem ba_ {x : Operand} (w : WX M ops nx0 sz R (⟨dst, .move x, ty, pos, after, none⟩ :: rest) ms ix l g abs es as sts obs) : WX M ops nx0 sz R (⟨dst, .move x, ty, pos, after, none⟩ :: rest) ms ix l g abs es as sts obs := w
theorem bm_ {x : Operand} (w : WX M ops nx0 sz R (⟨dst, .assign x, ty, pos, after, none⟩ :: rest) ms ix l g abs es as sts obs) : WX M ops nx0 sz R (⟨dst, .assign x, ty, pos, after, none⟩ :: rest) ms ix l g abs es as sts obs := w
theorem cj_ {x y z : Operand} (w : WX M ops nx0 sz R (⟨dst, .pick x y z, ty, pos, after, none⟩ :: rest) ms ix l g abs es as sts obs) : WX M ops nx0 sz R (⟨dst, .pick x y z, ty, pos, after, none⟩ :: rest) ms ix l g abs es as sts obs := w
theorem xk_alloc {t : TypeId} (w : WX M ops nx0 sz R (⟨dst, .alloc t, ty, pos, after, none⟩ :: rest) ms ix l g abs es as sts obs) : WX M ops nx0 sz R (⟨dst, .alloc t, ty, pos, after, none⟩ :: rest) ms ix l g abs es as sts obs := w
theorem xk_build {t : TypeId} {ps : Array (Nat × Operand)} (w : WX M ops nx0 sz R (⟨dst, .build t ps, ty, pos, after, none⟩ :: rest) ms ix l g abs es as sts obs) : WX M ops nx0 sz R (⟨dst, .build t ps, ty, pos, after, none⟩ :: rest) ms ix l g abs es as sts obs := w
theorem bg_ {t : TypeId} {nn : Nat} {ps : Array (Nat × Operand)} (w : WX M ops nx0 sz R (⟨dst, .buildSlice t nn ps, ty, pos, after, none⟩ :: rest) ms ix l g abs es as sts obs) : WX M ops nx0 sz R (⟨dst, .buildSlice t nn ps, ty, pos, after, none⟩ :: rest) ms ix l g abs es as sts obs := w
theorem aZ_ {t : TypeId} {x : Operand} (w : WX M ops nx0 sz R (⟨dst, .load t x, ty, pos, after, none⟩ :: rest) ms ix l g abs es as sts obs) : WX M ops nx0 sz R (⟨dst, .load t x, ty, pos, after, none⟩ :: rest) ms ix l g abs es as sts obs := w
theorem bN_ {t : TypeId} {x y : Operand} (w : WX M ops nx0 sz R (⟨dst, .store t x y, ty, pos, after, none⟩ :: rest) ms ix l g abs es as sts obs) : WX M ops nx0 sz R (⟨dst, .store t x y, ty, pos, after, none⟩ :: rest) ms ix l g abs es as sts obs := w
theorem bD_ {bo : BinOp} {t t2 : TypeId} {x y : Operand} (w : WX M ops nx0 sz R (⟨dst, .binOp bo t x y t2, ty, pos, after, none⟩ :: rest) ms ix l g abs es as sts obs) : WX M ops nx0 sz R (⟨dst, .binOp bo t x y t2, ty, pos, after, none⟩ :: rest) ms ix l g abs es as sts obs := w
theorem xk_makeFunc {fn : Fn} {fs cs : Array Operand} (w : WX M ops nx0 sz R (⟨dst, .makeFunc fn fs cs, ty, pos, after, none⟩ :: rest) ms ix l g abs es as sts obs) : WX M ops nx0 sz R (⟨dst, .makeFunc fn fs cs, ty, pos, after, none⟩ :: rest) ms ix l g abs es as sts obs := w
theorem xk_slice {t : TypeId} {x : Operand} {lo hi mx : Option Operand} (w : WX M ops nx0 sz R (⟨dst, .slice t x lo hi mx, ty, pos, after, none⟩ :: rest) ms ix l g abs es as sts obs) : WX M ops nx0 sz R (⟨dst, .slice t x lo hi mx, ty, pos, after, none⟩ :: rest) ms ix l g abs es as sts obs := w
theorem aC_ {t : TypeId} {x : Operand} {nn : Nat} (w : WX M ops nx0 sz R (⟨dst, .fieldAddr t x nn, ty, pos, after, none⟩ :: rest) ms ix l g abs es as sts obs) : WX M ops nx0 sz R (⟨dst, .fieldAddr t x nn, ty, pos, after, none⟩ :: rest) ms ix l g abs es as sts obs := w
theorem aT_ {t : TypeId} {x y : Operand} (w : WX M ops nx0 sz R (⟨dst, .indexAddr t x y, ty, pos, after, none⟩ :: rest) ms ix l g abs es as sts obs) : WX M ops nx0 sz R (⟨dst, .indexAddr t x y, ty, pos, after, none⟩ :: rest) ms ix l g abs es as sts obs := w
theorem xk_extract {x : Operand} {nn : Nat} (w : WX M ops nx0 sz R (⟨dst, .extract x nn, ty, pos, after, none⟩ :: rest) ms ix l g abs es as sts obs) : WX M ops nx0 sz R (⟨dst, .extract x nn, ty, pos, after, none⟩ :: rest) ms ix l g abs es as sts obs := w
theorem aV_ {x : Operand} {args : Array Operand} {tys : Array TypeId} (w : WX M ops nx0 sz R (⟨dst, .call ⟨.value x, args, tys⟩, ty, pos, after, none⟩ :: rest) ms ix l g abs es as sts obs) : WX M ops nx0 sz R (⟨dst, .call ⟨.value x, args, tys⟩, ty, pos, after, none⟩ :: rest) ms ix l g abs es as sts obs := w
theorem xk_callb {b : Builtin} {args : Array Operand} {tys : Array TypeId} (w : WX M ops nx0 sz R (⟨dst, .call ⟨.builtin b, args, tys⟩, ty, pos, after, none⟩ :: rest) ms ix l g abs es as sts obs) : WX M ops nx0 sz R (⟨dst, .call ⟨.builtin b, args, tys⟩, ty, pos, after, none⟩ :: rest) ms ix l g abs es as sts obs := w
theorem xk_g {op : Op} (w : WX M ops nx0 sz R (⟨dst, op, ty, pos, after, some gu⟩ :: rest) ms ix l g abs es as sts obs) : WX M ops nx0 sz R (⟨dst, op, ty, pos, after, some gu⟩ :: rest) ms ix l g abs es as sts obs := w
theorem cJ_ {x : Operand} (w : WX M ops nx0 sz R (⟨dst, .move x, ty, pos, after, some gu⟩ :: rest) ms ix l g abs es as sts obs) : WX M ops nx0 sz R (⟨dst, .move x, ty, pos, after, some gu⟩ :: rest) ms ix l g abs es as sts obs := w
theorem xg_pick {x y z : Operand} (w : WX M ops nx0 sz R (⟨dst, .pick x y z, ty, pos, after, some gu⟩ :: rest) ms ix l g abs es as sts obs) : WX M ops nx0 sz R (⟨dst, .pick x y z, ty, pos, after, some gu⟩ :: rest) ms ix l g abs es as sts obs := w
theorem cK_ {t : TypeId} {x : Operand} (w : WX M ops nx0 sz R (⟨dst, .load t x, ty, pos, after, some gu⟩ :: rest) ms ix l g abs es as sts obs) : WX M ops nx0 sz R (⟨dst, .load t x, ty, pos, after, some gu⟩ :: rest) ms ix l g abs es as sts obs := w
theorem xg_bin {bo : BinOp} {t t2 : TypeId} {x y : Operand} (w : WX M ops nx0 sz R (⟨dst, .binOp bo t x y t2, ty, pos, after, some gu⟩ :: rest) ms ix l g abs es as sts obs) : WX M ops nx0 sz R (⟨dst, .binOp bo t x y t2, ty, pos, after, some gu⟩ :: rest) ms ix l g abs es as sts obs := w
theorem xg_un {uo : UnOp} {t : TypeId} {x : Operand} (w : WX M ops nx0 sz R (⟨dst, .unOp uo t x, ty, pos, after, some gu⟩ :: rest) ms ix l g abs es as sts obs) : WX M ops nx0 sz R (⟨dst, .unOp uo t x, ty, pos, after, some gu⟩ :: rest) ms ix l g abs es as sts obs := w
theorem cl_ {t : TypeId} {x : Operand} {nn : Nat} (w : WX M ops nx0 sz R (⟨dst, .fieldAddr t x nn, ty, pos, after, some gu⟩ :: rest) ms ix l g abs es as sts obs) : WX M ops nx0 sz R (⟨dst, .fieldAddr t x nn, ty, pos, after, some gu⟩ :: rest) ms ix l g abs es as sts obs := w
theorem bJ_ {t : TypeId} {x y : Operand} (w : WX M ops nx0 sz R (⟨dst, .indexAddr t x y, ty, pos, after, some gu⟩ :: rest) ms ix l g abs es as sts obs) : WX M ops nx0 sz R (⟨dst, .indexAddr t x y, ty, pos, after, some gu⟩ :: rest) ms ix l g abs es as sts obs := w
theorem xg_callv {x : Operand} {args : Array Operand} {tys : Array TypeId} (w : WX M ops nx0 sz R (⟨dst, .call ⟨.value x, args, tys⟩, ty, pos, after, some gu⟩ :: rest) ms ix l g abs es as sts obs) : WX M ops nx0 sz R (⟨dst, .call ⟨.value x, args, tys⟩, ty, pos, after, some gu⟩ :: rest) ms ix l g abs es as sts obs := w
theorem bK_ {f : FuncId} {args : Array Operand} {tys : Array TypeId} {h : H} (w : Wo M ops (⟨dst, .call ⟨.value (.func f), args, tys⟩, ty, pos, after, none⟩ :: rest) sz l h R) : Wo M ops (⟨dst, .call ⟨.value (.func f), args, tys⟩, ty, pos, after, none⟩ :: rest) sz l h R := w
theorem ig_callF {f : FuncId} {args : Array Operand} {tys : Array TypeId} {h : H} (w : Wo M ops (⟨dst, .call ⟨.value (.func f), args, tys⟩, ty, pos, after, some gu⟩ :: rest) sz l h R) : Wo M ops (⟨dst, .call ⟨.value (.func f), args, tys⟩, ty, pos, after, some gu⟩ :: rest) sz l h R := w
theorem bw_ {f : FuncId} {args : Array Operand} {tys : Array TypeId} (w : WX M ops nx0 sz R (⟨dst, .call ⟨.value (.func f), args, tys⟩, ty, pos, after, none⟩ :: rest) ms ix l g abs es as sts obs) : WX M ops nx0 sz R (⟨dst, .call ⟨.value (.func f), args, tys⟩, ty, pos, after, none⟩ :: rest) ms ix l g abs es as sts obs := w
theorem bd_ (w : WX M ops nx0 sz R rest ms ix l g abs es [] sts obs) : WX M ops nx0 sz R rest ms ix l g abs es [] sts obs := w
theorem cq_ {q : Nat × AObj} (w : WX M ops nx0 sz R rest ms ix l g abs es [q] sts obs) : WX M ops nx0 sz R rest ms ix l g abs es [q] sts obs := w
theorem ac_ {h : H} (w : Wo M ops rest sz l h R) : Wo M ops rest sz l h R := w
theorem bb_ (w : WX M ops nx0 sz R rest ms ix l g abs es as sts obs) : WX M ops nx0 sz R rest ms ix l g abs es as sts obs := w
end
end
/- The logic's operations on blocks that are known. -/
section
variable {M : Mc} {l : KL} {h h' : H} {v u z' : Value} {x y z : Operand} {t ty : TypeId} {b off es : Nat} {c cs vs : List Value} {e : TypeId} {s : Bool} {dd : TypeDesc} {n : Nat}
theorem At.ld {G : Base} (hat : At h b (.cells c e es s)) (hc : c[off]? = some v) : acell G h ⟨b, off, some 0⟩ = some v := by
 simp only [acell, hat.get, hc]
theorem ldAgg (hat : At h b (.cells c e es s)) (hu : M.P.underlying t = some dd) (hd : isAggD dd = true) (hn : tsz M.P t = some n) (hc : forceL ((c.drop off).take n) = some cs) (hl : Nat.beq cs.length n = true) : aloadVar M.P M.G h t ⟨b, off, some 0⟩ = some (.agg ⟨cs⟩) :=
 ld_agg hu hd hn (by have hc := forceL_eq hc; subst hc; simp only [acells, hat.get, hl])
theorem ae_ (hx : val l x = some (.pointer (some ⟨b, off, some 0⟩))) (hat : At h b (.cells c e es s)) (hu : M.P.underlying t = some dd) (hd : isAggD dd = false) (hc : c[off]? = some v) : Op1 M (.load t x) l h v h :=
 op_load hx (ld_one hu hd (hat.ld hc))
theorem az_ {a : Addr} (hx : val l x = some (.pointer (some a))) (hu : M.P.underlying t = some dd) (hd : isAggD dd = false) (hc : acell M.G h a = some v) : Op1 M (.load t x) l h v h :=
 op_load hx (ld_one hu hd hc)
theorem aj_ (hx : val l x = some (.pointer (some ⟨b, off, some 0⟩))) (hat : At h b (.cells c e es s)) (hu : M.P.underlying t = some dd) (hd : isAggD dd = true) (hn : tsz M.P t = some n) (hc : forceL ((c.drop off).take n) = some cs) (hl : Nat.beq cs.length n = true) : Op1 M (.load t x) l h (.agg ⟨cs⟩) h :=
 op_load hx (ld_agg hu hd hn (by have hc := forceL_eq hc; subst hc; simp only [acells, hat.get, hl]))
theorem op_stAt (hx : val l x = some (.pointer (some ⟨b, off, some 0⟩))) (hy : val l y = some u) (hat : At h b (.cells c e es s)) (hp : plainV u = true) (hn : tsz M.P t = some n) (hcs : u.cells.toList = vs) (hln : Nat.beq u.cells.size n = true) (hle : Nat.ble (off + vs.length) c.length = true) (hone : vs.all one = true)
   (hc : forceL (c.take off ++ (vs ++ c.drop (off + vs.length))) = some cs) : Op1 M (.store t x y) l h undef (h.set b (.cells cs e es s)) := by
 have hc := forceL_eq hc
 refine op_store hx hy ?_
 have : asto h ⟨b, off, some 0⟩ vs = some (h.set b (.cells cs e es s)) := by simp only [asto, hat.get, hle, hone, Bool.and_self, hc]
 unfold astoreVar
 cases u <;> first | (simp [plainV] at hp; done) | (simp only [hn, hln, hcs, this])
theorem aB_ (hx : val l x = some (.pointer (some ⟨b, off, some 0⟩))) (hy : val l y = some (.agg ⟨vs⟩)) (hat : At h b (.cells c e es s)) (hn : tsz M.P t = some n) (hln : Nat.beq vs.length n = true) (hle : Nat.ble (off + vs.length) c.length = true) (hone : vs.all one = true)
   (hc : forceL (c.take off ++ (vs ++ c.drop (off + vs.length))) = some cs) : Op1 M (.store t x y) l h undef (h.set b (.cells cs e es s)) :=
 op_stAt hx hy hat rfl hn rfl hln hle hone hc
theorem op_st1 (hx : val l x = some (.pointer (some ⟨b, off, some 0⟩))) (hy : val l y = some u) (hat : At h b (.cells c e es s)) (hp : scalV u = true) (hn : tsz M.P t = some 1) (hle : Nat.blt off c.length = true) (hone : one u = true)
   (hc : forceL (c.take off ++ (u :: c.drop (off + 1))) = some cs) : Op1 M (.store t x y) l h undef (h.set b (.cells cs e es s)) :=
 op_stAt hx hy hat (by cases u <;> first | rfl | (simp [scalV] at hp)) hn (vs := [u]) (by cases u <;> first | rfl | (simp [scalV] at hp)) (by cases u <;> first | rfl | (simp [scalV] at hp)) hle (by simp [hone]) hc
theorem op_idxArr' {a : Addr} {i : Int} {k : IntKind} {len : Nat} {et : TypeId} (hx : val l x = some (.pointer (some a))) (hy : val l y = some (.int k i)) (hu : M.P.underlying t = some (.array len et)) (hn : tsz M.P et = some n) (h0 : 0 ≤ i) (h1 : i < len) : Op1 M (.indexAddr t x y) l h (.pointer (some (aadd a (i.toNat * n)))) h :=
 ag_ hx hy (by simp only [aindexAddr, asInt?, hu, hn, decide_eq_true (And.intro h0 h1)])
theorem op_range {w : ByteArray} (hx : val l x = some (.string w)) (hu : M.P.underlying t = some .string) : Op1 M (.range t x) l h (.pointer (some ⟨h.nx, 0, some 0⟩)) (h.push (.iter w 0)) :=
 ci_ (fun _ q => by cases q) fun e he => by simp only [aop, he.val (x := x) (by simp [Op.operands]) hx, hu]
theorem op_next {w : ByteArray} {pos : Nat} (hx : val l x = some (.pointer (some ⟨b, 0, some 0⟩))) (hat : At h b (.iter w pos)) (hlt : pos < w.size) : Op1 M (.next x true) l h (.tuple #[.bool true, .int .i64 pos, .int .i32 (Utf8.decode w pos).1]) (h.set b (.iter w (pos + (Utf8.decode w pos).2))) :=
 ci_ (fun _ q => by cases q) fun e he => by
   have hb : Nat.blt pos w.size = true := by rw [blt_dec, decide_eq_true hlt]
   simp only [aop, he.val (x := x) (by simp [Op.operands]) hx, hat.get, hb]
theorem op_nextAs {w : ByteArray} {pos c wd : Nat} (hx : val l x = some (.pointer (some ⟨b, 0, some 0⟩))) (hat : At h b (.iter w pos)) (hlt : pos < w.size) (hd : Utf8.decode w pos = (c, wd)) : Op1 M (.next x true) l h (.tuple #[.bool true, .int .i64 pos, .int .i32 c]) (h.set b (.iter w (pos + wd))) := by
 have := op_next (M := M) hx hat hlt
 rwa [hd] at this
theorem op_nextEnd {w : ByteArray} {pos : Nat} (hx : val l x = some (.pointer (some ⟨b, 0, some 0⟩))) (hat : At h b (.iter w pos)) (hge : ¬ pos < w.size) : Op1 M (.next x true) l h (.tuple #[.bool false]) h :=
 ci_ (fun _ q => by cases q) fun e he => by
   have hb : Nat.blt pos w.size = false := by rw [blt_dec, decide_eq_false hge]
   simp only [aop, he.val (x := x) (by simp [Op.operands]) hx, hat.get, hb]
theorem bh_ {ps : Array (Nat × Operand)} {pv : List (Nat × Value)} {len : Nat} {k : Nat} (hp : partsK l ps.toList = some pv) (hu : M.P.underlying t = some (.slice e)) (hs : tsz M.P e = some n) (hz : tzero M.P e = some z') (hg : (gd z' && Nat.ble (len * n) 16777216 && Nat.beq z'.cells.size n) = true)
   (hf : forceO (afill (fun i => some (i * n, n)) (repeatCells len z'.cells.toList) pv) = some cs) : Op1a M (.buildSlice t len ps) l k (.slice (some ⟨k, 0, some 0⟩) len len) (.cells cs e n false) := by
 intro ev he
 refine ⟨H.push { tr := .leaf, nx := k } (.cells cs e n false), ?_, by rw [H.get_push, if_pos rfl]⟩
 simp only [aop, partsK_ok he (fun p hp => by simp [Op.operands]; exact ⟨p.1, Array.mem_toList_iff.1 hp⟩) hp, abuildSlice, hu, hs, hz, hg, forceO_eq hf]
theorem aR_ {ps : Array (Nat × Operand)} {pv : List (Nat × Value)} {len : Nat} (hp : partsK l ps.toList = some pv) (hu : M.P.underlying t = some (.slice e)) (hs : tsz M.P e = some n) (hz : tzero M.P e = some z') (hg : (gd z' && Nat.ble (len * n) 16777216 && Nat.beq z'.cells.size n) = true)
   (hf : forceO (afill (fun i => some (i * n, n)) (repeatCells len z'.cells.toList) pv) = some cs) : Op1 M (.buildSlice t len ps) l h (.slice (some ⟨h.nx, 0, some 0⟩) len len) (h.push (.cells cs e n false)) :=
 op_buildSlice hp (by simp only [abuildSlice, hu, hs, hz, hg, forceO_eq hf])
theorem oa_alloc {k : Nat} (hz : tzero M.P t = some u) (hs : tsz M.P t = some n) (hg : gd u = true) (hn : Nat.beq u.cells.size n = true) (hc : forceL u.cells.toList = some cs) : Op1a M (.alloc t) l k (.pointer (some ⟨k, 0, some 0⟩)) (.cells cs t n false) := by
 intro ev he
 refine ⟨H.push { tr := .leaf, nx := k } (.cells cs t n false), ?_, by rw [H.get_push, if_pos rfl]⟩
 simp only [aop, hz, hs, hg, hn, forceL_eq hc, Bool.and_self, newCells]
theorem afill_le {p q : Nat → Option (Nat × Nat)} (hpq : ∀ i x, p i = some x → q i = some x) : ∀ (l : List (Nat × Value)) (c r : List Value), afill p c l = some r → afill q c l = some r
 | [], c, r, h => by simp only [afill] at h ⊢; exact h
 | (i, v) :: l, c, r, h => by
   cases v <;> first | (simp only [afill] at h; cases h; done) | skip
   all_goals
     simp only [afill] at h ⊢
     split at h
     · cases h
     · rename_i off size hp
       rw [hpq _ _ hp]
       simp only
       split at h
       · first | exact afill_le hpq l _ r h | (rename_i hb; rw [hb]; exact afill_le hpq l _ r h)
       · cases h
theorem op_buildT {ps : Array (Nat × Operand)} {pv : List (Nat × Value)} {pl : List (Nat × Nat)} (hp : partsK l ps.toList = some pv) (hz : tzero M.P t = some u) (hpl : placesOf M.P t = some pl) (hg : gd u = true) (hf : forceO (afill (fun i => pl[i]?) u.cells.toList pv) = some cs) : Op1 M (.build t ps) l h (.agg ⟨cs⟩) h := by
 refine op_build hp ?_
 have hf := forceO_eq hf
 unfold placesOf at hpl
 unfold abuild
 split at hpl
 · rename_i fs hu
   simp only [hz, hg, hu, hpl, hf]
 · rename_i len e hu
   split at hpl
   · rename_i n hn
     cases hpl
     have := afill_le (q := fun i => some (i * n, n)) (fun i x hx => by
       rw [List.getElem?_map] at hx
       by_cases hi : i < len
       · simpa [List.getElem?_range hi] using hx
       · rw [List.getElem?_eq_none (by simpa using hi)] at hx; cases hx) _ _ _ hf
     simp only [hz, hg, hu, hn, this]
   · cases hpl
 · cases hpl
theorem At.bump {k : Nat} {o : AObj} (a : At h b o) : At { tr := h.tr, nx := h.nx + k } b o := ⟨Nat.lt_of_lt_of_le a.lt (Nat.le_add_right _ _), a.get⟩
theorem Grow.bump {g : H} (x : Grow g h) (k : Nat) : Grow g { tr := h.tr, nx := h.nx + k } :=
 ⟨Nat.le_trans x.nx (Nat.le_add_right _ _), x.get, fun w n hn => x.wf w n (Nat.le_trans (Nat.le_add_right _ _) hn)⟩
theorem At.lay {g : H} {o : AObj} (hlt : b < g.nx) : At (g.set b o) b o := ⟨hlt, by rw [H.get_set, if_pos rfl]⟩
theorem Sl.ofAt {G : Base} {cap : Nat} (hat : At h b (.cells c e es s)) (hl : c.length = n * es) (hc : n ≤ cap) : Sl G h es (.slice (some ⟨b, 0, some 0⟩) n cap) n c :=
 .mem _ _ _ _ hl hat.cells hc fun _ => ⟨c, e, s, hat.get⟩
def idxL : List (Nat × AObj) → Option (List Nat)
 | [] => some []
 | (j, _) :: as => match idxL as with | some l => some (j :: l) | none => none
theorem idxL_all {f : Nat → Bool} : ∀ {as : List (Nat × AObj)} {js : List Nat}, idxL as = some js → js.all f = true → (as.all fun q => f q.1) = true
 | [], _, _, _ => rfl
 | (j, o) :: as, js, h, hf => by
   simp only [idxL] at h
   split at h
   · rename_i l hl
     cases h
     simp only [List.all_cons, Bool.and_eq_true] at hf ⊢
     exact ⟨hf.1, idxL_all hl hf.2⟩
   · cases h
theorem bV_ {nx0 : Nat} {as : List (Nat × AObj)} : stOk nx0 as [] = true := rfl
theorem bE_ {nx0 : Nat} {as : List (Nat × AObj)} {sg : H} {sa : Nat} {sn : Option Nat} {st : List Stage} (h1 : (as.all fun q => sa.testBit q.1 || (sg.get (nx0 + q.1)).isNone) = true) (h2 : stOk nx0 as st = true) : stOk nx0 as (⟨sg, sa, sn⟩ :: st) = true := by
 unfold stOk at h2 ⊢
 simp only [List.all_cons, h1, h2, Bool.and_self]
theorem bW_ {as : List (Nat × AObj)} {js : List Nat} {g : H} {a nx0 : Nat} (hj : idxL as = some js) (h : (js.all fun j => a.testBit j) = true) : (as.all fun q => a.testBit q.1 || (g.get (nx0 + q.1)).isNone) = true := by
 have h := idxL_all hj h
 rw [List.all_eq_true] at h ⊢
 intro q hq
 rw [h q hq]; rfl
theorem stk_free {as : List (Nat × AObj)} {js : List Nat} {g hh : H} {a k : Nat} (hj : idxL as = some js) (hk : (js.all fun j => Nat.blt j k) = true) (hw : Wf hh) (hg : Grow { tr := hh.tr, nx := hh.nx + k } g) : (as.all fun q => a.testBit q.1 || (g.get (hh.nx + q.1)).isNone) = true := by
 have hk := idxL_all hj hk
 rw [List.all_eq_true] at hk ⊢
 intro q hq
 have hlt := hk q hq
 rw [blt_dec, decide_eq_true_eq] at hlt
 have : g.get (hh.nx + q.1) = none := by
   rw [hg.get _ (show hh.nx + q.1 < hh.nx + k by omega)]
   exact hw _ (Nat.le_add_right _ _)
 simp [this]
theorem addAs_none' {nx0 : Nat} {f : Nat → Bool} : ∀ {as : List (Nat × AObj)} {g : H}, (as.all fun p => !f p.1) = true → addAs nx0 f as g = g
 | [], g, _ => rfl
 | (j, o) :: as, g, h => by
   simp only [List.all_cons, Bool.and_eq_true, Bool.not_eq_true'] at h
   simp only [addAs, h.1]
   exact addAs_none' h.2
theorem addAs_none {nx0 : Nat} {f : Nat → Bool} {as : List (Nat × AObj)} {js : List Nat} {g : H} (hj : idxL as = some js) (h : (js.all fun j => !f j) = true) : addAs nx0 f as g = g := addAs_none' (idxL_all hj h)
theorem addAs_one {nx0 j : Nat} {f : Nat → Bool} {o : AObj} {g : H} (h : f j = true) : addAs nx0 f [(j, o)] g = g.set (nx0 + j) o := by simp only [addAs, h]
section
variable {ops : Array Oper} {rest : List Oper} {ms ix js : List Nat} {nx0 sz i m abs j : Nat} {g g1 : H} {R : KL → H → Prop} {es' : List Nat} {as : List (Nat × AObj)} {sts : List Stage} {obs : List OB} {o : Oper} {d : Nat} {ob : AObj}
theorem bi_ {op : Op} {st : List Stage} (h : OblS M nx0 as op l v m i st) : OblS M nx0 as op l v m i st := h
theorem ck_ {f : (Nat × AObj) → Bool} (h : as.all f = true) : as.all f = true := h
theorem am_ {op : Op} {sg : H} {sa : Nat} {sn : Option Nat} {st : List Stage} (hj : idxL as = some js) (hn : (js.all fun j => !unseen m sa j) = true) (h : Op1q M op l sg v) (hr : OblS M nx0 as op l v m i st) : OblS M nx0 as op l v m i (⟨sg, sa, sn⟩ :: st) := obs_chk (addAs_none hj hn) h hr
theorem bU_ (ho : OblL M nx0 as (⟨g, abs, none⟩ :: sts) obs) (hs : stOk nx0 as (⟨g, abs, none⟩ :: sts) = true) (hj : idxL as = some js) (hn : (js.all fun j => !(!abs.testBit j)) = true) (hr : R l g) : WX M ops nx0 sz R [] ms ix l g abs es' as sts obs :=
 wx_nil ho hs (addAs_none hj hn) hr
theorem wx_e1 (hw : Wt ops o sz l true) (hc : cls M.P o.op = .e) (hes : ((es'.all fun x => m.testBit x) && Nat.beq (m ||| abs) m) = true) (hn : unseen m abs j = true) (hop : Op1 M o.op l (g.set (nx0 + j) ob) v g1) (hdo : o.dst = some d) (hd : Nat.blt d sz = true)
   (next : WX M ops nx0 sz R rest ms ix ((d, v) :: l) g1 m (i :: es') [(j, ob)] (⟨g, abs, some i⟩ :: sts) obs) : WX M ops nx0 sz R (o :: rest) (m :: ms) (i :: ix) l g abs es' [(j, ob)] sts obs := wx_e hw hc hes (addAs_one hn) hop hdo hd next
theorem wx_e0n (hw : Wt ops o sz l true) (hc : cls M.P o.op = .e) (hes : ((es'.all fun x => m.testBit x) && Nat.beq (m ||| abs) m) = true) (hj : idxL as = some js) (hn : (js.all fun j => !unseen m abs j) = true) (hop : Op1 M o.op l g v g1) (hdo : o.dst = none)
   (next : WX M ops nx0 sz R rest ms ix l g1 m (i :: es') as (⟨g, abs, some i⟩ :: sts) obs) : WX M ops nx0 sz R (o :: rest) (m :: ms) (i :: ix) l g abs es' as sts obs := wx_e0 hw hc hes (addAs_none hj hn) hop hdo next
theorem wx_e01 (hw : Wt ops o sz l true) (hc : cls M.P o.op = .e) (hes : ((es'.all fun x => m.testBit x) && Nat.beq (m ||| abs) m) = true) (hn : unseen m abs j = true) (hop : Op1 M o.op l (g.set (nx0 + j) ob) v g1) (hdo : o.dst = none)
   (next : WX M ops nx0 sz R rest ms ix l g1 m (i :: es') [(j, ob)] (⟨g, abs, some i⟩ :: sts) obs) : WX M ops nx0 sz R (o :: rest) (m :: ms) (i :: ix) l g abs es' [(j, ob)] sts obs := wx_e0 hw hc hes (addAs_one hn) hop hdo next
end
end
end Go.Ab
/- Floating point in the logic. -/
namespace Go.Fl
open Ieee
end Go.Fl
namespace Go.Ab
open Go Ieee
section
variable {M : Mc} {l : KL} {h h' : H} {v u : Value} {x y z : Operand} {t ty s d : TypeId} {a b c : Nat} {k : FloatKind}
theorem prun_under {P : Program} {α : Type} {td : TypeDesc} (hu : P.underlying t = some td) (f : TypeDesc → Sem α) : prun P (do f (← underlying t)) = prun P (f td) := by
 simp [underlying, prun, hu, bind, Sem.bind, program]; rfl
end
end Go.Ab
/- Equality of plain values, as the machine finds it. -/
namespace Go.Ab
open Go
theorem cA_ {P : Program} {α β : Type} : ∀ (s : Sem α) (f : α → Sem β), prun P (s >>= f) = (prun P s).bind fun a => prun P (f a) := by
 intro s f
 show prun P (s.bind f) = _
 induction s with
 | pure a => rfl
 | program k ih => simp only [Sem.bind, prun]; exact ih P
 | mark m k ih => simp only [Sem.bind, prun]; exact ih
 | _ => simp [Sem.bind, prun]
theorem prun_map {P : Program} {α β : Type} (s : Sem α) (f : α → β) : prun P (Functor.map f s) = (prun P s).map f := by
 show prun P (s >>= fun a => pure (f a)) = _
 rw [cA_]
 cases prun P s <;> rfl
theorem prun_forIn {P : Program} {α σ : Type} (f : α → σ → Sem (ForInStep σ)) : ∀ (l : List α) (b : σ), prun P (forIn l b f) = forIn l b (fun a s => prun P (f a s))
 | [], b => rfl
 | a :: l, b => by
   simp only [List.forIn_cons, cA_]
   cases h : prun P (f a b) with
   | none => rfl
   | some s =>
     cases s with
     | done b => rfl
     | «yield» b => exact prun_forIn f l b
theorem prun_isAgg {P : Program} {t : TypeId} {d : TypeDesc} (hu : P.underlying t = some d) : prun P (isAgg t) = some (isAggD d) := by
 unfold isAgg
 rw [prun_under hu]
 cases d <;> rfl
theorem prun_sizeOf {P : Program} {t : TypeId} {n : Nat} (hn : tsz P t = some n) : prun P (sizeOf t) = some n := by
 unfold tsz at hn
 split at hn
 · rename_i i hi
   cases hn
   simp only [sizeOf, typeInfo, cA_]
   show Option.bind (Option.bind (prun P program) _) _ = _
   simp only [program, prun, Option.bind_some, hi]
   rfl
 · cases hn
theorem prun_part {P : Program} {t : TypeId} {d : TypeDesc} {n off : Nat} {cs : List Value} (hu : P.underlying t = some d) (hn : tsz P t = some n) (hone : isAggD d = false → n = 1) (hl : off + n ≤ cs.length) :
   prun P (part t ⟨cs⟩ off) = some (if isAggD d then .agg ⟨(cs.drop off).take n⟩ else (cs[off]?).getD undef) := by
 unfold part
 rw [cA_, prun_isAgg hu]
 simp only [Option.bind_some]
 cases hd : isAggD d with
 | true =>
   simp only [if_true, cA_, prun_sizeOf hn, Option.bind_some]
   show some _ = some _
   congr 2
   apply Array.ext'
   simp [Array.toList_extract, List.extract_eq_drop_take']
 | false =>
   have := hone hd
   simp only [Bool.false_eq_true, if_false]
   obtain ⟨v, hv⟩ : ∃ v, cs[off]? = some v := ⟨_, List.getElem?_eq_getElem (by omega)⟩
   have hv' : (⟨cs⟩ : Array Value)[off]? = some v := by simpa using hv
   rw [hv', hv]
   rfl
def chunk (P : Program) (t : TypeId) (off : Nat) (xs : List Value) : Option (List Value) :=
 match P.underlying t, tsz P t with
 | some d, some n => match (isAggD d || Nat.beq n 1) && Nat.ble (off + n) xs.length with
   | true => some ((xs.drop off).take n)
   | false => none
 | _, _ => none
def valT (P : Program) (t : TypeId) (xs : List Value) : Value :=
 match P.underlying t with
 | some d => match isAggD d with
   | true => .agg ⟨xs⟩
   | false => (xs[0]?).getD undef
 | none => undef
def eqFs (P : Program) (rec : TypeId → List Value → List Value → Option Bool) (xs ys : List Value) : List Field → Option Bool
 | [] => some true
 | f :: fs => match f.name != "_", chunk P f.type f.offset xs, chunk P f.type f.offset ys with
   | true, some a, some b => match rec f.type a b, eqFs P rec xs ys fs with
     | some p, some q => some (p && q)
     | _, _ => none
   | _, _, _ => none
def eqIs (P : Program) (rec : TypeId → List Value → List Value → Option Bool) (e : TypeId) (m : Nat) (xs ys : List Value) : List Nat → Option Bool
 | [] => some true
 | i :: is => match chunk P e (i * m) xs, chunk P e (i * m) ys with
   | some a, some b => match rec e a b, eqIs P rec e m xs ys is with
     | some p, some q => some (p && q)
     | _, _ => none
   | _, _ => none
def eqV (P : Program) : Nat → TypeId → List Value → List Value → Option Bool
 | 0, _, _, _ => none
 | n + 1, t, xs, ys => match P.underlying t, xs, ys with
   | some .bool, [.bool a], [.bool b] => some (a == b)
   | some (.int _), [.int j a], [.int k b] => if j = k then some (decide (a = b)) else none
   | some .string, [.string a], [.string b] => some (decide (a = b))
   | some (.array len e), xs, ys => match tsz P e with
     | some m => eqIs P (eqV P n) e m xs ys (List.range' 0 len)
     | none => none
   | some (.struct fs), xs, ys => match P.stoodInHeld t with
     | false => eqFs P (eqV P n) xs ys fs.toList
     | true => none
   | _, _, _ => none
theorem part_chunk {P : Program} {t : TypeId} {off : Nat} {cs l : List Value} (h : chunk P t off cs = some l) : prun P (part t ⟨cs⟩ off) = some (valT P t l) := by
 unfold chunk at h
 split at h
 · rename_i d n hu hn
   split at h
   · rename_i hb
     cases h
     simp only [Bool.and_eq_true, Bool.or_eq_true] at hb
     have hle := Nat.le_of_ble_eq_true hb.2
     have hone : isAggD d = false → n = 1 := fun q => by
       rcases hb.1 with h1 | h1
       · rw [h1] at q; cases q
       · exact Nat.eq_of_beq_eq_true h1
     rw [prun_part hu hn hone hle]
     unfold valT
     rw [hu]
     simp only
     cases hd : isAggD d with
     | true => rfl
     | false =>
       have := hone hd
       subst this
       simp [List.getElem?_take, List.getElem?_drop]
   · cases h
 · cases h
theorem ba_eq (a b : ByteArray) : (a == b) = decide (a = b) := by
 show (a.data == b.data) = _
 by_cases h : a = b
 · subst h; simp
 · rw [decide_eq_false h]
   exact beq_eq_false_iff_ne.2 fun q => h (ByteArray.ext q)
theorem eqV_ok {P : Program} : ∀ (n d : Nat) (t : TypeId) (xs ys : List Value) (r : Bool), eqV P n t xs ys = some r → prun P (Op.equalIn (d + n) t (valT P t xs) (valT P t ys)) = some r
 | 0, _, _, _, _, _, h => by simp [eqV] at h
 | n + 1, d, t, xs, ys, r, h => by
   have ih := eqV_ok (P := P) n d
   rw [← Nat.add_assoc]
   simp only [eqV] at h
   split at h
   · rename_i hu
     cases h
     simp only [valT, hu, isAggD]
     unfold Op.equalIn; rw [prun_under hu]; rfl
   · rename_i k j a j' b hu
     split at h
     · rename_i hjk
       cases h
       simp only [valT, hu, isAggD]
       unfold Op.equalIn; rw [prun_under hu]
       show prun P (if j = j' then pure (a == b) else stuck _) = _
       rw [if_pos hjk]
       rfl
     · cases h
   · rename_i a b hu
     cases h
     simp only [valT, hu, isAggD]
     unfold Op.equalIn; rw [prun_under hu]
     show some (a == b) = _
     rw [ba_eq]
   · rename_i xs ys _ _ _ len e hu
     split at h
     · rename_i m hm
       simp only [valT, hu, isAggD]
       unfold Op.equalIn
       rw [prun_under hu]
       simp only [cA_, prun, Option.bind_some, prun_sizeOf hm, Std.Legacy.Range.forIn_eq_forIn_range', prun_forIn]
       have key : ∀ (is : List Nat) (r : Bool), eqIs P (eqV P n) e m xs ys is = some r →
           (forIn is ((none, ()) : Option Bool × Unit) fun a s => (prun P (part e ⟨xs⟩ (a * m))).bind fun a_1 => (prun P (part e ⟨ys⟩ (a * m))).bind fun a => (prun P (Op.equalIn (d + n) e a_1 a)).bind fun a => prun P (if (!a) = true then pure (ForInStep.done (some false, ())) else pure (ForInStep.yield (none, ())))) = some (if r then (none, ()) else (some false, ())) := by
         intro is
         induction is with
         | nil => intro r h; simp only [eqIs] at h; cases h; rfl
         | cons i is ihs =>
           intro r h
           simp only [eqIs] at h
           split at h
           · rename_i a b ha hb
             split at h
             · rename_i p q hp hq
               cases h
               have h1 := part_chunk ha
               have h2 := part_chunk hb
               have h3 := ih e a b p hp
               have h4 := ihs q hq
               simp only [List.forIn_cons, h1, h2, h3, Option.bind_some]
               cases p with
               | true => simp only [Bool.not_true, Bool.false_eq_true, if_false, Bool.true_and]; exact h4
               | false => simp only [Bool.not_false, if_true, Bool.false_and]; rfl
             · cases h
           · cases h
       have hsz : List.range' 0 ([:len] : Std.Legacy.Range).size = List.range' 0 len := by simp [Std.Legacy.Range.size]
       rw [hsz]
       rw [key _ r h]
       cases r <;> rfl
     · cases h
   · rename_i xs ys _ _ _ fs hu
     split at h
     · rename_i hs
       simp only [valT, hu, isAggD]
       unfold Op.equalIn
       rw [prun_under hu]
       simp only [cA_, program, prun, hs, Option.bind_some, Bool.false_eq_true, if_false, ← Array.forIn_toList, prun_forIn]
       have key : ∀ (l : List Field) (r : Bool), eqFs P (eqV P n) xs ys l = some r →
           (forIn l ((none, ()) : Option Bool × Unit) fun a s => prun P (if a.name ≠ "_" then do
             let x ← part a.type ⟨xs⟩ a.offset
             let y ← part a.type ⟨ys⟩ a.offset
             let z ← Op.equalIn (d + n) a.type x y
             if (!z) = true then pure (ForInStep.done (some false, ())) else pure (ForInStep.yield (none, ()))
           else pure (ForInStep.yield (none, ())))) = some (if r then (none, ()) else (some false, ())) := by
         intro l
         induction l with
         | nil => intro r h; simp only [eqFs] at h; cases h; rfl
         | cons f l ihs =>
           intro r h
           simp only [eqFs] at h
           split at h
           · rename_i a b hn ha hb
             split at h
             · rename_i p q hp hq
               cases h
               have h1 := part_chunk ha
               have h2 := part_chunk hb
               have h3 := ih f.type a b p hp
               have h4 := ihs q hq
               have hne : f.name ≠ "_" := by simpa using hn
               simp only [List.forIn_cons, if_pos hne, cA_, h1, h2, h3, Option.bind_some]
               cases p with
               | true => simp only [Bool.not_true, Bool.false_eq_true, if_false, Bool.true_and]; exact h4
               | false => simp only [Bool.not_false, if_true, Bool.false_and]; rfl
             · cases h
           · cases h
       rw [key _ r h]
       cases r <;> rfl
     · cases h
   · cases h
section
variable {M : Mc} {l : KL} {h : H} {x y : Operand} {t ty : TypeId} {xs ys : List Value} {r : Bool}
theorem prun_equal {P : Program} {d : TypeDesc} {n : Nat} (hn : n ≤ 10000) (hu : P.underlying t = some d) (hd : isAggD d = true) (hr : eqV P n t xs ys = some r) : prun P (Op.equal t (.agg ⟨xs⟩) (.agg ⟨ys⟩)) = some r := by
 have := eqV_ok (P := P) n (10000 - n) t xs ys r hr
 rw [show 10000 - n + n = 10000 by omega] at this
 simp only [valT, hu, hd] at this
 exact this
theorem op_eqT {d : TypeDesc} (n : Nat) (hx : val l x = some (.agg ⟨xs⟩)) (hy : val l y = some (.agg ⟨ys⟩)) (hg : (gd (.agg ⟨xs⟩) && gd (.agg ⟨ys⟩) && Nat.ble n 10000) = true) (hu : M.P.underlying t = some d) (hd : isAggD d = true) (hq : M.P.eqGuardType M.P.depth t = false) (hr : eqV M.P n t xs ys = some r) : Op1 M (.binOp .eql t x y ty) l h (.bool r) h := by
 simp only [Bool.and_eq_true] at hg
 have he := prun_equal (Nat.le_of_ble_eq_true hg.2) hu hd hr
 refine op_bin hx hy hg.1.1 hg.1.2 ?_ rfl
 simp [eqGuard, binOp, cA_, program, prun, hq, he, prun_map]
 rfl
theorem op_neT {d : TypeDesc} (n : Nat) (hx : val l x = some (.agg ⟨xs⟩)) (hy : val l y = some (.agg ⟨ys⟩)) (hg : (gd (.agg ⟨xs⟩) && gd (.agg ⟨ys⟩) && Nat.ble n 10000) = true) (hu : M.P.underlying t = some d) (hd : isAggD d = true) (hq : M.P.eqGuardType M.P.depth t = false) (hr : eqV M.P n t xs ys = some r) : Op1 M (.binOp .neq t x y ty) l h (.bool (!r)) h := by
 simp only [Bool.and_eq_true] at hg
 have he := prun_equal (Nat.le_of_ble_eq_true hg.2) hu hd hr
 refine op_bin hx hy hg.1.1 hg.1.2 ?_ rfl
 simp [eqGuard, binOp, cA_, program, prun, hq, he, prun_map]
 rfl
end
/- Slices: elements, growing, parts. -/
section
variable {M : Mc} {l : KL} {h h' : H} {v u : Value} {x y z : Operand} {t ty : TypeId} {b off es : Nat} {c cs vs : List Value} {e : TypeId} {s : Bool} {dd : TypeDesc} {n : Nat}
theorem op_idxSl {sp : Option Nat} {cap : Nat} {i : Int} {k : IntKind} {o : Nat} (hx : val l x = some (.slice (some ⟨b, off, sp⟩) n cap)) (hy : val l y = some (.int k i)) (hu : M.P.underlying t = some (.slice e)) (hn : tsz M.P e = some es) (h0 : 0 ≤ i) (h1 : i < n) (ho : off + i.toNat * es = o) :
   Op1 M (.indexAddr t x y) l h (.pointer (some ⟨b, o, sp⟩)) h :=
 ag_ hx hy (by subst ho; simp only [aindexAddr, asInt?, hu, hn, decide_eq_true (And.intro h0 h1)]; rfl)
theorem take_set {α : Type} : ∀ (c : List α) (o : Nat) (u : α), o < c.length → c.take o ++ (u :: c.drop (o + 1)) = c.set o u
 | [], o, u, h => by simp at h
 | a :: c, 0, u, h => by simp
 | a :: c, o + 1, u, h => by simp [take_set c o u (by simpa using h)]
theorem bA_ {o : Nat} (hx : val l x = some (.pointer (some ⟨b, o, some 0⟩))) (hy : val l y = some u) (hat : At h b (.cells c e es s)) (hp : scalV u = true) (hn : tsz M.P t = some 1) (hlt : o < c.length) (hone : one u = true) (hc : c.set o u = cs) : Op1 M (.store t x y) l h undef (h.set b (.cells cs e es s)) := by
 refine op_st1 hx hy hat hp hn (by rw [blt_dec, decide_eq_true hlt]) hone ?_
 rw [take_set c o u hlt, hc]
 have : ∀ l : List Value, forceL l = some l := by
   intro l
   induction l with
   | nil => rfl
   | cons a l ih => simp only [forceL, ih]
 exact this cs
theorem repeatCells_one (v : Value) : ∀ n, repeatCells n [v] = List.replicate n v
 | 0 => rfl
 | n + 1 => by simp only [repeatCells, repeatCells_one v n]; rfl
theorem op_mkSl {k : IntKind} {by' : Nat} {z' : Value} (hx : val l x = some (.int k n)) (hy : val l y = some (.int k n)) (hu : M.P.underlying t = some (.slice e)) (hn : tsz M.P e = some 1) (hb : tby M.P e = some by') (hz : tzero M.P e = some z') (hg : (gd z' && scalV z') = true) (hle : n * by' ≤ 70368744177664) (hle' : n ≤ 70368744177664) :
   Op1 M (.makeSlice t x y) l h (.slice (some ⟨h.nx, 0, some 0⟩) n n) (h.push (.cells (List.replicate n z') e 1 false)) := by
 simp only [Bool.and_eq_true] at hg
 have hc : z'.cells = #[z'] := by cases z' <;> first | rfl | (simp [scalV] at hg)
 have hsz : z'.cells.size = 1 := by rw [hc]; rfl
 have hcl : z'.cells.toList = [z'] := by rw [hc]
 refine op_makeSlice hx hy ?_
 unfold amakeSlice
 have hd : decide ((0 : Int) ≤ (n : Int) ∧ (n : Int) ≤ n ∧ (n : Int) ≤ 70368744177664 ∧ (by' : Int) * n ≤ 140737488355328) = true := by
   refine decide_eq_true ⟨by omega, by omega, by omega, ?_⟩
   rw [Int.mul_comm]
   have h1 : ((n * by' : Nat) : Int) ≤ ((70368744177664 : Nat) : Int) := Int.ofNat_le.2 hle
   rw [Int.natCast_mul] at h1
   omega
 simp only [hu, hn, hb, hz, hg.1, hsz, bC_, hd, Bool.and_self, Int.toNat_natCast, hcl, repeatCells_one]
structure Ow (g h : H) (e : TypeId) (es : Nat) (v : Value) (n : Nat) (c : List Value) : Prop where
 grow : Grow g h
 len : c.length = n * es
 form : (v = .slice none 0 0 ∧ n = 0) ∨ ∃ b, g.nx ≤ b ∧ v = .slice (some ⟨b, 0, some 0⟩) n n ∧ At h b (.cells c e es true)
theorem Ow.nil {g h : H} {e : TypeId} {es : Nat} (x : Grow g h) : Ow g h e es (.slice none 0 0) 0 [] := ⟨x, by simp, .inl ⟨rfl, rfl⟩⟩
theorem Ow.sl {G : Base} {g h : H} (w : Ow g h e es v n c) : Sl G h es v n c := by
 rcases w.form with ⟨rfl, rfl⟩ | ⟨b, _, rfl, hat⟩
 · have : c = [] := by have := w.len; simpa using this
   subst this; exact .nil
 · exact .ofAt hat w.len (Nat.le_refl _)
theorem Ow.next {g h h' : H} (w : Ow g h e es v n c) (x : Grow h h') : Ow g h' e es v n c :=
 ⟨w.grow.trans x, w.len, w.form.imp id fun ⟨b, h1, h2, h3⟩ => ⟨b, h1, h2, h3.grow x⟩⟩
theorem Wf.kill {h : H} (w : Wf h) (b : Nat) : Wf (h.kill b) := by
 intro n hn
 rw [H.nx_kill] at hn
 rw [H.get_kill]
 split
 · rfl
 · exact w n hn
theorem op_ldIdx {o : Nat} (hx : val l x = some (.pointer (some ⟨b, o, some 0⟩))) (hat : At h b (.cells c e es s)) (hu : M.P.underlying t = some dd) (hd : isAggD dd = false) (hc : c[o]? = some v) : Op1 M (.load t x) l h v h := ae_ hx hat hu hd hc
theorem get_map_int {k : IntKind} {l : List Int} {o : Nat} (h : o < l.length) : (l.map (Value.int k))[o]? = some (.int k (l.getD o 0)) := by
 simp [List.getElem?_map, List.getElem?_eq_getElem h, List.getD]
end
theorem wc_cut {M : Mc} {ro : Option Nat} {c : Code} {sz : Nat} {l : KL} {h : H} {Q : X → KL → H → Prop} {ι : Type} (L : ι → KL) (I : ι → H → Prop) (i : ι) (hl : ∀ t v, lk (L i) t = some v → lk l t = some v) (hi : I i h) (rest : ∀ i h, I i h → Wc M ro c sz (L i) h Q) : Wc M ro c sz l h Q := wc_less hl (rest i h hi)
theorem Wf.bump {h : H} (w : Wf h) (k : Nat) : Wf { tr := h.tr, nx := h.nx + k } := fun n hn => w n (Nat.le_trans (Nat.le_add_right _ _) hn)
/- A copy: appended to an empty list of its own. -/
section
variable {M : Mc} {h : H} {e : TypeId} {es n : Nat} {dd : TypeDesc}
theorem append_copy {B : Nat} {st xt : TypeId} {by' m : Nat} {z' w : Value} {new : List Value} (hu : M.P.underlying st = some (.slice e)) (hxu : M.P.underlying xt = some dd) (hdd : (match dd with | .int _ => false | _ => true) = true) (hs : tsz M.P e = some es) (hb : tby M.P e = some by') (hz : tzero M.P e = some z')
   (hg : (gd z' && Nat.beq z'.cells.size es && !(Nat.beq es 0) && !(Nat.beq by' 0)) = true) (hat : At h B (.cells [] e es false)) (sl : Sl M.G h es w m new) (hone : new.all one = true) (hle : m * by' ≤ 70368744177664) :
   ∃ r h', aappend M.P M.G h st xt (.slice (some ⟨B, 0, some 0⟩) 0 0) w = some (r, h') ∧ Sl M.G h' es r m new ∧ Grow h h' ∧ (Wf h → Wf h') := by
 simp only [Bool.and_eq_true] at hg
 obtain ⟨⟨⟨g1, g2⟩, g3⟩, g4⟩ := hg
 have hlen := sl.length
 obtain ⟨wa, wc, rfl⟩ := sl.form
 have hf := sl.first
 have han : anews M.P M.G h xt es z'.cells.toList (.slice wa m wc) = some (m, new) := by
   unfold anews
   rw [hxu]
   cases dd <;> first | (simp at hdd; done) | simp only [alen, hf]
 have hle' : (0 + m) * by' ≤ 70368744177664 := by rw [Nat.zero_add]; exact hle
 have hcond : (gd z' && Nat.beq z'.cells.size es && !(Nat.beq es 0) && !(Nat.beq by' 0) && Nat.ble ((0 + m) * by') 70368744177664 && new.all one && Nat.beq new.length (m * es)) = true := by
   simp only [g1, g2, g3, g4, hone, hlen, bC_, cD_, decide_eq_true hle', Bool.and_self]
 by_cases hm : m = 0
 · subst hm
   have hn0 : new = [] := by simpa using hlen
   subst hn0
   refine ⟨.slice (some ⟨B, 0, some 0⟩) 0 0, h, ?_, Sl.ofAt hat (by simp) (Nat.le_refl _), .refl _, id⟩
   unfold aappend
   have hb0 : Nat.ble (0 + 0) 0 = true := rfl
   simp only [hu, hs, hb, hz, han, hcond, hb0]
   try rfl
 · refine ⟨.slice (some ⟨h.nx, 0, some 0⟩) m m, h.push (.cells new e es true), ?_, Sl.ofAt (At.new _ _) hlen (Nat.le_refl _), (Grow.refl _).push _, fun w => w.push _⟩
   unfold aappend
   have hb0 : Nat.ble (0 + m) 0 = false := by rw [cD_]; simp; omega
   have hfo : afirst M.G h es 0 (.slice (some ⟨B, 0, some 0⟩) 0 0) = some [] := (Sl.ofAt (G := M.G) hat (by simp) (Nat.le_refl _)).first
   simp only [hu, hs, hb, hz, han, hcond, hb0, hfo]
   unfold agrow
   have hl2 : ([] ++ new).length = (0 + m) * es := by simpa using hlen
   simp only [hl2, bC_, hat.get, Bool.false_and, List.nil_append, Nat.zero_add, hlen]
end
theorem wc_join {M : Mc} {ro : Option Nat} {a b : Code} {sz : Nat} {l : KL} {h : H} {Q : X → KL → H → Prop} {ι : Type} (L : ι → KL) (I : ι → H → Prop) (hA : Wc M ro a sz l h (fun x l' h' => x = .norm ∧ ∃ i, (∀ t v, lk (L i) t = some v → lk l' t = some v) ∧ I i h')) (hB : ∀ i h, I i h → Wc M ro b sz (L i) h Q) : Wc M ro a sz l h (SeqQ M ro b sz Q) :=
 wc_mono hA fun x l' h' ⟨e, i, hl, hi⟩ => by
   subst e
   exact sq_norm (wc_less hl (hB i h' hi))
theorem bq_ {M : Mc} {ro : Option Nat} {a b : Code} {sz : Nat} {l : KL} {h : H} {Q : X → KL → H → Prop} {ι : Type} (L : ι → KL) (I : ι → H → Prop) (hA : Wc M ro a sz l h (fun x l' h' => x = .norm ∧ ∃ i, (∀ t v, lk (L i) t = some v → lk l' t = some v) ∧ I i h')) (hB : ∀ i h, I i h → Wc M ro b sz (L i) h Q) : Wc M ro (a.seq b) sz l h Q :=
 wc_seq (wc_join L I hA hB)
/- The logic: ranges over functions. -/
def putK : KL → List Tmp → List Value → Option KL
 | l, [], [] => some l
 | l, t :: ts, v :: vs => putK ((t, v) :: l) ts vs
 | _, _, _ => none
def okTs (sz : Nat) (ts : List Tmp) : Bool := ts.all fun t => Nat.blt t sz
theorem putAll_ok {sz : Nat} : ∀ {ts : List Tmp} {vs : List Value} {l l' : KL} {e : Env}, Has sz l e → okTs sz ts = true → putK l ts vs = some l' → ∃ e', putAll e ts vs = some e' ∧ Has sz l' e'
 | [], [], l, l', e, he, _, h => by
   simp only [putK] at h; cases h
   exact ⟨e, rfl, he⟩
 | t :: ts, v :: vs, l, l', e, he, ho, h => by
   simp only [okTs, List.all_cons, Bool.and_eq_true] at ho
   obtain ⟨e1, p1, h1⟩ := he.put ho.1 v
   simp only [putK] at h
   obtain ⟨e2, p2, h2⟩ := putAll_ok h1 ho.2 h
   exact ⟨e2, by simp only [putAll, p1, p2], h2⟩
 | [], _ :: _, _, _, _, _, _, h => by simp [putK] at h
 | _ :: _, [], _, _, _, _, _, h => by simp [putK] at h
def RndQ (n : Nat) (Q : Value → H → Prop) (x : X) (h3 : H) : Prop :=
 ∃ st pd env ps assign body, h3.get n = some (.loop st pd env ps assign body) ∧ (match x with
   | .norm => Q (.bool true) (h3.set n (.loop .ready none env ps assign body))
   | .exit id => Q (.bool false) (h3.set n (.loop .done (some (.exit id)) env ps assign body))
   | .ret => Q (.bool false) (h3.set n (.loop .done (some .ret) env ps assign body)))
theorem cf_round {M : Mc} {n sz : Nat} {st : LoopState} {pd : Option Code} {e : Env} {ps : Array Tmp} {assign body : Code} {l l1 : KL} {args : List Value} {h : H} {Q : Value → H → Prop}
   (hg : h.get n = some (.loop st pd e ps assign body)) (he : Has sz l e) (hp : okTs sz ps.toList = true) (hk : putK l ps.toList args = some l1)
   (w : Wc M (some n) assign sz l1 h fun x l2 h2 => x = .norm ∧ ∃ pd2 e2 ps2 as2 bd2, h2.get n = some (.loop .ready pd2 e2 ps2 as2 bd2) ∧
     Wc M (some n) body sz l2 (h2.set n (.loop .busy pd2 e2 ps2 as2 bd2)) fun x _ h3 => RndQ n Q x h3) : Cf M (.func (.yield n) #[] #[]) args h Q := by
 obtain ⟨e1, p1, h1⟩ := putAll_ok he hp hk
 obtain ⟨x, e2, h2, l2, ⟨n1, q1⟩, q2, rfl, pd2, e2', ps2, as2, bd2, g2, w2⟩ := w e1 h1
 obtain ⟨x3, e3, h3, l3, ⟨n3, q3⟩, _, st4, pd4, e4, ps4, as4, bd4, g4, q4⟩ := w2 e2 q2
 have key : ∀ (v : Value) (hf : H), (∀ r, ∀ k, max n1 n3 ≤ k → r = ev M.P M.G M.E k → evRound M.P M.G r n args h = some (v, hf)) → Cl M (.func (.yield n) #[] #[]) args h v hf := fun v hf q => ⟨max n1 n3 + 1, fun m hm => by
   obtain ⟨m, rfl⟩ : ∃ k, m = k + 1 := ⟨m - 1, by omega⟩
   simp only [ev, evCall]
   exact q _ m (by omega) rfl⟩
 cases x3 with
 | norm =>
   refine ⟨_, _, key _ _ fun r k hk hr => ?_, q4⟩
   subst hr
   simp only [evRound, hg, p1, q1 k (by omega), g2, q3 k (by omega), g4]
 | exit i =>
   refine ⟨_, _, key _ _ fun r k hk hr => ?_, q4⟩
   subst hr
   simp only [evRound, hg, p1, q1 k (by omega), g2, q3 k (by omega), g4]
 | ret =>
   refine ⟨_, _, key _ _ fun r k hk hr => ?_, q4⟩
   subst hr
   simp only [evRound, hg, p1, q1 k (by omega), g2, q3 k (by omega), g4]
def RfQ (n : Nat) (l : KL) (Q : X → KL → H → Prop) (h2 : H) : Prop :=
 ∃ st pd env ps assign body, h2.get n = some (.loop st pd env ps assign body) ∧ st ≠ .busy ∧ (match pd with
   | none => Q .norm l (h2.kill n)
   | some (.exit id) => Q (.exit id) l (h2.kill n)
   | some .ret => Q .ret l (h2.kill n)
   | _ => False)
theorem wc_rangeFunc {M : Mc} {f : Operand} {ps : Array Tmp} {assign body : Code} {sz : Nat} {l : KL} {h : H} {Q : X → KL → H → Prop} {fv : Value} (hf : val l f = some fv)
   (w : ∀ e, Has sz l e → Cf M fv [.func (.yield h.nx) #[] #[]] (h.push (.loop .ready none e ps assign body)) fun _ h2 => RfQ h.nx l Q h2) : Wc M none (.rangeFunc f ps assign body) sz l h Q := by
 intro e he
 obtain ⟨v, h2, ⟨n, q⟩, st, pd, env, ps2, as2, bd2, g, hst, hq⟩ := w e he
 have hfe : aeval e f = fv := (he.sees (.move f)).val (by simp [Op.operands]) hf
 cases pd with
 | none => exact ⟨.norm, e, _, l, ⟨n, fun k hk => by
     have hc := q k hk
     simp only [evC, hfe, hc, g]⟩, he, hq⟩
 | some c =>
   cases c with
   | exit id => exact ⟨.exit id, e, _, l, ⟨n, fun k hk => by
     have hc := q k hk
     simp only [evC, hfe, hc, g]⟩, he, hq⟩
   | ret => exact ⟨.ret, e, _, l, ⟨n, fun k hk => by
     have hc := q k hk
     simp only [evC, hfe, hc, g]⟩, he, hq⟩
   | _ => exact hq.elim
section
variable {M : Mc} {h : H} {e : TypeId} {es n : Nat} {dd : TypeDesc}
theorem append_copy2 {B : Nat} {st xt : TypeId} {by' m : Nat} {z' w : Value} {new : List Value} (hu : M.P.underlying st = some (.slice e)) (hxu : M.P.underlying xt = some dd) (hdd : (match dd with | .int _ => false | _ => true) = true) (hs : tsz M.P e = some es) (hb : tby M.P e = some by') (hz : tzero M.P e = some z')
   (hg : (gd z' && Nat.beq z'.cells.size es && !(Nat.beq es 0) && !(Nat.beq by' 0)) = true) (hat : At h B (.cells [] e es false)) (sl : Sl M.G h es w m new) (hone : new.all one = true) (hle : m * by' ≤ 70368744177664) :
   ∃ r h', aappend M.P M.G h st xt (.slice (some ⟨B, 0, some 0⟩) 0 0) w = some (r, h') ∧ (∃ b sf, r = .slice (some ⟨b, 0, some 0⟩) m m ∧ B ≤ b ∧ At h' b (.cells new e es sf)) ∧ Grow h h' ∧ (Wf h → Wf h') := by
 simp only [Bool.and_eq_true] at hg
 obtain ⟨⟨⟨g1, g2⟩, g3⟩, g4⟩ := hg
 have hlen := sl.length
 obtain ⟨wa, wc, rfl⟩ := sl.form
 have hf := sl.first
 have han : anews M.P M.G h xt es z'.cells.toList (.slice wa m wc) = some (m, new) := by
   unfold anews
   rw [hxu]
   cases dd <;> first | (simp at hdd; done) | simp only [alen, hf]
 have hle' : (0 + m) * by' ≤ 70368744177664 := by rw [Nat.zero_add]; exact hle
 have hcond : (gd z' && Nat.beq z'.cells.size es && !(Nat.beq es 0) && !(Nat.beq by' 0) && Nat.ble ((0 + m) * by') 70368744177664 && new.all one && Nat.beq new.length (m * es)) = true := by
   simp only [g1, g2, g3, g4, hone, hlen, bC_, cD_, decide_eq_true hle', Bool.and_self]
 by_cases hm : m = 0
 · subst hm
   have hn0 : new = [] := by simpa using hlen
   subst hn0
   refine ⟨.slice (some ⟨B, 0, some 0⟩) 0 0, h, ?_, ⟨B, false, rfl, Nat.le_refl _, hat⟩, .refl _, id⟩
   unfold aappend
   have hb0 : Nat.ble (0 + 0) 0 = true := rfl
   simp only [hu, hs, hb, hz, han, hcond, hb0]
   try rfl
 · refine ⟨.slice (some ⟨h.nx, 0, some 0⟩) m m, h.push (.cells new e es true), ?_, ⟨h.nx, true, rfl, Nat.le_of_lt hat.lt, At.new _ _⟩, (Grow.refl _).push _, fun w => w.push _⟩
   unfold aappend
   have hb0 : Nat.ble (0 + m) 0 = false := by rw [cD_]; simp; omega
   have hfo : afirst M.G h es 0 (.slice (some ⟨B, 0, some 0⟩) 0 0) = some [] := (Sl.ofAt (G := M.G) hat (by simp) (Nat.le_refl _)).first
   simp only [hu, hs, hb, hz, han, hcond, hb0, hfo]
   unfold agrow
   have hl2 : ([] ++ new).length = (0 + m) * es := by simpa using hlen
   simp only [hl2, bC_, hat.get, Bool.false_and, List.nil_append, Nat.zero_add, hlen]
end
section
variable {M : Mc} {h : H} {e : TypeId} {es n : Nat} {dd : TypeDesc}
theorem bz_ {st xt : TypeId} {by' m : Nat} {z' w : Value} {new : List Value} (hu : M.P.underlying st = some (.slice e)) (hxu : M.P.underlying xt = some dd) (hdd : (match dd with | .int _ => false | _ => true) = true) (hs : tsz M.P e = some es) (hb : tby M.P e = some by') (hz : tzero M.P e = some z')
   (hg : (gd z' && Nat.beq z'.cells.size es && !(Nat.beq es 0) && !(Nat.beq by' 0)) = true) (sl : Sl M.G h es w m new) (hone : new.all one = true) (hle : (0 + m) * by' ≤ 70368744177664) (hm : m ≠ 0) : aappend M.P M.G h st xt (.slice none 0 0) w = some (.slice (some ⟨h.nx, 0, some 0⟩) m m, h.push (.cells new e es true)) := by
 simp only [Bool.and_eq_true] at hg
 obtain ⟨⟨⟨g1, g2⟩, g3⟩, g4⟩ := hg
 have hlen := sl.length
 obtain ⟨wa, wc, rfl⟩ := sl.form
 have hf := sl.first
 have han : anews M.P M.G h xt es z'.cells.toList (.slice wa m wc) = some (m, new) := by
   unfold anews
   rw [hxu]
   cases dd <;> first | (simp at hdd; done) | simp only [alen, hf]
 have hcond : (gd z' && Nat.beq z'.cells.size es && !(Nat.beq es 0) && !(Nat.beq by' 0) && Nat.ble ((0 + m) * by') 70368744177664 && new.all one && Nat.beq new.length (m * es)) = true := by
   simp only [g1, g2, g3, g4, hone, hlen, bC_, cD_, decide_eq_true hle, Bool.and_self]
 unfold aappend
 have hb0 : Nat.ble (0 + m) 0 = false := by rw [cD_]; simp; omega
 simp only [hu, hs, hb, hz, han, hcond, hb0]
 have : afirst M.G h es 0 (.slice none 0 0) = some [] := rfl
 simp only [this, List.nil_append]
 unfold agrow
 simp only [Nat.zero_add, hlen, bC_]
theorem br_ {st xt : TypeId} {by' m : Nat} {z' w : Value} {new : List Value} (hu : M.P.underlying st = some (.slice e)) (hxu : M.P.underlying xt = some dd) (hdd : (match dd with | .int _ => false | _ => true) = true) (hs : tsz M.P e = some es) (hb : tby M.P e = some by') (hz : tzero M.P e = some z')
   (hg : (gd z' && Nat.beq z'.cells.size es && !(Nat.beq es 0) && !(Nat.beq by' 0)) = true) (sl : Sl M.G h es w m new) (hone : new.all one = true) {b : Nat} {c : List Value} (hat : At h b (.cells c e es true)) (hcl : c.length = n * es) (hle : (n + m) * by' ≤ 70368744177664) (hm : m ≠ 0) : aappend M.P M.G h st xt (.slice (some ⟨b, 0, some 0⟩) n n) w = some (.slice (some ⟨h.nx, 0, some 0⟩) (n + m) (n + m), (h.kill b).push (.cells (c ++ new) e es true)) := by
 simp only [Bool.and_eq_true] at hg
 obtain ⟨⟨⟨g1, g2⟩, g3⟩, g4⟩ := hg
 have hlen := sl.length
 obtain ⟨wa, wc, rfl⟩ := sl.form
 have hf := sl.first
 have han : anews M.P M.G h xt es z'.cells.toList (.slice wa m wc) = some (m, new) := by
   unfold anews
   rw [hxu]
   cases dd <;> first | (simp at hdd; done) | simp only [alen, hf]
 have hcond : (gd z' && Nat.beq z'.cells.size es && !(Nat.beq es 0) && !(Nat.beq by' 0) && Nat.ble ((n + m) * by') 70368744177664 && new.all one && Nat.beq new.length (m * es)) = true := by
   simp only [g1, g2, g3, g4, hone, hlen, bC_, cD_, decide_eq_true hle, Bool.and_self]
 unfold aappend
 have hb0 : Nat.ble (n + m) n = false := by rw [cD_]; simp; omega
 have hfo : afirst M.G h es n (.slice (some ⟨b, 0, some 0⟩) n n) = some c := (Sl.ofAt (G := M.G) hat hcl (Nat.le_refl _)).first
 simp only [hu, hs, hb, hz, han, hcond, hb0, hfo]
 unfold agrow
 have hl2 : (c ++ new).length = (n + m) * es := by rw [List.length_append, hcl, hlen, Nat.add_mul]
 simp only [hl2, bC_, hat.get, Nat.zero_add, hcl, Bool.and_self]
end
theorem rq0n {M : Mc} {Q : Value → H → Prop} {l : KL} {h : H} (q : Q (packed []) h) : RetQ M [] Q .norm l h := ⟨trivial, [], rfl, q⟩
def H.bump (h : H) (k : Nat) : H := { tr := h.tr, nx := h.nx + k }
theorem H.nx_bump (h : H) (k : Nat) : (h.bump k).nx = h.nx + k := rfl
theorem At.bumpB {h : H} {b k : Nat} {o : AObj} (a : At h b o) : At (h.bump k) b o := a.bump
theorem Grow.bumpB {g h : H} (x : Grow g h) (k : Nat) : Grow g (h.bump k) := x.bump k
theorem Wf.bumpB {h : H} (w : Wf h) (k : Nat) : Wf (h.bump k) := w.bump k
theorem bu_ {as : List (Nat × AObj)} {js : List Nat} {g hh : H} {a k : Nat} (hj : idxL as = some js) (hk : (js.all fun j => Nat.blt j k) = true) (hw : Wf hh) (hg : Grow (hh.bump k) g) : (as.all fun q => a.testBit q.1 || (g.get (hh.nx + q.1)).isNone) = true := stk_free hj hk hw hg
theorem aF_ {M : Mc} {ro : Option Nat} {id sz : Nat} {os : List Oper} {l : KL} {h : H} {Q : X → KL → H → Prop} (k : Nat) (ms ix : List Nat) (hm : masksFrom os [] = some ms) (ht : tmpsOk os.toArray (os.zip ms) = true)
   (hi : (Nat.beq os.length k && Nat.beq ms.length k) = true) (hx : List.range' 0 k = ix)
   (w : WX M os.toArray h.nx sz (Q .norm) os ms ix l (h.bump k) 0 [] [] [] []) : Wc M ro (.region id os.toArray true) sz l h Q := wc_draw k ms ix hm ht hi hx rfl w
end Go.Ab
/- What a walk repeats, as arguments that fill themselves. -/
namespace Go.Ab
theorem ne_A {p : Prop} (q : p := by first | (simp only [H.nx_push, H.nx_set, H.nx_kill, H.nx_bump]; omega) | omega) : p := q
theorem lt_A {p : Prop} (q : p := by first | (simp only [H.nx_push, H.nx_set, H.nx_kill, H.nx_bump]; omega) | omega | exact At.lt (by with_reducible assumption)) : p := q
theorem ah_ {h : H} {b : Nat} {o : AObj} (q : At h b o := by repeat (first | with_reducible assumption | with_reducible exact At.lay lt_A | (with_reducible refine At.set_ne ?_ ?hne _; (case hne => first | (simp only [H.nx_push, H.nx_set, H.nx_kill, H.nx_bump]; omega) | omega)) | ((with_reducible refine (?_ : At (H.push _ _) _ _)); first | with_reducible exact At.new _ _ | exact At.new _ _ | with_reducible refine At.push ?_ _) | (with_reducible refine At.kill_ne ?_ ?hne; (case hne => first | (simp only [H.nx_push, H.nx_set, H.nx_kill, H.nx_bump]; omega) | omega)) | with_reducible refine At.bumpB ?_ | with_reducible refine At.grow ?_ (by with_reducible assumption))) : At h b o := q
theorem aA_ {h : H} (q : Wf h := by repeat (first | with_reducible assumption | with_reducible exact Wf.empty | with_reducible refine Wf.push ?_ _ | with_reducible refine Wf.kill ?_ _ | with_reducible refine Wf.set ?_ lt_A _ | with_reducible refine Wf.bumpB ?_ _ | with_reducible refine Grow.wf (by with_reducible assumption) ?_)) : Wf h := q
theorem au_ {g h : H} (q : Grow g h := by repeat (first | with_reducible assumption | with_reducible exact Grow.refl _ | with_reducible refine Grow.push ?_ _ | with_reducible refine Grow.kill ?_ ne_A | with_reducible refine Grow.set ?_ ne_A lt_A _ | with_reducible refine Grow.bumpB ?_ _ | with_reducible refine Grow.trans ?_ (by with_reducible assumption))) : Grow g h := q
theorem gr_B {g h : H} (q : Grow g h := by repeat (first | with_reducible assumption | with_reducible exact Grow.refl _ | with_reducible refine Grow.trans ?_ (by with_reducible assumption))) : Grow g h := q
theorem aw_ {p r : Prop} (hb : p) (q : r := by exfalso; (try simp only [decide_eq_true_eq, decide_eq_false_iff_not, Bool.not_eq_true', Bool.not_eq_false', Int.not_lt, Int.not_le, Decidable.not_not, not_true_eq_false, not_false_eq_true, beq_self_eq_true, reduceCtorEq] at hb); omega) : r := q
theorem aX_ : (∀ {p : Prop} [Decidable p], (decide p = true) = p) ∧ (∀ {p : Prop} {_ : Decidable p}, decide p = false ↔ ¬p) ∧ (∀ b : Bool, ((!b) = true) = (b = false)) ∧ (∀ b : Bool, ((!b) = false) = (b = true)) ∧ (∀ {a b : Int}, ¬a < b ↔ b ≤ a) ∧ (∀ {a b : Int}, ¬a ≤ b ↔ b < a) ∧ (∀ {p : Prop} [Decidable p], ¬¬p ↔ p) ∧ ((¬True) = False) ∧ ((¬False) = True) ∧ (∀ {α : Type} [BEq α] [ReflBEq α] (a : α), (a == a) = true) := ⟨decide_eq_true_eq, decide_eq_false_iff_not, Bool.not_eq_true', Bool.not_eq_false', Int.not_lt, Int.not_le, Decidable.not_not, not_true_eq_false, not_false_eq_true, beq_self_eq_true⟩
theorem aU_ : (∀ (h : H) (o : AObj), (h.push o).nx = h.nx + 1) ∧ (∀ (h : H) (n : Nat) (o : AObj), (h.set n o).nx = h.nx) ∧ ∀ (h : H) (k : Nat), (h.bump k).nx = h.nx + k := ⟨H.nx_push, H.nx_set, H.nx_bump⟩
theorem aq_ {M : Mc} {ops : Array Oper} {rest : List Oper} {sz : Nat} {l : KL} {h h1 : H} {v : Value} {R : KL → H → Prop} {d : Nat} {o : Oper} (hop : Op1 M o.op l h v h1) (next : Wo M ops rest sz ((d, v) :: l) h1 R) (ho : o.guard = none := by exact rfl) (hdo : o.dst = some d := by exact rfl) (hd : Nat.blt d sz = true := by exact rfl) : Wo M ops (o :: rest) sz l h R := bf_ ho hop hdo hd next
theorem bQ_ {M : Mc} {ops : Array Oper} {rest : List Oper} {sz : Nat} {l : KL} {h h1 : H} {v : Value} {R : KL → H → Prop} {o : Oper} (hop : Op1 M o.op l h v h1) (next : Wo M ops rest sz l h1 R) (ho : o.guard = none := by exact rfl) (hdo : o.dst = none := by exact rfl) : Wo M ops (o :: rest) sz l h R := wo_op0 ho hop hdo next
theorem ap_ {p q : Prop} (i : q) (h : q → p := by first | with_reducible exact fun x => sq_norm x | with_reducible exact fun x => wc_seq x | with_reducible exact fun x => bk_ x | with_reducible exact fun x => ad_ x | with_reducible exact fun x => wc_skip x | with_reducible exact fun x => wc_ret x | with_reducible exact fun x => wc_exit x | with_reducible exact fun x => wc_block x | with_reducible exact fun x => bq_norm x | with_reducible exact fun x => bq_ret x | with_reducible exact fun x => sq_ret x | with_reducible exact fun x => sq_exit x | with_reducible exact fun x => lq_exit x | with_reducible exact fun x => lq_ret x | exact fun x => bq_eq rfl x | exact fun x => wc_ift rfl x | exact fun x => wc_iff rfl x) : p := h i
end Go.Ab
