/- From an evaluation to the contract of a call, and from that to the post of a law; arguments opened. -/
import Derived.Test.YtlioomhcdlicmaaGreatDoorA5
import Derived.Below
import Derived.Lib.LaidTab
import Derived.WalkKit
import Derived.ProofKit
import Derived.OpenShut
import Derived.Carry
import Derived.Deep.DeepHandedRow
import Derived.Laws.Cover2
import Derived.ChangeMaps5
set_option linter.all false
namespace Go.Ab
open Go Go.RowKit
variable {P : Program} {B : Nat} {G : Base}
theorem code_sound (hmix : P.follows .mixedOrders = true) {E : Ext} (hE : ExtSound P B G E) (hng : NoCount P) (n : Nat) (c : Code) : CodeSound P B G (evC P G (ev P G E n)) one' c := by
 obtain ⟨hc, hl⟩ := ev_sound0 hE hng (fun _ hc => draw_sound hmix hc) n
 exact evC_sound hc hl (draw_sound hmix hc) (range_sound hc) c
theorem fn_of_ev (hmix : P.follows .mixedOrders = true) {E : Ext} (hE : ExtSound P B G E) (hng : NoCount P) {n f : Nat} (hEf : E f = none) {args args' : List Value} {h h' : H} {v : Value}
   (hb : (ev P G E n).call (.func (.func f) #[] #[]) args h = some (v, h')) {ρ : Ctx} {W : World} (R : Rep B G ρ h W) (A : LRel ρ args args') : FnEnds P B G ρ h W f args'.toArray v h' := by
 cases n with
 | zero => simp [ev] at hb
 | succ n =>
   have hcode := code_sound hmix hE hng n
   simp only [ev, evCall, hEf] at hb
   split at hb
   · cases hb
   · rename_i fn hfn
     split at hb
     · rename_i cd hcd
       have A' : LRel ρ ((#[] : Array Value).toList ++ args ++ (#[] : Array Value).toList) args' := by simpa using A
       split at hb
       · rename_i e h1 he
         split at hb
         · rename_i u hu
           cases hb
           exact fn_sound hfn hcd (hcode cd) R A' he (.inl rfl) hu
         · rename_i l hl hu
           cases hb
           have := fn_sound hfn hcd (hcode cd) R A' he (.inl rfl) hu
           have hp : packed l = .tuple ⟨l⟩ := by
             unfold packed; split
             · exact absurd rfl (hl _)
             · rfl
           rwa [hp] at this
         · cases hb
       · rename_i e h1 he
         split at hb
         · rename_i u hu
           cases hb
           exact fn_sound hfn hcd (hcode cd) R A' he (.inr rfl) hu
         · rename_i l hl hu
           cases hb
           have := fn_sound hfn hcd (hcode cd) R A' he (.inr rfl) hu
           have hp : packed l = .tuple ⟨l⟩ := by
             unfold packed; split
             · exact absurd rfl (hl _)
             · rfl
           rwa [hp] at this
         · cases hb
       · cases hb
     · cases hb
theorem Rep.start {W : World} (hB : BaseOk W.heap.size G W) : Rep W.heap.size G (fun _ => none) H.empty W := by
 have hg : ∀ n, H.empty.get n = none := fun n => rfl
 exact ⟨hB, (fun n o e => by rw [hg] at e; cases e), (fun n m i j e => by cases e), (fun n i e => by cases e), (fun n e => by rw [hg] at e; cases e)⟩
theorem calls_of_ev (hmix : P.follows .mixedOrders = true) {E : Ext} {W : World} (hB : BaseOk W.heap.size G W) (hE : ExtSound P W.heap.size G E) (hng : NoCount P) {n f : Nat} (hEf : E f = none) {args args' : List Value} {h' : H} {v : Value}
   (hb : (ev P G E n).call (.func (.func f) #[] #[]) args H.empty = some (v, h')) (A : LRel (fun _ => none) args args') (hv : gd v = true) :
   Calls P f args'.toArray W fun e W' => e = .returned v ∧ Below W.heap.size W W' := by
 intro cs
 obtain ⟨v', W', ρ', fr, g1, g2, g3, g4, g5, g6⟩ := fn_of_ev hmix hE hng hEf hb (.start hB) A cs
 have := g1.gd_eq hv
 subst this
 exact ⟨.returned v', W', fr, ⟨rfl, g3.os, g3.tape, g3.output, g3.size, fun k hk => g3.frame k hk (by
   rintro ⟨n, i, q1, q2, q3⟩
   cases q2)⟩, g4, g5, g6⟩
end Go.Ab
namespace Go.Ab
open Go
variable {P : Program} {H' : Type}
def contig (P : Program) : List Field → Nat → Option Nat
 | [], o => some o
 | f :: fs, o => match Nat.beq f.offset o with
   | true => contig P fs (o + P.cellsOf f.type)
   | false => none
def plainT (P : Program) : Nat → TypeId → Bool
 | 0, _ => false
 | n + 1, t => match P.underlying t with
   | some .bool | some (.int _) | some (.float _) | some .string => true
   | some (.array len e) => Nat.beq (P.cellsOf t) (len * P.cellsOf e) && plainT P n e
   | some (.struct fs) => (match contig P fs.toList 0 with | some c => Nat.beq c (P.cellsOf t) | none => false) && fs.toList.all fun f => plainT P n f.type
   | _ => false
def flatD : Nat → DataW H' → List Value
 | _ + 1, .lit (.int k z) => [.int k z]
 | _ + 1, .lit (.bool b) => [.bool b]
 | _ + 1, .lit (.float k b) => [.float k b]
 | _ + 1, .lit (.string s) => [.string ⟨⟨s⟩⟩]
 | n + 1, .agg ds => ds.flatMap (flatD n)
 | _, _ => []
theorem mapM_flat {α β : Type} {f : α → Option β} {g : α → List Value} {k : β → List Value} : ∀ {l : List α} {xs : List β}, l.mapM f = some xs → (∀ a ∈ l, ∀ b, f a = some b → g a = k b) → l.flatMap g = xs.flatMap k
 | [], xs, h, _ => by simp at h; subst h; rfl
 | a :: l, xs, h, hh => by
   simp only [List.mapM_cons, Option.bind_eq_bind, Option.bind_eq_some_iff, Option.pure_def, Option.some.injEq] at h
   obtain ⟨b, hb, r, hr, rfl⟩ := h
   simp only [List.flatMap_cons]
   rw [hh a (by simp) b hb, mapM_flat hr fun a' ha' => hh a' (List.mem_cons_of_mem _ ha')]
theorem pieces (cs : List Value) (m : Nat) : ∀ len, len * m ≤ cs.length → cs.take (len * m) = (List.range len).flatMap fun i => (cs.drop (i * m)).take m
 | 0, _ => by simp
 | len + 1, h => by
   rw [List.range_succ, List.flatMap_append, ← pieces cs m len (by rw [Nat.succ_mul] at h; omega)]
   simp only [List.flatMap_cons, List.flatMap_nil, List.append_nil]
   rw [Nat.succ_mul, List.take_add]
theorem fields_pieces (cs : List Value) : ∀ (fs : List Field) (o c : Nat), contig P fs o = some c → c ≤ cs.length → o ≤ c ∧ cs.take c = cs.take o ++ fs.flatMap fun f => (cs.drop f.offset).take (P.cellsOf f.type)
 | [], o, c, h, _ => by simp only [contig] at h; cases h; simp
 | f :: fs, o, c, h, hl => by
   simp only [contig] at h
   split at h
   · rename_i hb
     have hb := Nat.eq_of_beq_eq_true hb
     obtain ⟨h1, h2⟩ := fields_pieces cs fs _ c h hl
     refine ⟨by omega, ?_⟩
     rw [h2, List.take_add, List.flatMap_cons, hb, List.append_assoc]
   · cases h
theorem trod_float' {enc : TypeId × Value → H'} {w : World} {base : Nat} {sp : Nat → Bool} {held : Bool} {fuel : Nat} {t : TypeId} {cs : List Value} {x : DataW H' × List MemPlace} {k : FloatKind}
   (ht : P.underlying t = some (.float k)) (h : DataW.trod enc P w base sp held fuel t cs = some x) : ∃ b, cs = [.float k b] ∧ x = (.lit (.float k b), []) := by
 cases fuel with
 | zero => simp [DataW.trod] at h
 | succ n =>
   unfold DataW.trod at h
   rw [ht] at h
   split at h <;> simp_all
theorem trod_flat {enc : TypeId × Value → H'} {w : World} {base : Nat} {sp : Nat → Bool} {held : Bool} : ∀ (n fuel : Nat) (t : TypeId) (cs : List Value) (d : DataW H') (p : List MemPlace), plainT P n t = true →
   DataW.trod enc P w base sp held fuel t cs = some (d, p) → cs = flatD n d
 | 0, _, _, _, _, _, h, _ => by simp [plainT] at h
 | n + 1, 0, _, _, _, _, _, h => by simp [DataW.trod] at h
 | n + 1, fuel + 1, t, cs, d, p, hp, h => by
   simp only [plainT] at hp
   split at hp
   · rename_i hu
     obtain ⟨b, rfl, hx⟩ := DataW.trod_bool hu h
     cases hx; rfl
   · rename_i k hu
     obtain ⟨b, rfl, hx, _⟩ := DataW.trod_int hu h
     cases hx; rfl
   · rename_i k hu
     obtain ⟨b, rfl, hx⟩ := trod_float' hu h
     cases hx; rfl
   · rename_i hu
     obtain ⟨b, rfl, hx, _⟩ := DataW.trod_string hu h
     cases hx; rfl
   · rename_i len e hu
     simp only [Bool.and_eq_true] at hp
     have hc := Nat.eq_of_beq_eq_true hp.1
     simp only [DataW.trod, hu] at h
     split at h
     · rename_i hl
       obtain ⟨xs, hm, hx⟩ := Option.map_eq_some_iff.1 h
       cases hx
       simp only [flatD, List.flatMap_map]
       have := mapM_flat (g := fun i => (cs.drop (i * P.cellsOf e)).take (P.cellsOf e)) (k := fun x => flatD n x.1) hm (fun i _ b hb => trod_flat n fuel e _ b.1 b.2 hp.2 hb)
       rw [← this, ← pieces cs _ len (by omega), ← hc, ← hl, List.take_length]
     · cases h
   · rename_i fs hu
     simp only [Bool.and_eq_true, List.all_eq_true] at hp
     obtain ⟨hp1, hp2⟩ := hp
     simp only [DataW.trod, hu] at h
     split at h
     · rename_i hl
       obtain ⟨xs, hm, hx⟩ := Option.map_eq_some_iff.1 h
       cases hx
       simp only [flatD, List.flatMap_map]
       have := mapM_flat (g := fun f : Field => (cs.drop f.offset).take (P.cellsOf f.type)) (k := fun x => flatD n x.1) hm (fun f hf b hb => trod_flat n fuel f.type _ b.1 b.2 (hp2 f hf) hb)
       rw [← this]
       split at hp1
       · rename_i c hcg
         have hc := Nat.eq_of_beq_eq_true hp1
         have := (fields_pieces cs fs.toList 0 c hcg (by omega)).2
         rw [hc, ← hl, List.take_length] at this
         simpa using this
       · cases hp1
     · cases h
   · cases hp
theorem laid_get {w : World} : ∀ {laid : List (String × DataW Unit)} {ps : List MemPlace}, DataW.LaidVars P w laid ps → ∀ x ∈ laid, ∃ g t cs fuel p, P.globalNamed x.1 = some g ∧ (P.globals[g]?).map (·.type) = some t ∧ w.var? P x.1 = some cs ∧
   DataW.trod (fun _ => ()) P w 0 (fun _ => true) false fuel t cs.toList = some (x.2, p)
 | [], _, _, x, hx => by simp at hx
 | (n, d) :: r, ps, h, x, hx => by
   obtain ⟨g, t, cs, fuel, p, q, h1, h2, h3, h4, h5, _⟩ := h
   rcases List.mem_cons.1 hx with rfl | hx
   · exact ⟨g, t, cs, fuel, p, h1, h2, h3, h4⟩
   · exact laid_get h5 x hx
theorem laid_tab {w : World} {laid : List (String × DataW Unit)} (h : laidMet P laid w) {name : String} {d : DataW Unit} (hm : (name, d) ∈ laid) {g : Nat} {t : TypeId} {n : Nat} (hg : P.globalNamed name = some g) (ht : (P.globals[g]?).map (·.type) = some t)
   (hp : plainT P n t = true) {l : List Value} (hl : flatD n d = l) : ∃ e fr, w.heap[g]? = some (.cells ⟨l⟩ e fr) := by
 obtain ⟨ps, hv, _⟩ := h
 obtain ⟨g', t', cs, fuel, p, h1, h2, h3, h4⟩ := laid_get hv _ hm
 simp only at h1 h3 h4
 rw [hg] at h1; cases h1
 rw [ht] at h2; cases h2
 have := trod_flat n fuel t cs.toList d p hp h4
 simp only [World.var?, hg, Option.bind_some] at h3
 split at h3
 · rename_i cs' e fr hh
   cases h3
   refine ⟨e, fr, ?_⟩
   rw [hh]
   obtain ⟨c⟩ := cs
   simp only at this
   rw [this, hl]
 · cases h3
end Go.Ab
namespace Go.Ab
open Go
variable {P : Program} {B : Nat} {G : Base}
def dropC : Nat → Code → Code
 | 0, c => c
 | n + 1, .seq _ b => dropC n b
 | _ + 1, c => c
def headC : Code → Code
 | .seq a _ => a
 | c => c
def isSeq : Code → Bool
 | .seq _ _ => true
 | _ => false
theorem dropC_seq : ∀ (n : Nat) (c : Code), isSeq (dropC n c) = true → dropC n c = .seq (headC (dropC n c)) (dropC (n + 1) c)
 | 0, c, h => by cases c <;> simp_all [dropC, isSeq, headC]
 | n + 1, c, h => by
   cases c with
   | seq a b => simp only [dropC] at h ⊢; exact dropC_seq n b h
   | _ => simp [dropC, isSeq] at h
def evPieces (P : Program) (G : Base) (rec : Ev) (c : Code) : Nat → Nat → Env → H → Option (Env × H)
 | _, 0, e, h => some (e, h)
 | i, k + 1, e, h => match isSeq (dropC i c) with
   | true => match evC P G rec none (headC (dropC i c)) e h with
     | some (.norm, e', h') => evPieces P G rec c (i + 1) k e' h'
     | _ => none
   | false => none
def Comes' (P : Program) (B : Nat) (G : Base) (c : Code) (x : X) (ef : Env) (hf : H) (i : Nat) (e : Env) (h : H) : Prop :=
 ∀ ρ w n0 (b : Frame) a, b.roundOf = none → Rep B G ρ h w → ERel ρ e a.tmps → Marks n0 ρ h w a.defers → n0 ≤ w.heap.size → ∀ k cs, Fine P B G n0 ρ h w b a [.code (dropC i c)] k cs x ef hf
theorem comes_last {rec : Ev} {c : Code} {i : Nat} (hc : ∀ c, CodeSound P B G (evC P G rec) one' c) {x : X} {e ef : Env} {h hf : H} (hb : evC P G rec none (dropC i c) e h = some (x, ef, hf)) : Comes' P B G c x ef hf i e h :=
 fun ρ w n0 b a hro R E M hn k cs => hc _ none e h x ef hf hb ρ w n0 b a (.inl ⟨rfl, hro⟩) R E M hn k cs
theorem comes_pieces {rec : Ev} {c : Code} (hc : ∀ c, CodeSound P B G (evC P G rec) one' c) {x : X} {ef : Env} {hf : H} : ∀ (k i : Nat) (e e1 : Env) (h h1 : H), evPieces P G rec c i k e h = some (e1, h1) → Comes' P B G c x ef hf (i + k) e1 h1 → Comes' P B G c x ef hf i e h
 | 0, i, e, e1, h, h1, hb, hn => by simp only [evPieces] at hb; cases hb; exact hn
 | k + 1, i, e, e1, h, h1, hb, hn => by
   simp only [evPieces] at hb
   split at hb
   · rename_i hs
     split at hb
     · rename_i e2 h2 he
       have ih := comes_pieces hc k (i + 1) e2 e1 h2 h1 hb (by rwa [show i + (k + 1) = i + 1 + k by omega] at hn)
       intro ρ w n0 b a hro R E M hn0 kk cs
       rw [dropC_seq i c hs]
       have f := hc _ none e h _ e2 h2 he ρ w n0 b a (.inl ⟨rfl, hro⟩) R E M hn0 (.code (dropC (i + 1) c) :: kk) cs
       have : Fine P B G n0 ρ h w b a (one' (headC (dropC i c)) ++ one' (dropC (i + 1) c)) kk cs x ef hf :=
         Fine.seq (its2 := one' (dropC (i + 1) c)) (by intro j id; rfl) f hn0 R fun ρ1 w1 a1 _ R1 E1 M1 hn1 => ih ρ1 w1 n0 b a1 hro R1 E1 M1 hn1 kk cs
       exact this.pre fun k => .one stepR_seq
     · cases hb
   · cases hb
def Less (e' e : Env) (h' h : H) : Prop :=
 e'.sz = e.sz ∧ (∀ t, e'.get t = undef ∨ e'.get t = e.get t) ∧ h'.nx = h.nx ∧ ∀ n o, h'.get n = some o → h.get n = some o
theorem comes_less {c : Code} {x : X} {ef e e' : Env} {hf h h' : H} {i : Nat} (l : Less e' e h' h) (hn : Comes' P B G c x ef hf i e' h') : Comes' P B G c x ef hf i e h := by
 intro ρ w n0 b a hro R E M hn0 k cs
 obtain ⟨l1, l2, l3, l4⟩ := l
 have R' := R.forget l3 l4
 have S' : Step ρ h w ρ h' w := ⟨fun _ _ => rfl, by rw [l3]; exact Nat.le_refl _, Nat.le_refl _, rfl, rfl, rfl, fun _ _ _ => rfl, fun _ _ hl => hl.grow l4, fun n _ hg => by
   cases hq : h'.get n with
   | none => rfl
   | some o => rw [l4 n o hq] at hg; cases hg⟩
 have E' : ERel ρ e' a.tmps := ⟨by rw [l1]; exact E.size, fun t => by
   rcases l2 t with q | q
   · rw [q]; exact .top _
   · rw [q]; exact E.get t⟩
 obtain ⟨ρ1, w1, a1, g1, g2, g3, g4, g5⟩ := hn ρ w n0 b a hro R' E' (M.step S') hn0 k cs
 exact ⟨ρ1, w1, a1, g1, S'.trans g2, g3, g4, g5⟩
def hOf (nx : Nat) (l : List (Nat × AObj)) : H := l.foldl (fun h p => h.set p.1 p.2) { tr := .leaf, nx := nx }
def seen (ts ns : List Nat) (r : Option (Env × H)) : Option (List Value × List (Option AObj) × Nat × Nat) :=
 match r with
 | some (e, h) => some (ts.map e.get, ns.map h.get, e.sz, h.nx)
 | none => none
theorem hOf_get (nx : Nat) (l : List (Nat × AObj)) : (hOf nx l).nx = nx ∧ ∀ n o, (hOf nx l).get n = some o → (n, o) ∈ l := by
 unfold hOf
 have : ∀ (l : List (Nat × AObj)) (h : H), (l.foldl (fun h p => h.set p.1 p.2) h).nx = h.nx ∧ ∀ n o, (l.foldl (fun h (p : Nat × AObj) => h.set p.1 p.2) h).get n = some o → (n, o) ∈ l ∨ h.get n = some o := by
   intro l
   induction l with
   | nil => intro h; exact ⟨rfl, fun n o e => .inr e⟩
   | cons p l ih =>
     intro h
     obtain ⟨q1, q2⟩ := ih (h.set p.1 p.2)
     refine ⟨q1, fun n o e => ?_⟩
     rcases q2 n o e with q | q
     · exact .inl (List.mem_cons_of_mem _ q)
     · rw [H.get_set] at q
       by_cases hn : n = p.1
       · rw [if_pos hn] at q; cases q
         left; subst hn; exact List.mem_cons_self
       · rw [if_neg hn] at q; exact .inr q
 obtain ⟨q1, q2⟩ := this l { tr := .leaf, nx := nx }
 refine ⟨q1, fun n o e => (q2 n o e).resolve_right ?_⟩
 intro h
 exact absurd h (by simp [H.get, Tr.get])
theorem lget_mem : ∀ (l : List (Nat × Value)) (t : Nat), lget l t = undef ∨ (t, lget l t) ∈ l
 | [], t => .inl rfl
 | (k, u) :: l, t => by
   simp only [lget]
   cases hb : Nat.beq k t
   · rcases lget_mem l t with q | q
     · exact .inl q
     · exact .inr (List.mem_cons_of_mem _ q)
   · have := Nat.eq_of_beq_eq_true hb
     subst this
     exact .inr List.mem_cons_self
theorem seen_less {ts ns : List Nat} {r : Option (Env × H)} {vs : List Value} {os : List AObj} {sz nx : Nat} (h : seen ts ns r = some (vs, os.map some, sz, nx)) :
   ∃ e h, r = some (e, h) ∧ Less { sz := sz, l := ts.zip vs } e (hOf nx (ns.zip os)) h := by
 unfold seen at h
 split at h
 · rename_i e h0
   simp only [Option.some.injEq, Prod.mk.injEq] at h
   obtain ⟨h1, h2, h3, h4⟩ := h
   refine ⟨e, h0, rfl, h3.symm, fun t => ?_, (hOf_get _ _).1.trans h4.symm, fun n o ho => ?_⟩
   · rcases lget_mem (ts.zip vs) t with q | q
     · exact .inl q
     · right
       show lget (ts.zip vs) t = e.get t
       generalize lget (ts.zip vs) t = u at q ⊢
       rw [← h1] at q
       obtain ⟨j, hj⟩ := List.getElem?_of_mem q
       have := List.getElem?_zip_eq_some.1 hj
       rw [List.getElem?_map, this.1] at this
       exact (Option.some.inj this.2).symm
   · have := (hOf_get nx (ns.zip os)).2 n o ho
     obtain ⟨j, hj⟩ := List.getElem?_of_mem this
     have hz := List.getElem?_zip_eq_some.1 hj
     have h5 : (ns.map h0.get)[j]? = (os.map some)[j]? := by rw [h2]
     rw [List.getElem?_map, List.getElem?_map, hz.1, hz.2] at h5
     exact Option.some.inj h5
 · cases h
theorem be_ {rec : Ev} {c : Code} (hc : ∀ c, CodeSound P B G (evC P G rec) one' c) {x : X} {ef : Env} {hf : H} {k i : Nat} {e : Env} {h : H} {ts ns : List Nat} {vs : List Value} {os : List AObj} {sz nx : Nat}
   (hb : Ab.seen ts ns (evPieces P G rec c i k e h) = some (vs, os.map some, sz, nx)) (hn : Comes' P B G c x ef hf (i + k) { sz := sz, l := ts.zip vs } (hOf nx (ns.zip os))) : Comes' P B G c x ef hf i e h := by
 obtain ⟨e1, h1, hr, hl⟩ := seen_less hb
 exact comes_pieces hc k i e e1 h h1 hr (comes_less hl hn)
theorem fn_comes {f : FuncId} {fn : Func} {c : Code} (hf : P.funcs[f]? = some fn) (hbody : fn.body = some c) {ρ : Ctx} {h h' : H} {w : World} {args args' : List Value} (R : Rep B G ρ h w) (A : LRel ρ args args') {x : X} {e : Env} {l : List Value}
   (hc : Comes' P B G c x e h' 0 (Env.start fn.ntmps args) h) (hx : x = .norm ∨ x = .ret) (hl : aresults P G e h' fn.results.toList = some l) :
   FnEnds P B G ρ h w f args'.toArray (packed l) h' := by
 intro cs
 let b : Frame := { (default : Frame) with fn := f, kind := .normal, roundOf := none }
 have henter : Frame.enter P f args'.toArray .normal =
     b.atR { tmps := args'.toArray ++ Array.replicate (fn.ntmps - args'.toArray.size) undef, defers := [] } [.code c] := by
   simp [Frame.enter, Frame.atR, hf, hbody, b]
 obtain ⟨ρ1, w1, a1, g1, g2, g3, g4, g5⟩ := hc ρ w w.heap.size b { tmps := args'.toArray ++ Array.replicate (fn.ntmps - args'.toArray.size) undef, defers := [] } rfl R (start_rel A fn.ntmps) (.nil _ _ _ _) (Nat.le_refl _) [] cs
 rw [henter]
 obtain ⟨rs, m1, m2, m3⟩ := g4
 have fin : ∃ todo, Steps P (lone (b.atR { tmps := args'.toArray ++ Array.replicate (fn.ntmps - args'.toArray.size) undef, defers := [] } [.code c]) cs w) (lone { b.atR a1 todo with mode := .returning } cs w1) := by
   rcases hx with rfl | rfl
   · exact ⟨[], Steps.trans g5 (.one (stepR_end rfl))⟩
   · obtain ⟨k1, g5⟩ := g5
     exact ⟨.code .ret :: k1, Steps.trans g5 (.one (stepR_ret rfl))⟩
 obtain ⟨todo, fin⟩ := fin
 obtain ⟨w2, q1, q2, q3, q4, q5, q6, q7⟩ := unmark (P := P) (cs := cs) R.base.size rs w1 { b.atR a1 todo with mode := .returning } m2 m3 rfl m1 g1
 obtain ⟨v', r1, r2⟩ := results_sound q1 g3 hl
 exact ⟨v', w2, ρ1, _, r2, q1, g2.after q2 q3 q4 q5 q6, fin.trans q7, rfl, rfl, rfl, rfl, fn, hf, r1⟩
theorem calls_of_ends {W : World} {f : FuncId} {args : Array Value} {h' : H} {v : Value} (h : FnEnds P W.heap.size G (fun _ => none) H.empty W f args v h') (hv : gd v = true) :
   Calls P f args W fun e W' => e = .returned v ∧ RowKit.Below W.heap.size W W' := by
 intro cs
 obtain ⟨v', W', ρ', fr, g1, g2, g3, g4, g5, g6⟩ := h cs
 have := g1.gd_eq hv
 subst this
 exact ⟨.returned v', W', fr, ⟨rfl, g3.os, g3.tape, g3.output, g3.size, fun k hk => g3.frame k hk (by
   rintro ⟨n, i, q1, q2, q3⟩
   cases q2)⟩, g4, g5, g6⟩
def lastValues (P : Program) (G : Base) (rec : Ev) (fn : Func) (c : Code) (i : Nat) (e : Env) (h : H) : Option (List Value) :=
 match evC P G rec none (dropC i c) e h with
 | some (.ret, ef, hf) => aresults P G ef hf fn.results.toList
 | _ => none
theorem ends_last {rec : Ev} {fn : Func} {c : Code} (hcs : ∀ c, CodeSound P B G (evC P G rec) one' c) {i : Nat} {e : Env} {h : H} {v : Value}
   (hb : lastValues P G rec fn c i e h = some [v]) :
   ∃ ef hf, aresults P G ef hf fn.results.toList = some [v] ∧ Comes' P B G c .ret ef hf i e h := by
 unfold lastValues at hb
 split at hb
 · rename_i ef hf he
   exact ⟨ef, hf, hb, comes_last hcs he⟩
 · cases hb
end Go.Ab
namespace Go.Ab
open Go Go.RowKit Go.ChangeShapes Go.WideShapes Go.ChangeAt
variable {P : Program} {H' : Type}
theorem trodAll_below {enc : TypeId × Value → H'} {W W' : World} (hl : laidOutB P = true) (hb : Below W.heap.size W W') : ∀ (ts : List TypeId) (vs : List Value) (ds : List (DataW H')) (ps : List MemPlace),
   (ts.all fun t => P.readableRec t && decide (t < P.types.size)) = true → (∀ x ∈ ps, x.block < W.heap.size) → DataW.TrodAll enc P W 0 (fun _ => true) true ts vs ds ps → DataW.TrodAll enc P W' 0 (fun b => decide (b < W.heap.size)) true ts vs ds ps
 | [], [], [], ps, _, _, h => h
 | t :: ts, v :: vs, d :: ds, ps, hr, hlt, h => by
   obtain ⟨p, q, h1, h2, rfl⟩ := h
   simp only [List.all_cons, Bool.and_eq_true, decide_eq_true_eq] at hr
   exact ⟨p, q, Below.trod hl hr.1.1 hr.1.2 h1 hb (fun x hx => hlt x (List.mem_append_left _ hx)), trodAll_below hl hb ts vs ds q (by simpa using hr.2) (fun x hx => hlt x (List.mem_append_right _ hx)) h2, rfl⟩
 | [], [], _ :: _, _, _, _, h => h.elim
 | [], _ :: _, _, _, _, _, h => h.elim
 | _ :: _, [], _, _, _, _, h => h.elim
 | _ :: _, _ :: _, [], _, _, _, h => h.elim
theorem law_post {enc : TypeId × Value → H'} {W W' : World} {f : Func} {s : ChangeSpec} {args : Array Value} {ds gs : List (DataW H')} {before : List MemPlace}
   (hl : laidOutB P = true) (hr : (f.params.toList.all fun t => P.readableRec t && decide (t < P.types.size)) = true) (hv : s.vars = []) {tb : TypeId} (hrt : f.resultTypes = #[tb]) (hub : P.underlying tb = some .bool)
   (hs : s.fn H' (ds ++ gs) = { results := [.lit (.bool true)], args := ds })
   (hW : DataW.Whole enc P f.params.toList s.vars false W args.toList ds gs before) (hb : Below W.heap.size W W') :
   s.post enc P f false true false false W args (.bool true) W' := by
 have hW' := hW
 obtain ⟨p, q, hA, hV, rfl, hfz, hnd⟩ := hW
 rw [hv] at hV
 have hA' : DataW.TrodAll enc P W 0 (fun _ => true) true f.params.toList args.toList ds p := hA
 have hlt : ∀ x ∈ p ++ q, x.block < W.heap.size := fun x hx => hW'.lt x hx
 refine ⟨ds, gs, p ++ q, [], p, [], hW', ?_, ?_, ?_, hb.frame _, fun h => by cases h⟩
 · rw [hs, hrt]
   exact trodAll_cons_mk (shut_bool hub _) trodAll_mk0
 · rw [hs]
   exact trodAll_below hl hb _ _ _ _ hr (fun x hx => hlt x (List.mem_append_left _ hx)) hA'
 · rw [hs, hv]
   rfl
end Go.Ab
/- Arguments, opened. -/
namespace Go.Ab
open Go Go.RowKit Go.ChangeShapes Go.WideShapes Go.ChangeAt
theorem mapM_each {α β : Type} {f : α → Option β} : ∀ {l : List α} {xs : List β}, l.mapM f = some xs → ∀ a ∈ l, ∃ b, f a = some b
 | [], _, _, _, h => by cases h
 | a :: l, xs, h, b, hb => by
   simp only [List.mapM_cons, Option.bind_eq_bind, Option.bind_eq_some_iff, Option.pure_def, Option.some.injEq] at h
   obtain ⟨y, hy, r, hr, rfl⟩ := h
   rcases List.mem_cons.1 hb with rfl | hb
   · exact ⟨y, hy⟩
   · exact mapM_each hr b hb
variable {P : Program} {H' : Type} {enc : TypeId × Value → H'} {w : World} {base : Nat} {sp : Nat → Bool} {held : Bool}
end Go.Ab
