/- What an evaluation and a machine have to do with one another: the relation of values, heaps and memories. -/
import Derived.Test.YtlioomhcdlicmaaGreatDoorA1
import Derived.Laws.Cells
import Derived.Laws.CopyRow
import Derived.Laws.Entries
set_option linter.all false
namespace Go.Ab
open Go
theorem Tr.get_mk {α : Type} : ∀ (f n m : Nat) (o : Option α), n ≤ f → (Tr.mk f n o).get m = if m = n then o else none := by
 intro f
 induction f with
 | zero =>
   intro n m o h
   have : n = 0 := by omega
   subst this
   simp only [Tr.mk, Tr.get]
   cases hm : Nat.beq m 0
   · rw [if_neg (Nat.ne_of_beq_eq_false hm)]
     cases Nat.beq (m % 2) 1 <;> rfl
   · rw [if_pos (Nat.eq_of_beq_eq_true hm)]
 | succ f ih =>
   intro n m o h
   simp only [Tr.mk]
   cases hn : Nat.beq n 0
   · have hn' := Nat.ne_of_beq_eq_false hn
     cases hp : Nat.beq (n % 2) 1
     · have hp' := Nat.ne_of_beq_eq_false hp
       simp only [Tr.get]
       cases hm : Nat.beq m 0
       · have hm' := Nat.ne_of_beq_eq_false hm
         cases hq : Nat.beq (m % 2) 1
         · have hq' := Nat.ne_of_beq_eq_false hq
           simp only [ih _ _ _ (show n / 2 - 1 ≤ f by omega)]
           by_cases e : m = n
           · subst e; simp
           · rw [if_neg e, if_neg (by omega)]
         · have hq' := Nat.eq_of_beq_eq_true hq
           rw [if_neg (by omega)]
       · have hm' := Nat.eq_of_beq_eq_true hm
         rw [if_neg (by omega)]
     · have hp' := Nat.eq_of_beq_eq_true hp
       simp only [Tr.get]
       cases hm : Nat.beq m 0
       · have hm' := Nat.ne_of_beq_eq_false hm
         cases hq : Nat.beq (m % 2) 1
         · have hq' := Nat.ne_of_beq_eq_false hq
           rw [if_neg (by omega)]
         · have hq' := Nat.eq_of_beq_eq_true hq
           simp only [ih _ _ _ (show n / 2 ≤ f by omega)]
           by_cases e : m = n
           · subst e; simp
           · rw [if_neg e, if_neg (by omega)]
       · have hm' := Nat.eq_of_beq_eq_true hm
         rw [if_neg (by omega)]
   · have hn' := Nat.eq_of_beq_eq_true hn
     subst hn'
     simp only [Tr.get]
     cases hm : Nat.beq m 0
     · rw [if_neg (Nat.ne_of_beq_eq_false hm)]
       cases Nat.beq (m % 2) 1 <;> rfl
     · rw [if_pos (Nat.eq_of_beq_eq_true hm)]
theorem Tr.get_set {α : Type} (t : Tr α) : ∀ (n m : Nat) (o : Option α), (t.set n o).get m = if m = n then o else t.get m := by
 induction t with
 | leaf =>
   intro n m o
   simp only [Tr.set, Tr.get_mk n n m o (Nat.le_refl _)]
   rfl
 | node l v r ihl ihr =>
   intro n m o
   simp only [Tr.set]
   cases hn : Nat.beq n 0
   · have hn' := Nat.ne_of_beq_eq_false hn
     cases hp : Nat.beq (n % 2) 1
     · have hp' := Nat.ne_of_beq_eq_false hp
       simp only [Tr.get]
       cases hm : Nat.beq m 0
       · have hm' := Nat.ne_of_beq_eq_false hm
         cases hq : Nat.beq (m % 2) 1
         · have hq' := Nat.ne_of_beq_eq_false hq
           simp only [ihr]
           by_cases e : m = n
           · subst e; simp
           · rw [if_neg e, if_neg (by omega)]
         · have hq' := Nat.eq_of_beq_eq_true hq
           rw [if_neg (by omega)]
       · have hm' := Nat.eq_of_beq_eq_true hm
         rw [if_neg (by omega)]
     · have hp' := Nat.eq_of_beq_eq_true hp
       simp only [Tr.get]
       cases hm : Nat.beq m 0
       · have hm' := Nat.ne_of_beq_eq_false hm
         cases hq : Nat.beq (m % 2) 1
         · have hq' := Nat.ne_of_beq_eq_false hq
           rw [if_neg (by omega)]
         · have hq' := Nat.eq_of_beq_eq_true hq
           simp only [ihl]
           by_cases e : m = n
           · subst e; simp
           · rw [if_neg e, if_neg (by omega)]
       · have hm' := Nat.eq_of_beq_eq_true hm
         rw [if_neg (by omega)]
   · have hn' := Nat.eq_of_beq_eq_true hn
     subst hn'
     simp only [Tr.get]
     cases hm : Nat.beq m 0
     · rw [if_neg (Nat.ne_of_beq_eq_false hm)]
     · rw [if_pos (Nat.eq_of_beq_eq_true hm)]
theorem H.get_set (h : H) (n m : Nat) (o : AObj) : (h.set n o).get m = if m = n then some o else h.get m := Tr.get_set _ _ _ _
theorem H.get_kill (h : H) (n m : Nat) : (h.kill n).get m = if m = n then none else h.get m := Tr.get_set _ _ _ _
theorem H.get_push (h : H) (m : Nat) (o : AObj) : (h.push o).get m = if m = h.nx then some o else h.get m := Tr.get_set _ _ _ _
theorem H.nx_set (h : H) (n : Nat) (o : AObj) : (h.set n o).nx = h.nx := rfl
theorem H.nx_kill (h : H) (n : Nat) : (h.kill n).nx = h.nx := rfl
theorem H.nx_push (h : H) (o : AObj) : (h.push o).nx = h.nx + 1 := rfl
structure Info where
 blk : Nat
 size : Nat
 es : Nat
 rsz : Nat
 soft : Bool
abbrev Ctx := Nat → Option Info
inductive FRel (ρ : Ctx) : Fn → Fn → Prop
 | same (f : Fn) (h : ∀ l, f ≠ .yield l) : FRel ρ f f
 | yield (n : Nat) (i : Info) (h : ρ n = some i) : FRel ρ (.yield n) (.yield i.blk)
inductive VRel (ρ : Ctx) : Value → Value → Prop
 | top (v : Value) : VRel ρ undef v
 | skip : VRel ρ skipV undef
 | bool (b : Bool) : VRel ρ (.bool b) (.bool b)
 | int (k : IntKind) (n : Int) : VRel ρ (.int k n) (.int k n)
 | float (k : FloatKind) (n : Nat) : VRel ρ (.float k n) (.float k n)
 | complex (k : FloatKind) (a b : Nat) : VRel ρ (.complex k a b) (.complex k a b)
 | string (s : ByteArray) : VRel ρ (.string s) (.string s)
 | nilp : VRel ρ (.pointer none) (.pointer none)
 | bptr (a : Addr) (h : a.spot = none) : VRel ρ (.pointer (some a)) (.pointer (some a))
 | optr (n off : Nat) (i : Info) (h : ρ n = some i) : VRel ρ (.pointer (some ⟨n, off, some 0⟩)) (.pointer (some ⟨i.blk, off, none⟩))
 | nils (l c : Nat) : VRel ρ (.slice none l c) (.slice none l c)
 | bsl (a : Addr) (l c : Nat) (h : a.spot = none) : VRel ρ (.slice (some a) l c) (.slice (some a) l c)
 | osl (n off l c c' : Nat) (i : Info) (h : ρ n = some i)
     (hc : c' = c ∨ (i.soft = true ∧ off + c * i.es = i.size ∧ c ≤ c' ∧ off + c' * i.es ≤ i.rsz)) :
     VRel ρ (.slice (some ⟨n, off, some 0⟩) l c) (.slice (some ⟨i.blk, off, none⟩) l c')
 | loose (n off : Nat) (a : Addr) (c' : Nat) : VRel ρ (.slice (some ⟨n, off, some 1⟩) 0 0) (.slice (some a) 0 c')
 | nilm : VRel ρ (.map none) (.map none)
 | omap (n : Nat) (i : Info) (h : ρ n = some i) : VRel ρ (.map (some n)) (.map (some i.blk))
 | nilFunc : VRel ρ .nilFunc .nilFunc
 | nilIface : VRel ρ .nilIface .nilIface
 | iface (t : TypeId) (v v' : Value) (h : VRel ρ v v') : VRel ρ (.iface t v) (.iface t v')
 | agg (cs cs' : List Value) (hl : cs.length = cs'.length) (h : ∀ (j : Nat) (v v' : Value), cs[j]? = some v → cs'[j]? = some v' → VRel ρ v v') :
     VRel ρ (.agg ⟨cs⟩) (.agg ⟨cs'⟩)
 | tuple (c : Value) (cs cs' : List Value) (hl : (c :: cs).length = cs'.length) (h : ∀ (j : Nat) (v v' : Value), (c :: cs)[j]? = some v → cs'[j]? = some v' → VRel ρ v v') :
     VRel ρ (.tuple ⟨c :: cs⟩) (.tuple ⟨cs'⟩)
 | func (f f' : Fn) (a a' c c' : List Value) (hf : FRel ρ f f') (ha : a.length = a'.length) (hc : c.length = c'.length)
     (h1 : ∀ (j : Nat) (v v' : Value), a[j]? = some v → a'[j]? = some v' → VRel ρ v v') (h2 : ∀ (j : Nat) (v v' : Value), c[j]? = some v → c'[j]? = some v' → VRel ρ v v') :
     VRel ρ (.func f ⟨a⟩ ⟨c⟩) (.func f' ⟨a'⟩ ⟨c'⟩)
def LRel (ρ : Ctx) (l l' : List Value) : Prop := l.length = l'.length ∧ ∀ (j : Nat) (v v' : Value), l[j]? = some v → l'[j]? = some v' → VRel ρ v v'
abbrev Sub (ρ ρ' : Ctx) : Prop := ∀ n i, ρ n = some i → ρ' n = some i
theorem FRel.mono {ρ ρ' : Ctx} {f f' : Fn} (h : FRel ρ f f') (s : Sub ρ ρ') : FRel ρ' f f' := by
 cases h with
 | same _ h => exact .same _ h
 | yield n i h => exact .yield n i (s _ _ h)
theorem VRel.mono {ρ ρ' : Ctx} {v v' : Value} (h : VRel ρ v v') (s : Sub ρ ρ') : VRel ρ' v v' := by
 induction h with
 | top v => exact .top v
 | skip => exact .skip
 | bool b => exact .bool b
 | int k n => exact .int k n
 | float k n => exact .float k n
 | complex k a b => exact .complex k a b
 | string x => exact .string x
 | nilp => exact .nilp
 | bptr a h => exact .bptr a h
 | optr n off i h => exact .optr n off i (s _ _ h)
 | nils l c => exact .nils l c
 | bsl a l c h => exact .bsl a l c h
 | osl n off l c c' i h hc => exact .osl n off l c c' i (s _ _ h) hc
 | loose n off a c' => exact .loose n off a c'
 | nilm => exact .nilm
 | omap n i h => exact .omap n i (s _ _ h)
 | nilFunc => exact .nilFunc
 | nilIface => exact .nilIface
 | iface t v v' _ ih => exact .iface t v v' ih
 | agg cs cs' hl _ ih => exact .agg cs cs' hl ih
 | tuple c cs cs' hl _ ih => exact .tuple c cs cs' hl ih
 | func f f' a a' c c' hf ha hc _ _ ih1 ih2 => exact .func f f' a a' c c' (hf.mono s) ha hc ih1 ih2
theorem LRel.mono {ρ ρ' : Ctx} {l l' : List Value} (h : LRel ρ l l') (s : Sub ρ ρ') : LRel ρ' l l' := ⟨h.1, fun j v v' a b => (h.2 j v v' a b).mono s⟩
theorem list_eq_of {l l' : List Value} (hl : l.length = l'.length) (h : ∀ (j : Nat) (v v' : Value), l[j]? = some v → l'[j]? = some v' → v' = v) : l' = l := by
 refine List.ext_getElem? fun j => ?_
 rcases Nat.lt_or_ge j l.length with hj | hj
 · have a : l[j]? = some l[j] := List.getElem?_eq_getElem hj
   have b : l'[j]? = some (l'[j]'(by omega)) := List.getElem?_eq_getElem (by omega)
   rw [a, b, h j _ _ a b]
 · rw [List.getElem?_eq_none (by omega), List.getElem?_eq_none (by omega)]
theorem VRel.of_gnd {ρ : Ctx} {v v' : Value} (h : VRel ρ v v') : ∀ n, gnd n v = true → v' = v := by
 induction h with
 | top v => intro n h; cases n <;> simp [gnd, undef] at h
 | skip => intro n h; cases n <;> simp [gnd, skipV] at h
 | bptr a h => intro n h; cases n <;> simp [gnd] at h
 | optr m off i h => intro n h; cases n <;> simp [gnd] at h
 | bsl a l c h => intro n h; cases n <;> simp [gnd] at h
 | osl m off l c c' i h hc => intro n h; cases n <;> simp [gnd] at h
 | loose m off a c' => intro n h; cases n <;> simp [gnd] at h
 | omap m i h => intro n h; cases n <;> simp [gnd] at h
 | iface t v v' _ ih => intro n h; cases n <;> simp [gnd] at h; rw [ih _ h]
 | agg cs cs' hl _ ih =>
   intro n h
   cases n <;> simp [gnd] at h
   rename_i n
   rw [list_eq_of hl fun j v v' a b => ih j v v' a b n (h v (List.mem_of_getElem? a))]
 | tuple c cs cs' hl _ ih =>
   intro n h
   cases n <;> simp [gnd] at h
   rename_i n
   rw [list_eq_of hl fun j v v' a b => ih j v v' a b n (by
     rcases List.mem_cons.1 (List.mem_of_getElem? a) with rfl | hm
     · exact h.1
     · exact h.2 v hm)]
 | func f f' a a' c c' hf ha hc _ _ ih1 ih2 =>
   intro n h
   cases n <;> simp [gnd] at h
   rename_i n
   obtain ⟨⟨h0, h1⟩, h2⟩ := h
   rw [list_eq_of ha fun j v v' x y => ih1 j v v' x y n (h1 v (List.mem_of_getElem? x)), list_eq_of hc fun j v v' x y => ih2 j v v' x y n (h2 v (List.mem_of_getElem? x))]
   cases hf with
   | same h => rfl
   | yield m i h => simp at h0
 | _ => intro _ _; rfl
theorem VRel.refl_gnd {ρ : Ctx} : ∀ (n : Nat) (v : Value), gnd n v = true → VRel ρ v v := by
 intro n
 induction n with
 | zero => intro v h; simp [gnd] at h
 | succ n ih =>
   intro v h
   cases v with
   | bool b => exact .bool b
   | int k n => exact .int k n
   | float k n => exact .float k n
   | complex k a b => exact .complex k a b
   | string s => exact .string s
   | pointer a => cases a with
     | none => exact .nilp
     | some a => simp [gnd] at h
   | slice a l c => cases a with
     | none => exact .nils l c
     | some a => simp [gnd] at h
   | map r => cases r with
     | none => exact .nilm
     | some a => simp [gnd] at h
   | chan r => simp [gnd] at h
   | func f a c =>
     obtain ⟨a⟩ := a
     obtain ⟨c⟩ := c
     simp [gnd] at h
     obtain ⟨⟨h0, h1⟩, h2⟩ := h
     refine .func f f a a c c ?_ rfl rfl (fun j v v' x y => ?_) (fun j v v' x y => ?_)
     · exact .same f fun l e => by subst e; simp at h0
     · rw [x] at y; cases y; exact ih v (h1 v (List.mem_of_getElem? x))
     · rw [x] at y; cases y; exact ih v (h2 v (List.mem_of_getElem? x))
   | nilFunc => exact .nilFunc
   | iface t v => simp [gnd] at h; exact .iface t v v (ih v h)
   | nilIface => exact .nilIface
   | agg cs =>
     obtain ⟨cs⟩ := cs
     simp [gnd] at h
     exact .agg cs cs rfl fun j v v' x y => by rw [x] at y; cases y; exact ih v (h v (List.mem_of_getElem? x))
   | tuple cs =>
     obtain ⟨cs⟩ := cs
     cases cs with
     | nil => exact .top _
     | cons c cs =>
       simp [gnd] at h
       exact .tuple c cs (c :: cs) rfl fun j v v' x y => by
         rw [x] at y; cases y
         rcases List.mem_cons.1 (List.mem_of_getElem? x) with rfl | hm
         · exact ih _ h.1
         · exact ih _ (h.2 v hm)
theorem VRel.gd_eq {ρ : Ctx} {v v' : Value} (h : VRel ρ v v') (g : gd v = true) : v' = v := h.of_gnd 6 g
theorem VRel.gd_refl {ρ : Ctx} {v : Value} (g : gd v = true) : VRel ρ v v := .refl_gnd 6 v g
inductive ORel (ρ : Ctx) (i : Info) : AObj → Obj → Prop
 | cells (c c' : List Value) (e es : Nat) (soft : Bool) (fr : Nat × Nat) (h1 : c.length = i.size) (h2 : i.soft = soft) (h3 : i.es = es) (h4 : c'.length = i.rsz) (h5 : i.size ≤ i.rsz) (h6 : soft = false → i.rsz = i.size)
     (h7 : fr = (0, 0) ∨ (fr = (i.rsz, i.rsz + 1) ∧ es = 1)) (h8 : ∀ (j : Nat) (v v' : Value), c[j]? = some v → c'[j]? = some v' → VRel ρ v v') :
     ORel ρ i (.cells c e es soft) (.cells ⟨c'⟩ e fr)
 | iter (s : ByteArray) (p : Nat) : ORel ρ i (.iter s p) (.stringIter s p)
 | loop (st : LoopState) (pend : Option Code) (env : Env) (ps : Array Tmp) (assign body : Code) (fn : FuncId) (tmps : Array Value) (d : Nat)
     (h1 : tmps.size = env.sz) (h2 : ∀ t, VRel ρ (env.get t) (tmps.getD t undef)) :
     ORel ρ i (.loop st pend env ps assign body) (.loop { state := st, pending := pend, fn := fn, tmps := tmps, params := ps, assign := assign, body := body, defers := d })
 | map (es : List (Value × Value)) (es' : Array MapEntry) (clock : Nat) (h1 : es.length = es'.size)
     (h2 : ∀ (j : Nat) (p : Value × Value) (q : MapEntry), es[j]? = some p → es'[j]? = some q → q.key = p.1 ∧ VRel ρ p.2 q.val) : ORel ρ i (.map es) (.map es' clock)
theorem thawed {n : Nat} {fr : Nat × Nat} {p : Prop} (h : fr = (0, 0) ∨ (fr = (n, n + 1) ∧ p)) (off : Nat) (ho : off < n) : ¬ (fr.1 ≤ off ∧ off < fr.2) := by
 rcases h with rfl | ⟨rfl, _⟩ <;> simp <;> omega
theorem ORel.mono {ρ ρ' : Ctx} {i : Info} {o : AObj} {o' : Obj} (h : ORel ρ i o o') (s : Sub ρ ρ') : ORel ρ' i o o' := by
 cases h with
 | cells c c' e es soft fr h1 h2 h3 h4 h5 h6 h7 h8 => exact .cells c c' e es soft fr h1 h2 h3 h4 h5 h6 h7 fun j v v' a b => (h8 j v v' a b).mono s
 | iter x p => exact .iter x p
 | loop st pend env ps assign body fn tmps d h1 h2 => exact .loop st pend env ps assign body fn tmps d h1 fun t => (h2 t).mono s
 | map es es' cl h1 h2 => exact .map es es' cl h1 fun j p q a b => ⟨(h2 j p q a b).1, (h2 j p q a b).2.mono s⟩
structure BaseOk (B : Nat) (G : Base) (w : World) : Prop where
 cell : ∀ a v, G a = some v → a.spot = none ∧ a.block < B ∧ ∃ v', w.cell? a = some v' ∧ VRel (fun _ => none) v v'
 size : B ≤ w.heap.size
structure Rep (B : Nat) (G : Base) (ρ : Ctx) (h : H) (w : World) : Prop where
 base : BaseOk B G w
 own : ∀ n o, h.get n = some o → ∃ i o', ρ n = some i ∧ B ≤ i.blk ∧ w.heap[i.blk]? = some o' ∧ ORel ρ i o o'
 inj : ∀ n m i j, ρ n = some i → ρ m = some j → (h.get n).isSome = true → (h.get m).isSome = true → i.blk = j.blk → n = m
 fresh : ∀ n i, ρ n = some i → n < h.nx
 names : ∀ n, (h.get n).isSome = true → n < h.nx
def Live (ρ : Ctx) (h : H) (r : Nat) : Prop := ∃ n i, (h.get n).isSome = true ∧ ρ n = some i ∧ i.blk = r
structure Step (ρ : Ctx) (h : H) (w : World) (ρ' : Ctx) (h' : H) (w' : World) : Prop where
 sub : ∀ n, n < h.nx → ρ' n = ρ n
 nx : h.nx ≤ h'.nx
 size : w.heap.size ≤ w'.heap.size
 os : w'.os = w.os
 tape : w'.tape = w.tape
 output : w'.output = w.output
 frame : ∀ r, r < w.heap.size → ¬ Live ρ h r → w'.heap[r]? = w.heap[r]?
 live : ∀ r, r < w.heap.size → Live ρ' h' r → Live ρ h r
 gone : ∀ n, n < h.nx → h.get n = none → h'.get n = none
theorem Step.refl (ρ : Ctx) (h : H) (w : World) : Step ρ h w ρ h w :=
 ⟨fun _ _ => rfl, Nat.le_refl _, Nat.le_refl _, rfl, rfl, rfl, fun _ _ _ => rfl, fun _ _ h => h, fun _ _ h => h⟩
theorem Step.trans {ρ ρ1 ρ2 : Ctx} {h h1 h2 : H} {w w1 w2 : World} (a : Step ρ h w ρ1 h1 w1) (b : Step ρ1 h1 w1 ρ2 h2 w2) : Step ρ h w ρ2 h2 w2 :=
 ⟨fun n hn => (b.sub n (Nat.lt_of_lt_of_le hn a.nx)).trans (a.sub n hn), Nat.le_trans a.nx b.nx, Nat.le_trans a.size b.size, b.os.trans a.os, b.tape.trans a.tape, b.output.trans a.output,
  fun r hr hl => (b.frame r (Nat.lt_of_lt_of_le hr a.size) fun x => hl (a.live r hr x)).trans (a.frame r hr hl),
  fun r hr hl => a.live r hr (b.live r (Nat.lt_of_lt_of_le hr a.size) hl),
  fun n hn hg => b.gone n (Nat.lt_of_lt_of_le hn a.nx) (a.gone n hn hg)⟩
theorem Rep.sub_of {B : Nat} {G : Base} {ρ ρ' : Ctx} {h h' : H} {w w' : World} (r : Rep B G ρ h w) (s : Step ρ h w ρ' h' w') : Sub ρ ρ' :=
 fun n i e => by rw [s.sub n (r.fresh n i e)]; exact e
structure ERel (ρ : Ctx) (e : Env) (tmps : Array Value) : Prop where
 size : tmps.size = e.sz
 get : ∀ t, VRel ρ (e.get t) (tmps.getD t undef)
theorem ERel.mono {ρ ρ' : Ctx} {e : Env} {tmps : Array Value} (h : ERel ρ e tmps) (s : Sub ρ ρ') : ERel ρ' e tmps := ⟨h.size, fun t => (h.get t).mono s⟩
theorem lget_lput (l : List (Nat × Value)) (d t : Nat) (v : Value) : lget (lput l d v) t = if t = d then v else lget l t := by
 induction l with
 | nil =>
   simp only [lput, lget]
   cases hb : Nat.beq d t
   · rw [if_neg fun e => Nat.ne_of_beq_eq_false hb e.symm]
   · rw [if_pos (Nat.eq_of_beq_eq_true hb).symm]
 | cons p l ih =>
   obtain ⟨k, u⟩ := p
   simp only [lput]
   cases hk : Nat.beq k d
   · have hk' := Nat.ne_of_beq_eq_false hk
     simp only [lget, ih]
     cases ht : Nat.beq k t
     · rfl
     · have := Nat.eq_of_beq_eq_true ht
       simp only []
       rw [if_neg (by omega)]
   · have hk' := Nat.eq_of_beq_eq_true hk
     simp only [lget]
     subst hk'
     cases ht : Nat.beq k t
     · rw [if_neg fun e => Nat.ne_of_beq_eq_false ht e.symm]
     · rw [if_pos (Nat.eq_of_beq_eq_true ht).symm]
theorem Env.put_some {e e' : Env} {d : Nat} {v : Value} (h : e.put d v = some e') : d < e.sz ∧ e'.sz = e.sz ∧ ∀ t, e'.get t = if t = d then v else e.get t := by
 unfold Env.put at h
 split at h
 · rename_i hb
   cases h
   exact ⟨by simpa [Nat.blt_eq] using hb, rfl, fun t => lget_lput _ _ _ _⟩
 · cases h
theorem ERel.put {ρ : Ctx} {e e' : Env} {tmps : Array Value} {d : Nat} {v v' : Value} (h : ERel ρ e tmps) (hp : e.put d v = some e') (hv : VRel ρ v v') :
   ERel ρ e' (tmps.setIfInBounds d v') := by
 obtain ⟨h1, h2, h3⟩ := Env.put_some hp
 refine ⟨by simp [h.size, h2], fun t => ?_⟩
 rw [h3]
 by_cases ht : t = d
 · subst ht
   rw [if_pos rfl]
   have : t < tmps.size := by rw [h.size]; exact h1
   simp [Array.getD_eq_getD_getElem?, this, hv]
 · rw [if_neg ht]
   have := h.get t
   simpa [Array.getD_eq_getD_getElem?, Array.getElem?_setIfInBounds_ne (Ne.symm ht)] using this
theorem ERel.putO {ρ : Ctx} {e e' : Env} {a : Act} {d : Option Nat} {v v' : Value} (h : ERel ρ e a.tmps) (hp : e.putO d v = some e') (hv : VRel ρ v v') :
   ERel ρ e' (a.put d v').tmps := by
 cases d with
 | none => simp only [Env.putO] at hp; cases hp; exact h
 | some d => exact h.put hp hv
theorem ERel.eval {ρ : Ctx} {e : Env} {a : Act} (h : ERel ρ e a.tmps) (x : Operand) : VRel ρ (aeval e x) (a.eval x) := by
 cases x with
 | tmp t => exact h.get t
 | const v =>
   simp only [aeval, Act.eval]
   cases hg : gd v
   · exact .top v
   · exact .gd_refl hg
 | global g => exact .bptr _ rfl
 | func f => exact .func (.func f) (.func f) [] [] [] [] (.same _ (by simp)) rfl rfl (by simp) (by simp)
theorem prun_run {α : Type} {P : Program} {s : Sem α} {v : α} (h : prun P s = some v) (w : World) : s.run P w = .ok v w := by
 induction s with
 | pure a => simp only [prun] at h; cases h; rfl
 | program k ih => exact ih P h
 | mark m k ih => exact ih h
 | _ => simp [prun] at h
def ARel (ρ : Ctx) (a a' : Addr) : Prop := (a.spot = none ∧ a' = a) ∨ (a.spot = some 0 ∧ ∃ i, ρ a.block = some i ∧ a' = ⟨i.blk, a.off, none⟩)
theorem VRel.pointer_inv {ρ : Ctx} {a : Addr} {v' : Value} (h : VRel ρ (.pointer (some a)) v') : ∃ a', v' = .pointer (some a') ∧ ARel ρ a a' := by
 cases h with
 | bptr _ h => exact ⟨_, rfl, .inl ⟨h, rfl⟩⟩
 | optr n off i h => exact ⟨_, rfl, .inr ⟨rfl, i, h, rfl⟩⟩
def CRel (ρ : Ctx) (a : Addr) (c c' : Nat) : Prop :=
 c' = c ∨ (a.spot = some 0 ∧ ∃ i, ρ a.block = some i ∧ i.soft = true ∧ a.off + c * i.es = i.size ∧ c ≤ c' ∧ a.off + c' * i.es ≤ i.rsz)
theorem VRel.slice_inv {ρ : Ctx} {a : Addr} {l c : Nat} {v' : Value} (h : VRel ρ (.slice (some a) l c) v') :
   ∃ a' c', v' = .slice (some a') l c' ∧ ((ARel ρ a a' ∧ CRel ρ a c c') ∨ (a.spot = some 1 ∧ l = 0 ∧ c = 0)) := by
 cases h with
 | bsl _ _ _ h => exact ⟨_, _, rfl, .inl ⟨.inl ⟨h, rfl⟩, .inl rfl⟩⟩
 | osl n off _ _ c' i h hc =>
   refine ⟨_, _, rfl, .inl ⟨.inr ⟨rfl, i, h, rfl⟩, ?_⟩⟩
   rcases hc with rfl | ⟨h1, h2, h3, h4⟩
   · exact .inl rfl
   · exact .inr ⟨rfl, i, h, h1, h2, h3, h4⟩
 | loose n off a c' => exact ⟨_, _, rfl, .inr ⟨rfl, rfl, rfl⟩⟩
theorem VRel.slice_mk {ρ : Ctx} {a a' : Addr} {l c c' : Nat} (h : ARel ρ a a') (hc : CRel ρ a c c') : VRel ρ (.slice (some a) l c) (.slice (some a') l c') := by
 rcases h with ⟨h1, rfl⟩ | ⟨h1, i, h2, rfl⟩
 · rcases hc with rfl | ⟨h3, _⟩
   · exact .bsl _ _ _ h1
   · rw [h1] at h3; cases h3
 · obtain ⟨b, o, s⟩ := a
   simp only at h1 h2
   subst h1
   refine .osl b o l c c' i h2 ?_
   rcases hc with rfl | ⟨_, j, h3, h4, h5, h6, h7⟩
   · exact .inl rfl
   · rw [h2] at h3; cases h3
     exact .inr ⟨h4, h5, h6, h7⟩
theorem VRel.pointer_mk {ρ : Ctx} {a a' : Addr} (h : ARel ρ a a') : VRel ρ (.pointer (some a)) (.pointer (some a')) := by
 rcases h with ⟨h1, rfl⟩ | ⟨h1, i, h2, rfl⟩
 · exact .bptr _ h1
 · obtain ⟨b, o, s⟩ := a
   simp only at h1 h2
   subst h1
   exact .optr b o i h2
theorem ARel.spot {ρ : Ctx} {a a' : Addr} (h : ARel ρ a a') : a'.spot = none := by
 rcases h with ⟨h1, rfl⟩ | ⟨_, i, _, rfl⟩
 · exact h1
 · rfl
theorem Addr.add_eq {a : Addr} (h : a.spot = none) (n : Nat) : a.add n = ⟨a.block, a.off + n, none⟩ := by
 obtain ⟨b, o, s⟩ := a
 simp only at h
 subst h
 unfold Addr.add
 split <;> simp_all
theorem ARel.add {ρ : Ctx} {a a' : Addr} (h : ARel ρ a a') (n : Nat) : ARel ρ (aadd a n) (a'.add n) := by
 rw [Addr.add_eq h.spot]
 rcases h with ⟨h1, rfl⟩ | ⟨h1, i, h2, rfl⟩
 · exact .inl ⟨h1, by simp [aadd, h1]⟩
 · exact .inr ⟨h1, i, h2, by simp [aadd]⟩
theorem aadd_zero (a : Addr) : aadd a 0 = a := rfl
theorem acell_rel {B : Nat} {G : Base} {ρ : Ctx} {h : H} {w : World} (R : Rep B G ρ h w) {a a' : Addr} {v : Value} (ha : ARel ρ a a') (hc : acell G h a = some v) :
   ∃ v', w.cell? a' = some v' ∧ VRel ρ v v' := by
 unfold acell at hc
 rcases ha with ⟨h1, rfl⟩ | ⟨h1, i, h2, rfl⟩
 · simp only [h1] at hc
   obtain ⟨_, _, v', h4, h5⟩ := R.base.cell _ _ hc
   exact ⟨v', h4, h5.mono fun n i e => by cases e⟩
 · simp only [h1] at hc
   split at hc
   · rename_i c e es soft hg
     obtain ⟨j, o', h3, _, h4, h5⟩ := R.own _ _ hg
     rw [h2] at h3; cases h3
     cases h5 with
     | cells _ c' _ _ _ fr g1 g2 g3 g4 g5 g6 g7 g8 =>
       have hlt : a.off < c.length := (List.getElem?_eq_some_iff.1 hc).1
       have : c'[a.off]? = some (c'[a.off]'(by omega)) := List.getElem?_eq_getElem (by omega)
       refine ⟨_, ?_, g8 _ _ _ hc this⟩
       simp only [World.cell?, h4]
       simp only [List.getElem?_toArray]
       exact this
   · cases hc
theorem baseCells_len {G : Base} : ∀ (n : Nat) (a : Addr) (l : List Value), baseCells G n a = some l → l.length = n ∧ ∀ j v, l[j]? = some v → G (aadd a j) = some v
 | 0, a, l, h => by simp only [baseCells] at h; cases h; simp
 | n + 1, a, l, h => by
   simp only [baseCells] at h
   split at h
   · rename_i v hv
     split at h
     · rename_i l' hl'
       cases h
       obtain ⟨h1, h2⟩ := baseCells_len n _ _ hl'
       refine ⟨by simp [h1], fun j u hj => ?_⟩
       cases j with
       | zero => simp at hj; subst hj; exact hv
       | succ j =>
         have := h2 j u (by simpa using hj)
         rw [← this]
         simp [aadd, Nat.add_assoc, Nat.add_comm 1 j]
     · cases h
   · cases h
theorem acells_cell {G : Base} {h : H} {n : Nat} {a : Addr} {l : List Value} (hl : acells G h n a = some l) :
   l.length = n ∧ ∀ j v, l[j]? = some v → acell G h (aadd a j) = some v := by
 unfold acells at hl
 split at hl
 · rename_i hs
   obtain ⟨h1, h2⟩ := baseCells_len n a l hl
   refine ⟨h1, fun j v hj => ?_⟩
   have := h2 j v hj
   simp only [acell, aadd, hs]
   simpa [aadd, hs] using this
 · rename_i hs
   split at hl
   · rename_i c e es soft hg
     simp only at hl
     split at hl
     · rename_i hb
       cases hl
       refine ⟨Nat.eq_of_beq_eq_true hb, fun j v hj => ?_⟩
       simp only [acell, aadd, hs, hg]
       rw [List.getElem?_take] at hj
       split at hj
       · rwa [List.getElem?_drop] at hj
       · cases hj
     · cases hl
   · cases hl
 · cases hl
theorem acells_rel {B : Nat} {G : Base} {ρ : Ctx} {h : H} {w : World} (R : Rep B G ρ h w) {n : Nat} {a a' : Addr} {l : List Value} (ha : ARel ρ a a') (hl : acells G h n a = some l) :
   ∃ l', LRel ρ l l' ∧ ∀ (P : Program) (w2 : World), w2.heap = w.heap → (loadCells a' n).run P w2 = .ok l'.toArray w2 := by
 obtain ⟨h1, h2⟩ := acells_cell hl
 have key : ∀ j, j < n → ∃ v', w.cell? (a'.add j) = some v' ∧ VRel ρ (l.getD j undef) v' := by
   intro j hj
   have e : l[j]? = some (l.getD j undef) := by simp [List.getD, List.getElem?_eq_getElem (show j < l.length by omega)]
   exact acell_rel R (ha.add j) (h2 j _ e)
 have key2 : ∃ l' : List Value, l'.length = n ∧ ∀ j, j < n → ∃ v', l'[j]? = some v' ∧ w.cell? (a'.add j) = some v' ∧ VRel ρ (l.getD j undef) v' := by
   clear h1 h2 hl
   induction n with
   | zero => exact ⟨[], rfl, fun j hj => by omega⟩
   | succ n ih =>
     obtain ⟨l', g1, g2⟩ := ih fun j hj => key j (by omega)
     obtain ⟨v', g3, g4⟩ := key n (by omega)
     refine ⟨l' ++ [v'], by simp [g1], fun j hj => ?_⟩
     by_cases e : j = n
     · subst e
       exact ⟨v', by rw [List.getElem?_append_right (by omega)]; simp [g1], g3, g4⟩
     · obtain ⟨u, x1, x2, x3⟩ := g2 j (by omega)
       exact ⟨u, by rw [List.getElem?_append_left (by omega)]; exact x1, x2, x3⟩
 obtain ⟨l', g1, g2⟩ := key2
 refine ⟨l', ⟨by omega, fun j v v' x y => ?_⟩, fun P w2 hw2 => ?_⟩
 · have hj : j < n := by have := (List.getElem?_eq_some_iff.1 x).1; omega
   obtain ⟨u, y1, _, y3⟩ := g2 j hj
   rw [y] at y1; cases y1
   rwa [show l.getD j undef = v by simp [List.getD, x]] at y3
 · rw [← g1]
   refine run_loadCells_list w2 a' l' fun j v hj => ?_
   obtain ⟨u, y1, y2, _⟩ := g2 j (by have := (List.getElem?_eq_some_iff.1 hj).1; omega)
   rw [hj] at y1; cases y1
   simp only [World.cell?, hw2]
   exact y2
theorem Rep.alloc {B : Nat} {G : Base} {ρ : Ctx} {h : H} {w : World} (R : Rep B G ρ h w) (i : Info) (o : AObj) (o' : Obj) (hi : i.blk = w.heap.size)
   (ho : ORel (fun n => if n = h.nx then some i else ρ n) i o o') {w1 : World} (hw : w1.heap = w.heap.push o') (h1 : w1.os = w.os) (h2 : w1.tape = w.tape) (h3 : w1.output = w.output) :
   Rep B G (fun n => if n = h.nx then some i else ρ n) (h.push o) w1 ∧ Step ρ h w (fun n => if n = h.nx then some i else ρ n) (h.push o) w1 := by
 have hsub : Sub ρ (fun n => if n = h.nx then some i else ρ n) := fun n j e => by
   have := R.fresh n j e
   simp only
   rw [if_neg (by omega)]; exact e
 have hold : ∀ r, r < w.heap.size → w1.heap[r]? = w.heap[r]? := fun r hr => by
   rw [hw, Array.getElem?_push, if_neg (by omega)]
 have hlt : ∀ n j, ρ n = some j → (h.get n).isSome = true → j.blk < w.heap.size := fun n j e g => by
   obtain ⟨o, ho⟩ := Option.isSome_iff_exists.1 g
   obtain ⟨k, o', h1, _, h3, _⟩ := R.own n o ho
   rw [e] at h1; cases h1
   exact (Array.getElem?_eq_some_iff.1 h3).1
 refine ⟨⟨⟨fun a v e => ?_, by rw [hw]; simp; have := R.base.size; omega⟩, fun n x e => ?_, fun n m j k e1 e2 g1 g2 e => ?_, fun n j e => ?_, fun n g => ?_⟩,
   ⟨fun n hn => if_neg (by omega), by simp [H.nx_push], by rw [hw]; simp, h1, h2, h3, fun r hr _ => hold r hr, fun r hr hl => ?_, fun n hn hg => by rw [H.get_push, if_neg (by omega)]; exact hg⟩⟩
 · obtain ⟨g1, g2, u, g3, g4⟩ := R.base.cell a v e
   refine ⟨g1, g2, u, ?_, g4⟩
   have hs := R.base.size
   simp only [World.cell?] at g3 ⊢
   rw [hold _ (by omega)]; exact g3
 · rw [H.get_push] at e
   by_cases hn : n = h.nx
   · subst hn
     rw [if_pos rfl] at e; cases e
     refine ⟨i, o', by simp, by rw [hi]; exact R.base.size, ?_, ho⟩
     rw [hw, hi]; simp
   · rw [if_neg hn] at e
     obtain ⟨j, o2, g1, g2, g3, g4⟩ := R.own n x e
     exact ⟨j, o2, by simp [hn, g1], g2, by rw [hold _ (Array.getElem?_eq_some_iff.1 g3).1]; exact g3, g4.mono hsub⟩
 · rw [H.get_push] at g1 g2
   by_cases hn : n = h.nx <;> by_cases hm : m = h.nx
   · omega
   · rw [if_pos hn] at e1; rw [if_neg hm] at e2 g2; cases e1
     have := hlt m k e2 g2; omega
   · rw [if_neg hn] at e1 g1; rw [if_pos hm] at e2; cases e2
     have := hlt n j e1 g1; omega
   · rw [if_neg hn] at e1 g1; rw [if_neg hm] at e2 g2
     exact R.inj n m j k e1 e2 g1 g2 e
 · rw [H.nx_push]
   by_cases hn : n = h.nx
   · omega
   · rw [if_neg hn] at e; have := R.fresh n j e; omega
 · rw [H.nx_push]
   rw [H.get_push] at g
   by_cases hn : n = h.nx
   · omega
   · rw [if_neg hn] at g; have := R.names n g; omega
 · obtain ⟨n, j, g1, g2, g3⟩ := hl
   simp only at g2
   rw [H.get_push] at g1
   by_cases hn : n = h.nx
   · rw [if_pos hn] at g2; cases g2; omega
   · rw [if_neg hn] at g1 g2
     exact ⟨n, j, g1, g2, g3⟩
theorem Rep.update {B : Nat} {G : Base} {ρ : Ctx} {h : H} {w w1 : World} (R : Rep B G ρ h w) {n : Nat} {i : Info} {o o2 : AObj} {o2' : Obj} (hn : h.get n = some o) (hi : ρ n = some i)
   (ho : ORel ρ i o2 o2') (hb : w1.heap[i.blk]? = some o2') (hr : ∀ r, r ≠ i.blk → w1.heap[r]? = w.heap[r]?) (hsz : w1.heap.size = w.heap.size)
   (h1 : w1.os = w.os) (h2 : w1.tape = w.tape) (h3 : w1.output = w.output) :
   Rep B G ρ (h.set n o2) w1 ∧ Step ρ h w ρ (h.set n o2) w1 := by
 have hB : B ≤ i.blk := by
   obtain ⟨j, o', g1, g2, _⟩ := R.own n o hn
   rw [hi] at g1; cases g1; exact g2
 have hliv : (h.get n).isSome = true := by rw [hn]; rfl
 refine ⟨⟨⟨fun a v e => ?_, by rw [hsz]; exact R.base.size⟩, fun m x e => ?_, fun m k j l e1 e2 g1 g2 e => ?_, fun m j e => R.fresh m j e, fun m g => ?_⟩,
   ⟨fun _ _ => rfl, Nat.le_refl _, Nat.le_of_eq hsz.symm, h1, h2, h3, fun r _ hl => hr r fun e => hl ⟨n, i, hliv, hi, e.symm⟩, fun r _ hl => ?_, fun m hm hg => ?_⟩⟩
 · obtain ⟨g1, g2, u, g3, g4⟩ := R.base.cell a v e
   refine ⟨g1, g2, u, ?_, g4⟩
   simp only [World.cell?] at g3 ⊢
   rw [hr _ (by omega)]; exact g3
 · rw [H.get_set] at e
   by_cases hm : m = n
   · subst hm
     rw [if_pos rfl] at e; cases e
     exact ⟨i, o2', hi, hB, hb, ho⟩
   · rw [if_neg hm] at e
     obtain ⟨j, o3, g1, g2, g3, g4⟩ := R.own m x e
     refine ⟨j, o3, g1, g2, ?_, g4⟩
     rw [hr _ fun eb => hm (R.inj m n j i g1 hi (by rw [e]; rfl) hliv eb)]
     exact g3
 · have a1 : (h.get m).isSome = true := by
     rw [H.get_set] at g1
     by_cases hm : m = n
     · subst hm; exact hliv
     · rwa [if_neg hm] at g1
   have a2 : (h.get k).isSome = true := by
     rw [H.get_set] at g2
     by_cases hm : k = n
     · subst hm; exact hliv
     · rwa [if_neg hm] at g2
   exact R.inj m k j l e1 e2 a1 a2 e
 · rw [H.get_set] at g
   by_cases hm : m = n
   · subst hm; exact R.names _ hliv
   · rw [if_neg hm] at g; exact R.names m g
 · obtain ⟨m, j, g1, g2, g3⟩ := hl
   rw [H.get_set] at g1
   by_cases hm : m = n
   · subst hm; exact ⟨m, j, hliv, g2, g3⟩
   · rw [if_neg hm] at g1; exact ⟨m, j, g1, g2, g3⟩
 · rw [H.get_set]
   by_cases e : m = n
   · subst e; rw [hn] at hg; cases hg
   · rw [if_neg e]; exact hg
theorem Rep.killed {B : Nat} {G : Base} {ρ : Ctx} {h : H} {w : World} (R : Rep B G ρ h w) (n : Nat) : Rep B G ρ (h.kill n) w ∧ Step ρ h w ρ (h.kill n) w := by
 have key : ∀ m, ((h.kill n).get m).isSome = true → (h.get m).isSome = true := fun m g => by
   rw [H.get_kill] at g
   by_cases e : m = n
   · rw [if_pos e] at g; cases g
   · rwa [if_neg e] at g
 refine ⟨⟨R.base, fun m x e => ?_, fun m k i j e1 e2 g1 g2 e => R.inj m k i j e1 e2 (key m g1) (key k g2) e, R.fresh, fun m g => R.names m (key m g)⟩,
   ⟨fun _ _ => rfl, Nat.le_refl _, Nat.le_refl _, rfl, rfl, rfl, fun _ _ _ => rfl, fun r _ hl => ?_, fun m _ hg => ?_⟩⟩
 · rw [H.get_kill] at e
   by_cases hm : m = n
   · rw [if_pos hm] at e; cases e
   · rw [if_neg hm] at e; exact R.own m x e
 · obtain ⟨m, j, g1, g2, g3⟩ := hl
   exact ⟨m, j, key m g1, g2, g3⟩
 · rw [H.get_kill]
   by_cases e : m = n
   · rw [if_pos e]
   · rw [if_neg e]; exact hg
theorem Rep.elsewhere {B : Nat} {G : Base} {ρ : Ctx} {h : H} {w w1 : World} (R : Rep B G ρ h w) (hr : ∀ r, r < w.heap.size → (r < B ∨ Live ρ h r) → w1.heap[r]? = w.heap[r]?) (hsz : w.heap.size ≤ w1.heap.size) : Rep B G ρ h w1 := by
 refine ⟨⟨fun a v e => ?_, Nat.le_trans R.base.size hsz⟩, fun m x e => ?_, R.inj, R.fresh, R.names⟩
 · obtain ⟨g1, g2, u, g3, g4⟩ := R.base.cell a v e
   refine ⟨g1, g2, u, ?_, g4⟩
   simp only [World.cell?] at g3 ⊢
   rw [hr _ (Nat.lt_of_lt_of_le g2 R.base.size) (.inl g2)]; exact g3
 · obtain ⟨j, o3, g1, g2, g3, g4⟩ := R.own m x e
   exact ⟨j, o3, g1, g2, by rw [hr _ (Array.getElem?_eq_some_iff.1 g3).1 (.inr ⟨m, j, by rw [e]; rfl, g1, rfl⟩)]; exact g3, g4⟩
theorem Rep.drew {B : Nat} {G : Base} {ρ : Ctx} {h : H} {w : World} (R : Rep B G ρ h w) : Rep B G ρ h w.drew := R.elsewhere (fun _ _ _ => rfl) (Nat.le_refl _)
theorem Step.drew (ρ : Ctx) (h : H) (w : World) : Step ρ h w ρ h w.drew := ⟨fun _ _ => rfl, Nat.le_refl _, Nat.le_refl _, rfl, rfl, rfl, fun _ _ _ => rfl, fun _ _ h => h, fun _ _ h => h⟩
theorem Rep.renew {B : Nat} {G : Base} {ρ : Ctx} {h : H} {w w1 : World} (R : Rep B G ρ h w) {n : Nat} {i j : Info} {o o2 : AObj} {o2' : Obj} (hn : h.get n = some o) (hi : ρ n = some i) (hj : j.blk = i.blk)
   (ho : ORel (fun m => if m = h.nx then some j else ρ m) j o2 o2') (hb : w1.heap[i.blk]? = some o2') (hr : ∀ r, r ≠ i.blk → w1.heap[r]? = w.heap[r]?) (hsz : w1.heap.size = w.heap.size)
   (h1 : w1.os = w.os) (h2 : w1.tape = w.tape) (h3 : w1.output = w.output) :
   Rep B G (fun m => if m = h.nx then some j else ρ m) ((h.kill n).push o2) w1 ∧ Step ρ h w (fun m => if m = h.nx then some j else ρ m) ((h.kill n).push o2) w1 := by
 have hsub : Sub ρ (fun m => if m = h.nx then some j else ρ m) := fun m k e => by
   have := R.fresh m k e
   exact (if_neg (by omega)).trans e
 have hB : B ≤ i.blk ∧ i.blk < w.heap.size := by
   obtain ⟨k, o', g1, g2, g3, _⟩ := R.own n o hn
   rw [hi] at g1; cases g1; exact ⟨g2, (Array.getElem?_eq_some_iff.1 g3).1⟩
 have hliv : (h.get n).isSome = true := by rw [hn]; rfl
 have hget : ∀ m, ((h.kill n).push o2).get m = if m = h.nx then some o2 else if m = n then none else h.get m := fun m => by
   rw [H.get_push, H.get_kill]; rfl
 have hnn := R.names n hliv
 refine ⟨⟨⟨fun a v e => ?_, by rw [hsz]; exact R.base.size⟩, fun m x e => ?_, fun m k a b e1 e2 g1 g2 e => ?_, fun m k e => ?_, fun m g => ?_⟩,
   ⟨fun m hm => if_neg (by omega), by simp [H.nx_push, H.nx_kill], Nat.le_of_eq hsz.symm, h1, h2, h3, fun r _ hl => hr r fun e => hl ⟨n, i, hliv, hi, e.symm⟩, fun r _ hl => ?_, fun m hm hg => ?_⟩⟩
 · obtain ⟨g1, g2, u, g3, g4⟩ := R.base.cell a v e
   refine ⟨g1, g2, u, ?_, g4⟩
   simp only [World.cell?] at g3 ⊢
   rw [hr _ (by omega)]; exact g3
 · rw [hget] at e
   by_cases hm : m = h.nx
   · subst hm
     rw [if_pos rfl] at e; cases e
     exact ⟨j, o2', by simp, by rw [hj]; exact hB.1, by rw [hj]; exact hb, ho⟩
   · rw [if_neg hm] at e
     by_cases hmn : m = n
     · rw [if_pos hmn] at e; cases e
     · rw [if_neg hmn] at e
       obtain ⟨k, o3, g1, g2, g3, g4⟩ := R.own m x e
       refine ⟨k, o3, (if_neg hm).trans g1, g2, ?_, g4.mono hsub⟩
       rw [hr _ fun eb => hmn (R.inj m n k i g1 hi (by rw [e]; rfl) hliv eb)]
       exact g3
 · rw [hget] at g1 g2
   replace e1 : (if m = h.nx then some j else ρ m) = some a := e1
   replace e2 : (if k = h.nx then some j else ρ k) = some b := e2
   by_cases hm : m = h.nx <;> by_cases hk : k = h.nx
   · omega
   · rw [if_pos hm] at e1; rw [if_neg hk] at e2 g2; cases e1
     by_cases hkn : k = n
     · rw [if_pos hkn] at g2; cases g2
     · rw [if_neg hkn] at g2
       exact absurd (R.inj k n b i e2 hi g2 hliv (by omega)) hkn
   · rw [if_neg hm] at e1 g1; rw [if_pos hk] at e2; cases e2
     by_cases hmn : m = n
     · rw [if_pos hmn] at g1; cases g1
     · rw [if_neg hmn] at g1
       exact absurd (R.inj m n a i e1 hi g1 hliv (by omega)) hmn
   · rw [if_neg hm] at e1 g1; rw [if_neg hk] at e2 g2
     by_cases hmn : m = n
     · rw [if_pos hmn] at g1; cases g1
     · rw [if_neg hmn] at g1
       by_cases hkn : k = n
       · rw [if_pos hkn] at g2; cases g2
       · rw [if_neg hkn] at g2
         exact R.inj m k a b e1 e2 g1 g2 e
 · rw [H.nx_push, H.nx_kill]
   replace e : (if m = h.nx then some j else ρ m) = some k := e
   by_cases hm : m = h.nx
   · omega
   · rw [if_neg hm] at e; have := R.fresh m k e; omega
 · rw [H.nx_push, H.nx_kill]
   rw [hget] at g
   by_cases hm : m = h.nx
   · omega
   · rw [if_neg hm] at g
     by_cases hmn : m = n
     · rw [if_pos hmn] at g; cases g
     · rw [if_neg hmn] at g; have := R.names m g; omega
 · obtain ⟨m, k, g1, g2, g3⟩ := hl
   replace g2 : (if m = h.nx then some j else ρ m) = some k := g2
   rw [hget] at g1
   by_cases hm : m = h.nx
   · rw [if_pos hm] at g2; cases g2
     exact ⟨n, i, hliv, hi, by omega⟩
   · rw [if_neg hm] at g1 g2
     by_cases hmn : m = n
     · rw [if_pos hmn] at g1; cases g1
     · rw [if_neg hmn] at g1
       exact ⟨m, k, g1, g2, g3⟩
 · rw [hget, if_neg (by omega)]
   by_cases hmn : m = n
   · rw [if_pos hmn]
   · rw [if_neg hmn]; exact hg
theorem run_sto (P : Program) (g o : Nat) (t : TypeId) (fz : Nat × Nat) : ∀ (vs : List Value) (i : Nat) (cur : Array Value) (w : World), w.heap[g]? = some (.cells cur t fz) →
   (∀ j, o + i ≤ j → j < o + i + vs.length → ¬ (fz.1 ≤ j ∧ j < fz.2)) → o + i + vs.length ≤ cur.size → (∀ v ∈ vs, v.oneCell' = true) →
   (storeCells ⟨g, o, none⟩ vs i).run P w = .ok () (w.setRow g (cur.toList.take (o + i) ++ vs ++ cur.toList.drop (o + i + vs.length)).toArray)
 | [], i, cur, w, hg, _, _, _ => by
   simp only [storeCells, List.append_nil, List.length_nil, Nat.add_zero, List.take_append_drop, Array.toArray_toList]
   rw [setRow_self w g cur t fz hg]
   rfl
 | v :: rest, i, cur, w, hg, hfz, hl, h1 => by
   have hi : o + i < cur.size := by simp at hl; omega
   have hadd : (⟨g, o, none⟩ : Addr).add i = ⟨g, o + i, none⟩ := by unfold Addr.add; split <;> simp_all
   have hcell : w.cell? ⟨g, o + i, none⟩ = some cur[o + i] := by simp [World.cell?, hg, hi]
   have hfro : w.frozen? ⟨g, o + i, none⟩ = false := by
     obtain ⟨lo, hi'⟩ := fz
     have := hfz (o + i) (by omega) (by simp)
     simp only [World.frozen?, hg, Bool.and_eq_false_iff, decide_eq_false_iff_not]
     simp only at this
     omega
   have hst : (store ((⟨g, o, none⟩ : Addr).add i) v).run P w = .ok () (w.setRow g (cur.setIfInBounds (o + i) v)) := by
     rw [hadd, run_store P w _ v _ (h1 v (by simp)), hcell]
     simp [hfro, setCell_eq_setRow w g (o + i) cur t fz v hg]
   have ih := run_sto P g o t fz rest (i + 1) (cur.setIfInBounds (o + i) v) (w.setRow g (cur.setIfInBounds (o + i) v)) (setRow_heap w g cur _ t _ hg) (fun j a b => hfz j (by omega) (by simp at b ⊢; omega)) (by simp at hl ⊢; omega) (fun x hx => h1 x (by simp [hx]))
   simp only [storeCells, Sem.run_bind, hst, Result.andThen_ok, ih, setRow_setRow]
   congr 3
   have e := list_seg_step cur.toList (o + i) v rest (by simp at hl ⊢; omega)
   simpa [Array.toList_setIfInBounds, Nat.add_assoc] using e
end Go.Ab
