/- The evaluator of the model on a small heap of its own: definitions. -/
import Derived.RangeFuncRecord
import Derived.RangeFuncIn
import Derived.RangeFuncLeaves
import Derived.Below
import Derived.Orders
set_option linter.all false
/- The abstract semantics: a deterministic big-step evaluator over a small abstract memory, for the subset of operations that the program uses. -/
namespace Go.Ab
open Go
inductive Tr (α : Type) where
 | leaf
 | node (l : Tr α) (v : Option α) (r : Tr α)
def Tr.get {α : Type} : Tr α → Nat → Option α
 | .leaf, _ => none
 | .node l v r, n =>
   match Nat.beq n 0 with
   | true => v
   | false => match Nat.beq (n % 2) 1 with
     | true => l.get (n / 2)
     | false => r.get (n / 2 - 1)
def Tr.mk {α : Type} : Nat → Nat → Option α → Tr α
 | 0, _, o => .node .leaf o .leaf
 | f + 1, n, o =>
   match Nat.beq n 0 with
   | true => .node .leaf o .leaf
   | false => match Nat.beq (n % 2) 1 with
     | true => .node (Tr.mk f (n / 2) o) none .leaf
     | false => .node .leaf none (Tr.mk f (n / 2 - 1) o)
def Tr.set {α : Type} : Tr α → Nat → Option α → Tr α
 | .leaf, n, o => Tr.mk n n o
 | .node l v r, n, o =>
   match Nat.beq n 0 with
   | true => .node l o r
   | false => match Nat.beq (n % 2) 1 with
     | true => .node (l.set (n / 2) o) v r
     | false => .node l v (r.set (n / 2 - 1) o)
structure Env where
 sz : Nat
 l : List (Nat × Value)
def lget : List (Nat × Value) → Nat → Value
 | [], _ => undef
 | (k, u) :: l, t => match Nat.beq k t with | true => u | false => lget l t
def lput : List (Nat × Value) → Nat → Value → List (Nat × Value)
 | [], d, v => [(d, v)]
 | (k, u) :: l, d, v => match Nat.beq k d with | true => (d, v) :: l | false => (k, u) :: lput l d v
def Env.get (e : Env) (t : Nat) : Value := lget e.l t
def Env.put (e : Env) (d : Nat) (v : Value) : Option Env :=
 match Nat.blt d e.sz with | true => some { sz := e.sz, l := lput e.l d v } | false => none
def Env.putO (e : Env) (d : Option Nat) (v : Value) : Option Env :=
 match d with | some d => e.put d v | none => some e
def numbered : Nat → List Value → List (Nat × Value)
 | _, [] => []
 | i, v :: l => (i, v) :: numbered (i + 1) l
def Env.start (ntmps : Nat) (args : List Value) : Env := { sz := max args.length ntmps, l := numbered 0 args }
inductive AObj where
 | cells (c : List Value) (e : TypeId) (es : Nat) (soft : Bool)
 | iter (s : ByteArray) (pos : Nat)
 | loop (st : LoopState) (pend : Option Code) (env : Env) (ps : Array Tmp) (assign body : Code)
 | map (es : List (Value × Value))
structure H where
 tr : Tr AObj
 nx : Nat
def H.empty : H := { tr := .leaf, nx := 0 }
def H.get (h : H) (n : Nat) : Option AObj := h.tr.get n
def H.set (h : H) (n : Nat) (o : AObj) : H := { tr := h.tr.set n (some o), nx := h.nx }
def H.kill (h : H) (n : Nat) : H := { tr := h.tr.set n none, nx := h.nx }
def H.push (h : H) (o : AObj) : H := { tr := h.tr.set h.nx (some o), nx := h.nx + 1 }
def gnd : Nat → Value → Bool
 | 0, _ => false
 | _ + 1, .bool _ | _ + 1, .int _ _ | _ + 1, .float _ _ | _ + 1, .complex _ _ _ | _ + 1, .string _ | _ + 1, .nilFunc | _ + 1, .nilIface => true
 | _ + 1, .pointer none | _ + 1, .slice none _ _ | _ + 1, .map none => true
 | n + 1, .iface _ v => gnd n v
 | n + 1, .agg cs => cs.toList.all (gnd n)
 | n + 1, .tuple (⟨v :: vs⟩) => gnd n v && vs.all (gnd n)
 | n + 1, .func fn first cap => (match fn with | .yield _ => false | _ => true) && first.toList.all (gnd n) && cap.toList.all (gnd n)
 | _ + 1, _ => false
abbrev gd (v : Value) : Bool := gnd 6 v
def one : Value → Bool
 | .agg _ | .tuple _ | .chan _ => false
 | _ => true
def skipV : Value := .chan none
def aeval (e : Env) : Operand → Value
 | .tmp t => e.get t
 | .const v => match gd v with | true => v | false => undef
 | .global g => .pointer (some ⟨g, 0, none⟩)
 | .func f => .func (.func f) #[] #[]
def prun {α : Type} (P : Program) : Sem α → Option α
 | .pure a => some a
 | .program k => prun P (k P)
 | .mark _ k => prun P k
 | _ => none
def tsz (P : Program) (t : TypeId) : Option Nat := match P.info? t with | some i => some i.size | none => none
def tby (P : Program) (t : TypeId) : Option Nat := match P.info? t with | some i => some i.bytes | none => none
def tzero (P : Program) (t : TypeId) : Option Value := match P.info? t with | some i => i.zero | none => none
def isAggD : TypeDesc → Bool
 | .struct _ | .array _ _ => true
 | _ => false
abbrev Base := Addr → Option Value
def aadd (a : Addr) (n : Nat) : Addr := { block := a.block, off := a.off + n, spot := a.spot }
def acell (G : Base) (h : H) (a : Addr) : Option Value :=
 match a.spot with
 | none => G a
 | some 0 => match h.get a.block with
   | some (.cells c _ _ _) => c[a.off]?
   | _ => none
 | _ => none
def baseCells (G : Base) : Nat → Addr → Option (List Value)
 | 0, _ => some []
 | n + 1, a => match G a with
   | some v => match baseCells G n (aadd a 1) with
     | some l => some (v :: l)
     | none => none
   | none => none
def acells (G : Base) (h : H) (n : Nat) (a : Addr) : Option (List Value) :=
 match a.spot with
 | none => baseCells G n a
 | some 0 => match h.get a.block with
   | some (.cells c _ _ _) =>
     let l := (c.drop a.off).take n
     match Nat.beq l.length n with | true => some l | false => none
   | _ => none
 | _ => none
def asto (h : H) (a : Addr) (vs : List Value) : Option H :=
 match a.spot with
 | some 0 => match h.get a.block with
   | some (.cells c e es soft) =>
     match Nat.ble (a.off + vs.length) c.length && vs.all one with
     | true => some (h.set a.block (.cells (c.take a.off ++ (vs ++ c.drop (a.off + vs.length))) e es soft))
     | false => none
   | _ => none
 | _ => none
def aloadVar (P : Program) (G : Base) (h : H) (t : TypeId) (a : Addr) : Option Value :=
 match P.underlying t with
 | none => none
 | some d => match isAggD d with
   | true => match tsz P t with
     | some n => match acells G h n a with
       | some l => some (.agg ⟨l⟩)
       | none => none
     | none => none
   | false => acell G h a
def astoreVar (P : Program) (h : H) (t : TypeId) (a : Addr) (v : Value) : Option H :=
 match v with
 | .tuple _ => none
 | v => match tsz P t with
   | some n => match Nat.beq v.cells.size n with
     | true => asto h a v.cells.toList
     | false => none
   | none => none
def newCells (h : H) (e : TypeId) (es : Nat) (cs : List Value) (soft : Bool) : Value × H :=
 (.pointer (some ⟨h.nx, 0, some 0⟩), h.push (.cells cs e es soft))
def asInt? : Value → Option Int
 | .int _ n => some n
 | _ => none
def aplaces (P : Program) (fs : List Field) : Option (List (Nat × Nat)) :=
 match fs with
 | [] => some []
 | f :: fs => match tsz P f.type, aplaces P fs with
   | some n, some l => some ((f.offset, n) :: l)
   | _, _ => none
def repeatCells : Nat → List Value → List Value
 | 0, _ => []
 | n + 1, z => z ++ repeatCells n z
def setRange (cs : List Value) (off : Nat) (vs : List Value) : List Value := cs.take off ++ (vs ++ cs.drop (off + vs.length))
def afill (place : Nat → Option (Nat × Nat)) (cells : List Value) : List (Nat × Value) → Option (List Value)
 | [] => some cells
 | (i, v) :: rest =>
   match v with
   | .tuple _ => none
   | v => match place i with
     | none => none
     | some (off, size) =>
       match Nat.beq v.cells.size size && Nat.ble (off + v.cells.size) cells.length with
       | true => afill place (setRange cells off v.cells.toList) rest
       | false => none
def abuild (P : Program) (t : TypeId) (parts : List (Nat × Value)) : Option Value :=
 match tzero P t with
 | none => none
 | some z => match gd z, z.cells.toList, P.underlying t with
   | true, zs, some (.struct fields) => match aplaces P fields.toList with
     | some pl => match afill (fun i => pl[i]?) zs parts with
       | some cs => some (.agg ⟨cs⟩)
       | none => none
     | none => none
   | true, zs, some (.array _ e) => match tsz P e with
     | some n => match afill (fun i => some (i * n, n)) zs parts with
       | some cs => some (.agg ⟨cs⟩)
       | none => none
     | none => none
   | _, _, _ => none
def abuildSlice (P : Program) (h : H) (t : TypeId) (len : Nat) (parts : List (Nat × Value)) : Option (Value × H) :=
 match P.underlying t with
 | some (.slice e) => match tsz P e, tzero P e with
   | some n, some z =>
     match gd z && Nat.ble (len * n) 16777216 && Nat.beq z.cells.size n with
     | true => match afill (fun i => some (i * n, n)) (repeatCells len z.cells.toList) parts with
       | some cs => some (.slice (some ⟨h.nx, 0, some 0⟩) len len, h.push (.cells cs e n false))
       | none => none
     | false => none
   | _, _ => none
 | _ => none
def optInt : Option Value → Int → Option Int
 | some v, _ => asInt? v
 | none, d => some d
def aslice (P : Program) (h : H) (t : TypeId) (x : Value) (lo hi mx : Option Value) : Option Value :=
 match P.underlying t with
 | none => none
 | some d =>
   match d, x with
   | .string, .string s =>
     match mx with
     | some _ => none
     | none =>
       match optInt hi (s.size : Int), optInt lo 0 with
       | some hv, some lv =>
         match decide (0 ≤ hv ∧ hv ≤ s.size) && decide (0 ≤ lv ∧ lv ≤ hv) with
         | true => some (.string (s.extract lv.toNat hv.toNat))
         | false => none
       | _, _ => none
   | .slice e, .slice a len cap =>
     match optInt hi (len : Int), optInt lo 0, optInt mx (cap : Int), tsz P e with
     | some hv, some lv, some mv, some n =>
       match mx.isNone || hi.isSome, decide (0 ≤ mv ∧ mv ≤ cap) && decide (0 ≤ hv ∧ hv ≤ mv) && decide (0 ≤ lv ∧ lv ≤ hv) with
       | true, true =>
         let l := lv.toNat
         let m := mv.toNat
         let hN := hv.toNat
         match a with
         | none => some (.slice none (hN - l) (m - l))
         | some a => match a.spot with
           | none => some (.slice (some (match Nat.beq m l with | true => a | false => aadd a (l * n))) (hN - l) (m - l))
           | some 0 => match h.get a.block with
             | some (.cells _ _ es _) =>
               match Nat.beq es n with
               | false => none
               | true =>
                 match Nat.beq m l with
                 | true => some (.slice (some ⟨a.block, a.off, some 1⟩) 0 0)
                 | false => some (.slice (some (aadd a (l * n))) (hN - l) (m - l))
             | _ => none
           | _ => match Nat.beq hN 0 && Nat.beq m 0 with
             | true => some (.slice (some a) 0 0)
             | false => none
       | _, _ => none
     | _, _, _, _ => none
   | .array k e, .pointer (some a) =>
     match optInt hi (k : Int), optInt lo 0, mx, tsz P e with
     | some hv, some lv, none, some n =>
       match decide (0 ≤ hv ∧ hv ≤ k) && decide (0 ≤ lv ∧ lv ≤ hv) with
       | true =>
         let l := lv.toNat
         match a.spot with
         | none => some (.slice (some (match Nat.beq k l with | true => a | false => aadd a (l * n))) (hv.toNat - l) (k - l))
         | some 0 => match h.get a.block with
           | some (.cells _ _ _ false) => some (.slice (some (match Nat.beq k l with | true => a | false => aadd a (l * n))) (hv.toNat - l) (k - l))
           | _ => none
         | _ => none
       | false => none
     | _, _, _, _ => none
   | _, _ => none
def aindexAddr (P : Program) (t : TypeId) (x ix : Value) : Option Value :=
 match asInt? ix, P.underlying t, x with
 | some i, some (.array len e), .pointer (some a) =>
   match tsz P e, decide (0 ≤ i ∧ i < len) with
   | some n, true => some (.pointer (some (aadd a (i.toNat * n))))
   | _, _ => none
 | some i, some (.slice e), .slice (some a) len _ =>
   match tsz P e, decide (0 ≤ i ∧ i < len) with
   | some n, true => some (.pointer (some (aadd a (i.toNat * n))))
   | _, _ => none
 | _, _, _ => none
def apart (P : Program) (t : TypeId) (cs : Array Value) (off : Nat) : Option Value :=
 match P.underlying t with
 | none => none
 | some d => match isAggD d with
   | true => match tsz P t with
     | some n => some (.agg (cs.extract off (off + n)))
     | none => none
   | false => cs[off]?
def afirst (G : Base) (h : H) (size n : Nat) (x : Value) : Option (List Value) :=
 match x with
 | .slice (some a) _ _ => match a.spot with
   | some 1 => match Nat.beq n 0 with | true => some [] | false => none
   | _ => acells G h (n * size) a
 | .slice none _ _ => some []
 | .string s => some ((s.data.toList.take n).map fun b => .int .u8 b.toNat)
 | _ => none
def alen : Value → Option Nat
 | .slice _ n _ => some n
 | .string s => some s.size
 | _ => none
def anews (P : Program) (G : Base) (h : H) (xt : TypeId) (size : Nat) (z : List Value) (x : Value) : Option (Nat × List Value) :=
 match P.underlying xt with
 | some (.int _) => match x with
   | .int _ l => match decide (0 ≤ l ∧ l ≤ 70368744177664) with
     | true => some (l.toNat, repeatCells l.toNat z)
     | false => none
   | _ => none
 | some _ => match alen x with
   | some n => match afirst G h size n x with
     | some l => some (n, l)
     | none => none
   | none => none
 | none => none
def agrow (h : H) (e : TypeId) (size sCap need : Nat) (base : Option Addr) (cs : List Value) : Option (Value × H) :=
 match Nat.beq cs.length (need * size) with
 | false => none
 | true => match base with
   | none => some (.slice (some ⟨h.nx, 0, some 0⟩) need need, h.push (.cells cs e size true))
   | some a => match a.spot with
     | none => some (.slice (some ⟨h.nx, 0, some 0⟩) need need, h.push (.cells cs e size true))
     | some 0 => match h.get a.block with
       | some (.cells c t es soft) =>
         match soft && Nat.beq (a.off + sCap * es) c.length with
         | false => some (.slice (some ⟨h.nx, 0, some 0⟩) need need, h.push (.cells cs e size true))
         | true => match Nat.beq a.off 0 && Nat.beq es size && Nat.beq t e with
           | true => some (.slice (some ⟨h.nx, 0, some 0⟩) need need, (h.kill a.block).push (.cells cs e size true))
           | false => none
       | _ => none
     | _ => none
def aappend (P : Program) (G : Base) (h : H) (st xt : TypeId) (s x : Value) : Option (Value × H) :=
 match P.underlying st, s with
 | some (.slice e), .slice base sLen sCap =>
   match tsz P e, tby P e, tzero P e with
   | some size, some by', some z =>
     match anews P G h xt size z.cells.toList x with
     | none => none
     | some (n, new) =>
       let need := sLen + n
       match gd z && Nat.beq z.cells.size size && !(Nat.beq size 0) && !(Nat.beq by' 0) && Nat.ble (need * by') 70368744177664 && new.all one && Nat.beq new.length (n * size) with
       | false => none
       | true =>
         match Nat.ble need sCap with
         | true => match base with
           | none => some (.slice none need sCap, h)
           | some a => match Nat.beq n 0 with
             | true => some (.slice (some a) need sCap, h)
             | false => match asto h (aadd a (sLen * size)) new with
               | some h' => some (.slice (some a) need sCap, h')
               | none => none
         | false =>
           match afirst G h size sLen s with
           | none => none
           | some old =>
             agrow h e size sCap need base (old ++ new)
   | _, _, _ => none
 | _, _ => none
def acopy (P : Program) (G : Base) (h : H) (dt : TypeId) (d s : Value) : Option (Value × H) :=
 match P.underlying dt, d, alen s with
 | some (.slice e), .slice base dLen _, some m =>
   match tsz P e with
   | none => none
   | some size =>
     let n := Nat.min m dLen
     match afirst G h size n s with
     | none => none
     | some cs => match base with
       | none => some (.int .i64 (n : Int), h)
       | some a => match cs with
         | [] => some (.int .i64 (n : Int), h)
         | _ => match Nat.beq cs.length (n * size), asto h a cs with
           | true, some h' => some (.int .i64 (n : Int), h')
           | _, _ => none
 | _, _, _ => none
def aclear (P : Program) (h : H) (t : TypeId) (x : Value) : Option H :=
 match P.underlying t, x with
 | some (.slice _), .slice none _ _ => some h
 | some (.slice _), .slice (some _) 0 _ => some h
 | some (.slice e), .slice (some a) (n + 1) _ => match tzero P e with
   | some z => match gd z with
     | true => asto h a (repeatCells (n + 1) z.cells.toList)
     | false => none
   | none => none
 | _, _ => none
def amakeSlice (P : Program) (h : H) (t : TypeId) (len cap : Value) : Option (Value × H) :=
 match P.underlying t, len, cap with
 | some (.slice e), .int _ l, .int _ c =>
   match tsz P e, tby P e, tzero P e with
   | some n, some by', some z =>
     match gd z && Nat.beq z.cells.size n && decide (0 ≤ l ∧ l ≤ c ∧ c ≤ 70368744177664 ∧ (by' : Int) * c ≤ 140737488355328) with
     | true => some (.slice (some ⟨h.nx, 0, some 0⟩) l.toNat c.toNat, h.push (.cells (repeatCells c.toNat z.cells.toList) e n false))
     | false => none
   | _, _, _ => none
 | _, _, _ => none
def aeq (P : Program) (t : TypeId) (a b : Value) : Option Bool :=
 match P.underlying t, a, b with
 | some (.pointer _), .pointer (some _), .pointer none => some false
 | some (.pointer _), .pointer none, .pointer (some _) => some false
 | some (.pointer el), .pointer (some x), .pointer (some y) => match tsz P el, x.spot, y.spot with
   | some (_ + 1), some 0, some 0 => match Nat.beq x.block y.block with
     | true => some (Nat.beq x.off y.off)
     | false => none
   | _, _, _ => none
 | some (.interface _), .iface _ _, .nilIface => some false
 | some (.interface _), .nilIface, .iface _ _ => some false
 | some (.slice _), .slice (some _) _ _, .slice none _ _ => some false
 | some (.slice _), .slice none _ _, .slice (some _) _ _ => some false
 | some (.func _ _ _), .func _ _ _, .nilFunc => some false
 | some (.func _ _ _), .nilFunc, .func _ _ _ => some false
 | _, _, _ => none
def bytesOf : List Value → Option (List UInt8)
 | [] => some []
 | .int .u8 n :: l => match bytesOf l with | some bs => some (UInt8.ofNat n.toNat :: bs) | none => none
 | _ => none
def aconvStr (P : Program) (h : H) (s d : TypeId) (x : Value) : Option (Value × H) :=
 match P.underlying d, P.underlying s, x with
 | some (.slice e), some _, .string b => match P.underlying e, Nat.ble b.size 70368744177664 with
   | some (.int .u8), true => some (.slice (some ⟨h.nx, 0, some 0⟩) b.size b.size, h.push (.cells (b.data.toList.map fun c => .int .u8 c.toNat) e 1 true))
   | _, _ => none
 | _, _, _ => none
def aconv (P : Program) (G : Base) (h : H) (s d : TypeId) (x : Value) : Option (Value × H) :=
 match P.underlying s, P.underlying d, x with
 | some (.slice e), some .string, .slice (some a) len _ => match P.underlying e with
   | some (.int .u8) => match (match a.spot with | some 1 => some [] | _ => acells G h len a) with
     | some cs => match bytesOf cs with
       | some bs => some (.string ⟨⟨bs⟩⟩, h)
       | none => none
     | none => none
   | _ => none
 | some (.slice _), some (.slice e), .slice (some a) _ _ => match Nat.beq s d, P.underlying e, a.spot with
   | true, some (.int .u8), some 0 => match h.get a.block with
     | some (.cells _ _ 1 _) => some (x, h)
     | _ => none
   | _, _, _ => none
 | some (.pointer t), some .unsafePointer, .pointer (some a) => match a.spot, tsz P t with
   | some 0, some (_ + 1) => match h.get a.block with
     | some (.cells c _ _ _) => match Nat.blt a.off c.length with
       | true => some (x, h)
       | false => none
     | _ => none
   | _, _ => none
 | some .unsafePointer, some (.pointer u), .pointer (some a) => match a.spot, tsz P u with
   | some 0, some (_ + 1) => match h.get a.block with
     | some (.cells c e _ false) => match liesAt P P.depth e (c.length / P.cellsOf e) a.off u 1 with
       | true => some (x, h)
       | false => none
     | _ => none
   | _, _ => none
 | _, _, _ => none
def aunsafeString (P : Program) (h : H) (pt : TypeId) (x : Value) (n : Int) : Option (Value × H) :=
 match x with
 | .pointer none => match decide (n = 0) with | true => some (.string .empty, h) | false => none
 | .pointer (some a) => match a.spot, P.underlying pt with
   | some 0, some (.pointer u) => match h.get a.block with
     | some (.cells c e _ _) =>
       match decide (0 < n ∧ n ≤ 70368744177664) && Nat.beq (P.cellsOf e) 1 && Nat.beq (P.underlyingId e) (P.underlyingId u) && Nat.ble (a.off + n.toNat) c.length with
       | true => match bytesOf ((c.drop a.off).take n.toNat) with
         | some bs => some (.string ⟨⟨bs⟩⟩, h.kill a.block)
         | none => none
       | false => none
     | _ => none
   | _, _ => none
 | _ => none
def afind (d : TypeDesc) (k : Value) : List (Value × Value) → Nat → Option (Option (Nat × Value))
 | [], _ => some none
 | p :: es, i => match Instr.sameNow d k p.1 with
   | some true => some (some (i, p.2))
   | some false => afind d k es (i + 1)
   | none => none
def plainKey : TypeDesc → Bool
 | .int _ | .string | .bool => true
 | _ => false
def plainVal : Value → Bool
 | .int _ _ | .string _ | .bool _ => true
 | _ => false
def amakeMap (P : Program) (h : H) (t : TypeId) (r : Option Value) : Option (Value × H) :=
 match r with
 | none => some (.map (some h.nx), h.push (.map []))
 | some v => match P.underlying t, asInt? v with
   | some (.map _ _), some _ => some (.map (some h.nx), h.push (.map []))
   | _, _ => none
def ammapVal (z : Value) (ok : Bool) (r : Option (Nat × Value)) : Value :=
 match r, ok with
 | some (_, v), true => .tuple ⟨[v, .bool true]⟩
 | some (_, v), false => v
 | none, true => .tuple ⟨[z, .bool false]⟩
 | none, false => z
def alookup (P : Program) (h : H) (t : TypeId) (x k : Value) (ok : Bool) : Option Value :=
 match P.underlying t with
 | some (.map kt el) => match P.underlying kt, tzero P el with
   | some d, some z => match plainKey d && plainVal k && gd z with
     | false => none
     | true => match x with
       | .map none => some (ammapVal z ok none)
       | .map (some n) => match h.get n with
         | some (.map es) => match afind d k es 0 with
           | some r => some (ammapVal z ok r)
           | none => none
         | _ => none
       | _ => none
   | _, _ => none
 | _ => none
def amapUpdate (P : Program) (h : H) (t : TypeId) (x k v : Value) : Option H :=
 match P.underlying t with
 | some (.map kt _) => match P.underlying kt with
   | some d => match plainKey d && plainVal k with
     | false => none
     | true => match x with
       | .map (some n) => match h.get n with
         | some (.map es) => match afind d k es 0 with
           | some (some (i, _)) => some (h.set n (.map (es.set i (k, v))))
           | some none => some (h.set n (.map (es ++ [(k, v)])))
           | none => none
         | _ => none
       | _ => none
   | none => none
 | _ => none
def aop (P : Program) (G : Base) (o : Op) (e : Env) (h : H) : Option (Value × H) :=
 let pur (s : Sem Value) : Option (Value × H) := match prun P s with
   | some v => match gd v with | true => some (v, h) | false => none
   | none => none
 let still (v : Option Value) : Option (Value × H) := match v with | some v => some (v, h) | none => none
 match o with
 | .move x | .assign x => some (aeval e x, h)
 | .pick c a b => match aeval e c with
   | .bool t => some (match t with | true => aeval e a | false => aeval e b, h)
   | _ => none
 | .alloc t => match tzero P t, tsz P t with
   | some z, some n => match gd z && Nat.beq z.cells.size n with | true => some (newCells h t n z.cells.toList false) | false => none
   | _, _ => none
 | .box t x => match aeval e x, tsz P t with
   | .tuple _, _ => none
   | v, some n => match Nat.beq v.cells.size n with | true => some (newCells h t n v.cells.toList false) | false => none
   | _, _ => none
 | .build t ps => still (abuild P t (ps.toList.map fun p => (p.1, aeval e p.2)))
 | .buildSlice t len ps => abuildSlice P h t len (ps.toList.map fun p => (p.1, aeval e p.2))
 | .load t x => match aeval e x with
   | .pointer (some a) => still (aloadVar P G h t a)
   | _ => none
 | .store t x y => match aeval e x with
   | .pointer (some a) => match astoreVar P h t a (aeval e y) with
     | some h' => some (undef, h')
     | none => none
   | _ => none
 | .nilCheck x => match aeval e x with
   | .pointer (some a) => some (.pointer (some a), h)
   | _ => none
 | .binOp op t x y _ =>
   let a := aeval e x
   let b := aeval e y
   match gd a && gd b with
   | true => pur (do eqGuard op t x y a b; binOp op t a b)
   | false => match op with
     | .eql => match aeq P t a b with | some r => some (.bool r, h) | none => none
     | .neq => match aeq P t a b with | some r => some (.bool (!r), h) | none => none
     | _ => none
 | .unOp op _ x => match gd (aeval e x) with | true => pur (Op.unary op (aeval e x)) | false => none
 | .convert s d x => match gd (aeval e x) with
   | true => match aconvStr P h s d (aeval e x) with
     | some r => some r
     | none => pur (convert s d (aeval e x))
   | false => aconv P G h s d (aeval e x)
 | .makeInterface t x => match prun P (Instr.makeInterface t (aeval e x)) with
   | some v => some (v, h)
   | none => none
 | .makeFunc fn first cap => match fn with
   | .yield _ => none
   | fn => some (.func fn (first.map (aeval e)) (cap.map (aeval e)), h)
 | .makeSlice t l c => amakeSlice P h t (aeval e l) (aeval e c)
 | .makeMap t r => amakeMap P h t (r.map (aeval e))
 | .lookup t x k ok => still (alookup P h t (aeval e x) (aeval e k) ok)
 | .mapUpdate t x k v | .insert t x k v => match amapUpdate P h t (aeval e x) (aeval e k) (aeval e v) with
   | some h' => some (undef, h')
   | none => none
 | .slice t x lo hi mx => still (aslice P h t (aeval e x) (lo.map (aeval e)) (hi.map (aeval e)) (mx.map (aeval e)))
 | .fieldAddr s x f => match P.underlying s, aeval e x with
   | some (.struct fs), .pointer (some a) => match fs[f]? with
     | some fd => match tsz P fd.type with
       | some (_ + 1) => some (.pointer (some (aadd a fd.offset)), h)
       | _ => none
     | none => none
   | _, _ => none
 | .field t x f => match P.underlying t, aeval e x with
   | some (.struct fs), .agg cs => match fs[f]? with
     | some fd => still (apart P fd.type cs fd.offset)
     | none => none
   | _, _ => none
 | .indexAddr t x ix => still (aindexAddr P t (aeval e x) (aeval e ix))
 | .index t x ix => match asInt? (aeval e ix), P.underlying t, aeval e x with
   | some i, some (.array len et), .agg cs => match tsz P et, decide (0 ≤ i ∧ i < len) with
     | some n, true => still (apart P et cs (i.toNat * n))
     | _, _ => none
   | some i, some .string, .string s => match decide (0 ≤ i) with
     | true => match s[i.toNat]? with
       | some b => some (.int .u8 b.toNat, h)
       | none => none
     | false => none
   | _, _, _ => none
 | .range t x => match P.underlying t, aeval e x with
   | some .string, .string s => some (.pointer (some ⟨h.nx, 0, some 0⟩), h.push (.iter s 0))
   | _, _ => none
 | .next it true => match aeval e it with
   | .pointer (some ⟨n, 0, some 0⟩) => match h.get n with
     | some (.iter s pos) => match Nat.blt pos s.size with
       | true => match Utf8.decode s pos with
         | (c, wd) => some (.tuple #[.bool true, .int .i64 pos, .int .i32 c], h.set n (.iter s (pos + wd)))
       | false => some (.tuple #[.bool false], h)
     | _ => none
   | _ => none
 | .extract t ix => match aeval e t with
   | .tuple vs => still vs[ix]?
   | _ => none
 | .call c => match c.callee with
   | .builtin b =>
     let args := c.args.toList.map (aeval e)
     match b, args, c.argTypes.toList with
     | .append, [s, x], [st, xt] => aappend P G h st xt s x
     | .copy, [d, s], dt :: _ => acopy P G h dt d s
     | .clear, [x], t :: _ => match aclear P h t x with
       | some h' => some (undef, h')
       | none => none
     | .len, [.slice _ n _], t :: _ => match P.underlying t with
       | some (.slice _) => some (.int .i64 n, h)
       | _ => none
     | .cap, [.slice a _ k], t :: _ => match P.underlying t with
       | some (.slice _) => match a with
         | none => some (.int .i64 k, h)
         | some a => match a.spot with
           | none => some (.int .i64 k, h)
           | some 0 => match h.get a.block with
             | some (.cells cs _ es soft) => match soft && Nat.beq (a.off + k * es) cs.length with
               | false => some (.int .i64 k, h)
               | true => none
             | _ => none
           | _ => none
       | _ => none
     | .len, [.string s], t :: _ => match P.underlying t with
       | some .string => some (.int .i64 s.size, h)
       | _ => none
     | .len, [v], t :: _ => match P.underlying t with
       | some (.array n _) => some (.int .i64 n, h)
       | some (.pointer arr) => match P.underlying arr with
         | some (.array n _) => some (.int .i64 n, h)
         | _ => none
       | _ => match gd v with | true => pur (Builtin.len_ c.argTypes 0 #[v]) | false => none
     | .unsafeSliceData, [.slice none _ _], _ => some (.pointer none, h)
     | .unsafeSliceData, [.slice (some a) _ (_ + 1)], _ => match a.spot with
       | some 1 => none
       | _ => some (.pointer (some a), h)
     | .unsafeString, [p, .int _ n], pt :: _ => aunsafeString P h pt p n
     | .min, as, _ => match as.all gd with | true => pur (Builtin.min_ c.argTypes 0 ⟨as⟩) | false => none
     | .max, as, _ => match as.all gd with | true => pur (Builtin.max_ c.argTypes 0 ⟨as⟩) | false => none
     | .real, as, _ => match as.all gd with | true => pur (Builtin.real_ c.argTypes 0 ⟨as⟩) | false => none
     | .imag, as, _ => match as.all gd with | true => pur (Builtin.imag_ c.argTypes 0 ⟨as⟩) | false => none
     | .complex, as, _ => match as.all gd with | true => pur (Builtin.complex_ c.argTypes 0 ⟨as⟩) | false => none
     | _, _, _ => none
   | _ => none
 | _ => none
inductive X where
 | norm
 | exit (id : Nat)
 | ret
structure Ev where
 loop : Option Nat → Code → Env → H → Option (X × Env × H)
 call : Value → List Value → H → Option (Value × H)
def wantedA (ops : Array Oper) (o : Oper) (e : Env) : Option Bool :=
 match o.guard with
 | none => some true
 | some (j, want) => match ops[j]? with
   | some oj => match oj.dst with
     | some d => match e.get d with
       | .bool b => some (match b, want with | true, true | false, false => true | _, _ => false)
       | .chan none => some false
       | _ => none
     | none => none
   | none => none
def evOp (P : Program) (G : Base) (rec : Ev) (o : Oper) (e : Env) (h : H) : Option (Value × H) :=
 match o.op with
 | .call c => match c.callee with
   | .value f => rec.call (aeval e f) (c.args.toList.map (aeval e)) h
   | .builtin _ => aop P G o.op e h
   | _ => none
 | op => aop P G op e h
def evOps (P : Program) (G : Base) (rec : Ev) (ops : Array Oper) : List Oper → Env → H → Option (Env × H)
 | [], e, h => some (e, h)
 | o :: rest, e, h => match wantedA ops o e with
   | some true => match evOp P G rec o e h with
     | some (v, h') => match e.putO o.dst v with
       | some e' => evOps P G rec ops rest e' h'
       | none => none
     | none => none
   | some false => match e.putO o.dst skipV with
     | some e' => evOps P G rec ops rest e' h
     | none => none
   | none => none
def aresult (P : Program) (G : Base) (e : Env) (h : H) : ResultVar → Option Value
 | .tmp t => some (e.get t)
 | .cell a t => match e.get a with
   | .pointer (some a) => aloadVar P G h t a
   | _ => none
def aresults (P : Program) (G : Base) (e : Env) (h : H) : List ResultVar → Option (List Value)
 | [] => some []
 | r :: rs => match aresult P G e h r, aresults P G e h rs with
   | some v, some l => some (v :: l)
   | _, _ => none
inductive Cls where
 | q | a | e
def cls (P : Program) : Op → Cls
 | .call c => match c.callee with
   | .builtin .append | .builtin .copy | .builtin .clear | .builtin .unsafeString => .e
   | .builtin _ => .q
   | _ => .e
 | .convert _ d _ => match P.underlying d with | some (.slice _) => .e | _ => .q
 | .store .. | .range .. | .next .. | .makeMap .. | .mapUpdate .. | .insert .. => .e
 | .alloc _ | .box .. | .buildSlice .. | .makeSlice .. => .a
 | _ => .q
def veq : Nat → Value → Value → Bool
 | _ + 1, .bool a, .bool b => decide (a = b)
 | _ + 1, .int j a, .int k b => decide (j = k) && decide (a = b)
 | _ + 1, .float j a, .float k b => decide (j = k) && Nat.beq a b
 | _ + 1, .complex j a c, .complex k b d => decide (j = k) && Nat.beq a b && Nat.beq c d
 | _ + 1, .string a, .string b => decide (a = b)
 | _ + 1, .pointer a, .pointer b => decide (a = b)
 | _ + 1, .slice a l c, .slice b m d => decide (a = b) && Nat.beq l m && Nat.beq c d
 | _ + 1, .map a, .map b => decide (a = b)
 | _ + 1, .nilFunc, .nilFunc => true
 | _ + 1, .nilIface, .nilIface => true
 | _ + 1, .chan none, .chan none => true
 | n + 1, .iface t v, .iface u w => Nat.beq t u && veq n v w
 | n + 1, .agg ⟨a⟩, .agg ⟨b⟩ => Nat.beq a.length b.length && (a.zip b).all fun p => veq n p.1 p.2
 | n + 1, .tuple ⟨a :: as⟩, .tuple ⟨b :: bs⟩ => Nat.beq as.length bs.length && veq n a b && (as.zip bs).all fun p => veq n p.1 p.2
 | n + 1, .func f ⟨a⟩ ⟨c⟩, .func g ⟨b⟩ ⟨d⟩ => decide (f = g) && Nat.beq a.length b.length && Nat.beq c.length d.length && ((a.zip b).all fun p => veq n p.1 p.2) && ((c.zip d).all fun p => veq n p.1 p.2)
 | _, _, _ => false
def edgeMask (ms : List Nat) (i : Nat) : List Edge → Nat → Option Nat
 | [], m => some m
 | ed :: es, m => match Region.binds .any ed with
   | false => edgeMask ms i es m
   | true => match Nat.blt ed.on i, ms[ed.on]? with
     | true, some k => edgeMask ms i es (m ||| 2 ^ ed.on ||| k)
     | _, _ => none
def masksFrom : List Oper → List Nat → Option (List Nat)
 | [], ms => some ms
 | o :: os, ms => match edgeMask ms ms.length o.after.toList 0 with
   | some m => masksFrom os (ms ++ [m])
   | none => none
def opTmps (ops : Array Oper) (o : Oper) : List Tmp :=
 o.dst.toList ++ o.looksAt ops
def tmpsOk (ops : Array Oper) (oms : List (Oper × Nat)) : Bool :=
 let z := oms.zipIdx
 z.all fun x => z.all fun y =>
   Nat.beq x.2 y.2 || x.1.2.testBit y.2 || y.1.2.testBit x.2 ||
     (match x.1.1.dst with
       | none => true
       | some d => !(opTmps ops y.1.1).contains d)
def restrict (e : Env) (ts : List Tmp) : Env := { sz := e.sz, l := ts.map fun t => (t, e.get t) }
inductive Kd where
 | s | q
 | a (ob : AObj)
 | e (g : H)
structure DRes where
 d : Option Tmp
 v : Value
 k : Kd
structure Stage where
 g : H
 abs : Nat
 nxt : Option Nat
def addAs (nx0 : Nat) (f : Nat → Bool) : List (Nat × AObj) → H → H
 | [], h => h
 | (j, o) :: l, h => addAs nx0 f l (match f j with | true => h.set (nx0 + j) o | false => h)
def unseen (m abs j : Nat) : Bool := m.testBit j && !abs.testBit j
def dPass (P : Program) (G : Base) (rec : Ev) (ops : Array Oper) (nx0 : Nat) :
   List (Oper × Nat) → Nat → Env → H → Nat → List Nat → List (Nat × AObj) → Option (List DRes)
 | [], _, _, _, _, _, _ => some []
 | (o, m) :: rest, i, e, g, abs, es, as =>
   let er := restrict e (o.looksAt ops)
   match wantedA ops o er with
   | none => none
   | some false => match e.putO o.dst skipV with
     | some e' => match dPass P G rec ops nx0 rest (i + 1) e' g abs es as with
       | some l => some (⟨o.dst, skipV, .s⟩ :: l)
       | none => none
     | none => none
   | some true => match cls P o.op with
     | .q => match aop P G o.op er (addAs nx0 (unseen m abs) as g) with
       | some (v, _) => match e.putO o.dst v with
         | some e' => match dPass P G rec ops nx0 rest (i + 1) e' g abs es as with
           | some l => some (⟨o.dst, v, .q⟩ :: l)
           | none => none
         | none => none
       | none => none
     | .a => match aop P G o.op er { tr := .leaf, nx := nx0 + i } with
       | some (v, h') => match h'.get (nx0 + i), e.putO o.dst v with
         | some ob, some e' => match dPass P G rec ops nx0 rest (i + 1) e' g abs es (as ++ [(i, ob)]) with
           | some l => some (⟨o.dst, v, .a ob⟩ :: l)
           | none => none
         | _, _ => none
       | none => none
     | .e => match (es.all fun l => m.testBit l) && Nat.beq (m ||| abs) m with
       | false => none
       | true => match evOp P G rec o er (addAs nx0 (unseen m abs) as g) with
         | some (v, g') => match e.putO o.dst v with
           | some e' => match dPass P G rec ops nx0 rest (i + 1) e' g' m (i :: es) as with
             | some l => some (⟨o.dst, v, .e g'⟩ :: l)
             | none => none
           | none => none
         | none => none
def asOf : List DRes → Nat → List (Nat × AObj)
 | [], _ => []
 | r :: rs, i => match r.k with
   | .a ob => (i, ob) :: asOf rs (i + 1)
   | _ => asOf rs (i + 1)
def stagesOf : List (Oper × Nat) → List DRes → Nat → H → Nat → List Stage
 | (_, m) :: oms, r :: rs, i, g, abs => match r.k with
   | .e g' => ⟨g, abs, some i⟩ :: stagesOf oms rs (i + 1) g' m
   | _ => stagesOf oms rs (i + 1) g abs
 | _, _, _, g, abs => [⟨g, abs, none⟩]
def stg (D : Nat → Bool) : List (Oper × Nat) → List DRes → Nat → H → Nat → H × Nat
 | (_, m) :: oms, r :: rs, i, g, abs => match D i, r.k with
   | true, .e g' => stg D oms rs (i + 1) g' m
   | _, _ => stg D oms rs (i + 1) g abs
 | _, _, _, g, abs => (g, abs)
def dCheckAt (P : Program) (G : Base) (nx0 : Nat) (as : List (Nat × AObj)) (o : Op) (m i : Nat) (er : Env) (v : Value) : List Stage → Bool
 | [] => true
 | s :: l =>
   (match s.abs.testBit i || (match s.nxt with | none => false | some x => m.testBit x) with
     | true => true
     | false => match aop P G o er (addAs nx0 (unseen m s.abs) as s.g) with
       | some (u, _) => veq 6 u v
       | none => false) && dCheckAt P G nx0 as o m i er v l
def dCheck (P : Program) (G : Base) (ops : Array Oper) (nx0 : Nat) (as : List (Nat × AObj)) (st : List Stage) :
   List (Oper × Nat) → List DRes → Nat → Env → Bool
 | (o, m) :: rest, r :: rs, i, e =>
   (match r.k with
     | .q => dCheckAt P G nx0 as o.op m i (restrict e (o.looksAt ops)) r.v st
     | _ => true) &&
   (match e.putO r.d r.v with
     | some e' => dCheck P G ops nx0 as st rest rs (i + 1) e'
     | none => false)
 | [], [], _, _ => true
 | _, _, _, _ => false
def stOk (nx0 : Nat) (as : List (Nat × AObj)) (st : List Stage) : Bool :=
 st.all fun s => as.all fun p => s.abs.testBit p.1 || (s.g.get (nx0 + p.1)).isNone
def putsOf : List DRes → Env → Option Env
 | [], e => some e
 | r :: rs, e => match e.putO r.d r.v with
   | some e' => putsOf rs e'
   | none => none
def evDraw (P : Program) (G : Base) (rec : Ev) (ops : Array Oper) (e : Env) (h : H) : Option (Env × H) :=
 match masksFrom ops.toList [] with
 | some ms =>
   let oms := ops.toList.zip ms
   match tmpsOk ops oms with
   | false => none
   | true =>
     let g0 : H := { tr := h.tr, nx := h.nx + ops.toList.length }
     match dPass P G rec ops h.nx oms 0 e g0 0 [] [] with
     | none => none
     | some rs =>
       let as := asOf rs 0
       let st := stagesOf oms rs 0 g0 0
       match dCheck P G ops h.nx as st oms rs 0 e && stOk h.nx as st with
       | false => none
       | true => match putsOf rs e with
         | none => none
         | some e' =>
           let s := stg (fun _ => true) oms rs 0 g0 0
           some (e', addAs h.nx (fun j => !s.2.testBit j) as s.1)
 | none => none
def evC (P : Program) (G : Base) (rec : Ev) (ro : Option Nat) : Code → Env → H → Option (X × Env × H)
 | .skip, e, h => some (.norm, e, h)
 | .label _, e, h => some (.norm, e, h)
 | .region _ ops false, e, h => match evOps P G rec ops ops.toList e h with
   | some (e', h') => some (.norm, e', h')
   | none => none
 | .region _ ops true, e, h => match evDraw P G rec ops e h with
   | some (e', h') => some (.norm, e', h')
   | none => none
 | .seq a b, e, h => match evC P G rec ro a e h with
   | some (.norm, e', h') => evC P G rec ro b e' h'
   | r => r
 | .cond c a b, e, h => match aeval e c with
   | .bool true => evC P G rec ro a e h
   | .bool false => evC P G rec ro b e h
   | _ => none
 | .block id c, e, h => match evC P G rec ro c e h with
   | some (.exit id', e', h') => match Nat.beq id' id with
     | true => some (.norm, e', h')
     | false => some (.exit id', e', h')
   | r => r
 | .loop c, e, h => match evC P G rec ro c e h with
   | some (.norm, e', h') => rec.loop ro (.loop c) e' h'
   | r => r
 | .scope c, e, h => evC P G rec ro c e h
 | .exit id, e, h => some (.exit id, e, h)
 | .ret, e, h => some (.ret, e, h)
 | .rangeFunc f ps assign body, e, h =>
   match (match ro with
     | none => true
     | some l => match h.get l with | some (.loop ..) => true | _ => false) with
   | false => none
   | true => match rec.call (aeval e f) [.func (.yield h.nx) #[] #[]] (h.push (.loop .ready none e ps assign body)) with
     | some (_, h2) => match h2.get h.nx with
       | some (.loop st pend _ _ _ _) => match st with
         | .busy => none
         | _ =>
           match pend with
           | none => some (.norm, e, h2.kill h.nx)
           | some (.exit id) => some (.exit id, e, h2.kill h.nx)
           | some .ret => some (.ret, e, h2.kill h.nx)
           | _ => none
       | _ => none
     | none => none
 | _, _, _ => none
def putAll (e : Env) : List Tmp → List Value → Option Env
 | [], [] => some e
 | t :: ts, v :: vs => match e.put t v with
   | some e' => putAll e' ts vs
   | none => none
 | _, _ => none
def evRound (P : Program) (G : Base) (rec : Ev) (n : Nat) (args : List Value) (h : H) : Option (Value × H) :=
 match h.get n with
 | some (.loop _ _ env ps assign body) =>
   match putAll env ps.toList args with
   | none => none
   | some e1 => match evC P G rec (some n) assign e1 h with
     | some (.norm, e2, h2) => match h2.get n with
       | some (.loop .ready pd env2 ps2 assign2 body2) =>
         match evC P G rec (some n) body e2 (h2.set n (.loop .busy pd env2 ps2 assign2 body2)) with
         | some (x, _, h3) => match h3.get n with
           | some (.loop _ _ env ps assign body) =>
             match x with
             | .norm => some (.bool true, h3.set n (.loop .ready none env ps assign body))
             | .exit id => some (.bool false, h3.set n (.loop .done (some (.exit id)) env ps assign body))
             | .ret => some (.bool false, h3.set n (.loop .done (some .ret) env ps assign body))
           | _ => none
         | none => none
       | _ => none
     | _ => none
 | _ => none
abbrev Ext := Nat → Option (List Value → H → Option (Value × H))
def evCall (P : Program) (G : Base) (E : Ext) (rec : Ev) (fv : Value) (args : List Value) (h : H) : Option (Value × H) :=
 match fv with
 | .func (.func f) first cap =>
   match E f with
   | some x => x (first.toList ++ args ++ cap.toList) h
   | none =>
     match P.funcs[f]? with
     | none => none
     | some fn => match fn.body with
       | some c =>
         match evC P G rec none c (Env.start fn.ntmps (first.toList ++ args ++ cap.toList)) h with
         | some (.norm, e, h') | some (.ret, e, h') => match aresults P G e h' fn.results.toList with
           | some [v] => some (v, h')
           | some l => some (.tuple ⟨l⟩, h')
           | none => none
         | _ => none
       | none => none
 | .func (.yield n) ⟨[]⟩ ⟨[]⟩ => evRound P G rec n args h
 | _ => none
def ev (P : Program) (G : Base) (E : Ext) : Nat → Ev
 | 0 => { loop := fun _ _ _ _ => none, call := fun _ _ _ => none }
 | n + 1 => { loop := evC P G (ev P G E n), call := evCall P G E (ev P G E n) }
end Go.Ab
