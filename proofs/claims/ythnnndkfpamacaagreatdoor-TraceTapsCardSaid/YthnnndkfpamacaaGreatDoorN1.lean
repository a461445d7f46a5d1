/- Contracts of functions on traces: checks, offsets, copies, lists of traces. -/
import Derived.Test.YthnnndkfpamacaaGreatDoorL3
import Derived.Test.YthnnndkfpamacaaGreatDoorK2
set_option linter.all false
/- Traces and their checks. -/
namespace Go.Proofs.YthnnndkfpamacaaGreatDoor
open Go Go.Ab Go.Fl
attribute [local irreducible] SeqQ BlkQ LpQ RetQ Wc Wo WD WX Op1 Op1q Op1a Cf Cl From
attribute [local irreducible] Ieee.Format.order Ieee.Format.read Ieee.Format.nearest Ieee.Format.write Ieee.Format.mul Ieee.Format.div Ieee.Datum.order Ieee.Datum.integral smpE smp smpW K J U
set_option maxRecDepth 10000
variable {G : Base} {h : H}

/-- A trace's numbers, its mark, and where its samples lie. -/
structure Trc where
  hd : Nat → Int
  hole : Bool
  sa : Option Addr
  n : Nat
  c : Nat
  l : List Nat
@[reducible] def Trc.cells (t : Trc) : List Value := [.int .i64 (t.hd 0), .int .i64 (t.hd 1), .int .i64 (t.hd 2), .int .i64 (t.hd 3), .int .i64 (t.hd 4), .int .i64 (t.hd 5), .int .i64 (t.hd 6), .int .i64 (t.hd 7), .bool t.hole, .slice t.sa t.n t.c]
/-- Her samples are there, and not too many to count. -/
structure TrOk (G : Base) (h : H) (t : Trc) : Prop where
  sl : Sl G h 1 (.slice t.sa t.n t.c) t.n (t.l.map (.float .f32))
theorem TrOk.grow {h h' : H} {t : Trc} (o : TrOk G h t) (g : Grow h h') : TrOk G h' t := ⟨o.sl.grow g⟩
def hlo (i : Nat) : Int := if i < 4 then -100000 else if i = 4 then 0 else -999999999
def hhi (i : Nat) : Int := if i < 4 then 100000 else if i = 4 then 100000 else 999999999
def hdE (hd : Nat → Int) (i : Nat) : Int := rngE (hd i) (hlo i) (hhi i)
def hdrE (hd : Nat → Int) : Int := firstNZ ((List.range 8).map (hdE hd))
/-! a trace -/
def trE (t : Trc) : Int := if hdrE t.hd ≠ 0 then hdrE t.hd else if t.hole = true ∧ 0 < t.n then 24 else lchk t.l
end Go.Proofs.YthnnndkfpamacaaGreatDoor

/- Traces: the program's check, offsets, copies. -/
namespace Go.Proofs.YthnnndkfpamacaaGreatDoor
open Go Go.Ab Go.Fl
attribute [local irreducible] SeqQ BlkQ LpQ RetQ Wc Wo WD WX Op1 Op1q Op1a Cf Cl From
attribute [local irreducible] Ieee.Format.order Ieee.Format.read Ieee.Format.nearest Ieee.Format.write Ieee.Format.mul Ieee.Format.div Ieee.Datum.order Ieee.Datum.integral smpE smp smpW K J U
set_option maxRecDepth 10000
variable {G : Base} {h : H}

theorem hdr_ok {hd : Nat → Int} (h : hdrE hd = 0) {i : Nat} (hi : i < 8) : hlo i ≤ hd i ∧ hd i ≤ hhi i := by
  have := firstNZ_zero h (hdE hd i) (List.mem_map_of_mem (List.mem_range.2 hi))
  unfold hdE at this
  rcases rng_cases (hd i) (hlo i) (hhi i) with ⟨_, r1, r2⟩ | ⟨e, _⟩
  · exact ⟨r1, r2⟩
  · rw [e] at this; exact absurd this (by decide)
def offs (hd : Nat → Int) : Int := (hd 2 - hd 0) * (hd 2 - hd 0) + (hd 3 - hd 1) * (hd 3 - hd 1)
/-- A trace whose samples lie in a block of their own, from a number on. -/
structure TrAt (h : H) (lo : Nat) (t : Trc) : Prop where
  at' : ∃ b sf, t.sa = some ⟨b, 0, some 0⟩ ∧ lo ≤ b ∧ At h b (.cells (t.l.map (.float .f32)) 23 1 sf)
  len : t.l.length = t.n
  cap : t.c = t.n
theorem TrAt.grow {h h' : H} {lo : Nat} {t : Trc} (o : TrAt h lo t) (g : Grow h h') : TrAt h' lo t := by
  obtain ⟨b, sf, e1, e2, e3⟩ := o.at'
  exact ⟨⟨b, sf, e1, e2, e3.grow g⟩, o.len, o.cap⟩
theorem TrAt.set {h : H} {lo B : Nat} {t : Trc} (o : TrAt h lo t) (hB : B < lo) (ob : AObj) : TrAt (h.set B ob) lo t := by
  obtain ⟨b, sf, e1, e2, e3⟩ := o.at'
  exact ⟨⟨b, sf, e1, e2, e3.set_ne (by omega) _⟩, o.len, o.cap⟩
theorem TrAt.ok {h : H} {lo : Nat} {t : Trc} (o : TrAt h lo t) : TrOk G h t := by
  obtain ⟨b, sf, e1, e2, e3⟩ := o.at'
  refine ⟨?_⟩
  rw [e1, o.cap]
  exact Sl.ofAt e3 (by simp [o.len]) (Nat.le_refl _)
end Go.Proofs.YthnnndkfpamacaaGreatDoor

/- Lists of traces. -/
namespace Go.Proofs.YthnnndkfpamacaaGreatDoor
open Go Go.Ab Go.Fl
attribute [local irreducible] SeqQ BlkQ LpQ RetQ Wc Wo WD WX Op1 Op1q Op1a Cf Cl From
attribute [local irreducible] Ieee.Format.order Ieee.Format.read Ieee.Format.nearest Ieee.Format.write Ieee.Format.mul Ieee.Format.div Ieee.Datum.order Ieee.Datum.integral smpE smp smpW K J U trE hdrE lchk firstNZ
set_option maxRecDepth 10000
variable {G : Base} {h : H}

structure SlT (G : Base) (h : H) (v : Value) (n : Nat) (ts : List Trc) : Prop where
  sl : Sl G h 10 v n (ts.flatMap Trc.cells)
  len : ts.length = n
  ok : ∀ t ∈ ts, TrOk G h t
theorem SlT.grow {h h' : H} {v : Value} {n : Nat} {ts : List Trc} (s : SlT G h v n ts) (g : Grow h h') : SlT G h' v n ts := ⟨s.sl.grow g, s.len, fun t ht => (s.ok t ht).grow g⟩
/-! widths by the reference -/
def wid : List Trc → Nat
  | [] => 0
  | t :: ts => if t.hole then wid ts else t.n
/-- A shot's two cells. -/
@[reducible] def shC (nm : ByteArray) (a : Option Addr) (n c : Nat) : List Value := [.string nm, .slice a n c]
/-! a shot, checked by the reference -/
def mism (w : Nat) (ts : List Trc) : Bool := ts.any fun t => !t.hole && decide (t.n ≠ w)
def shE (nm : ByteArray) (ts : List Trc) : Int := if isNameB nm = false then 8 else if ts.length = 0 then 12 else if 64 < ts.length then 5 else if firstNZ (ts.map trE) ≠ 0 then firstNZ (ts.map trE) else if mism (wid ts) ts = true then 2 else 0
end Go.Proofs.YthnnndkfpamacaaGreatDoor
