/- Shots changed, their ticks and spans, cut by the program and by the reference. -/
import Derived.Test.YthnnndkfpamacaaGreatDoorM1
set_option linter.all false
/- A shot, changed by the program. -/
namespace Go.Proofs.YthnnndkfpamacaaGreatDoor
open Go Go.Ab Go.Fl
attribute [local irreducible] SeqQ BlkQ LpQ RetQ Wc Wo WD WX Op1 Op1q Op1a Cf Cl From
attribute [local irreducible] Ieee.Format.order Ieee.Format.read Ieee.Format.nearest Ieee.Format.write Ieee.Format.mul Ieee.Format.div Ieee.Datum.order Ieee.Datum.integral smpE smp smpW K J U trE hdrE lchk firstNZ isNameB wid mism shE offs shortB anyLarge
set_option maxRecDepth 10000
variable {G : Base} {h : H}
structure ChI (h : H) (nm : ByteArray) (a : Option Addr) (k c : Nat) (fv : Value) (us : List Trc) (g : H) : Prop where
  w : Wf g
  gr : Grow h g
  nx : h.nx + 8 ≤ g.nx
  b0 : At g h.nx (.cells (shC nm a k c) 54 2 false)
  b1 : At g (h.nx + 1) (.cells [fv] 175 1 false)
  b2 : At g (h.nx + 2) (.cells zShot 54 2 false)
  b3 : At g (h.nx + 3) (.cells [.int .i64 0] 26 1 false)
  b5 : At g (h.nx + 5) (.cells [.slice (some ⟨h.nx + 4, 0, some 0⟩) k k] 52 1 false)
  b6 : At g (h.nx + 6) (.cells (shC nm a k c) 54 2 false)
  e1 : At g (h.nx + 4) (.cells (us.flatMap Trc.cells) 58 10 false)
  e2 : ∀ u ∈ us, TrN g (h.nx + 8) u
theorem ChI.grow {h g g' : H} {nm : ByteArray} {a : Option Addr} {k c : Nat} {fv : Value} {us : List Trc} (I : ChI h nm a k c fv us g) (gg : Grow g g') (ww : Wf g') : ChI h nm a k c fv us g' :=
  ⟨ww, I.gr.trans gg, Nat.le_trans I.nx gg.nx, I.b0.grow gg, I.b1.grow gg, I.b2.grow gg, I.b3.grow gg, I.b5.grow gg, I.b6.grow gg, I.e1.grow gg, fun u hu => (I.e2 u hu).grow gg⟩
end Go.Proofs.YthnnndkfpamacaaGreatDoor

/- Cuts by the program: spans, parts of lists. -/
namespace Go.Proofs.YthnnndkfpamacaaGreatDoor
open Go Go.Ab Go.Fl
attribute [local irreducible] SeqQ BlkQ LpQ RetQ Wc Wo WD WX Op1 Op1q Op1a Cf Cl From
attribute [local irreducible] Ieee.Format.order Ieee.Format.read Ieee.Format.nearest Ieee.Format.write Ieee.Format.mul Ieee.Format.div Ieee.Datum.order Ieee.Datum.integral smpE smp smpW K J U trE hdrE lchk firstNZ isNameB wid mism shE offs shortB anyLarge
set_option maxRecDepth 10000
variable {G : Base} {h : H}

def spanE (x y w : Int) : Int := if x < 0 ∨ y < x ∨ w < y then 14 else 0
/-- A header, later. -/
def ltr (hd : Nat → Int) (x : Int) : Nat → Int := fun i => if i = 4 then hd 4 + x else hd i
/-! a shot without an error -/
theorem smp_le {x : Nat} (h : smpE x = 0) : (smp x).natAbs ≤ 16384 := by
  obtain ⟨_, _, _, _, _, h1, h2⟩ := smp_read h
  omega
theorem notLarge {l : List Int} (h : ∀ x ∈ l, x.natAbs ≤ 16384) : anyLarge l = false := by
  unfold anyLarge
  rw [List.any_eq_false]
  intro x hx
  have := h x hx
  unfold isLargeB
  simp
  omega

/-- What of the integers a part has. -/
def cutF (lo hi : Nat) (_ : Nat) (l : List Int) : List Int := (l.drop lo).take (hi - lo)
end Go.Proofs.YthnnndkfpamacaaGreatDoor

/- Cuts by the program. -/
namespace Go.Proofs.YthnnndkfpamacaaGreatDoor
open Go Go.Ab Go.Fl
attribute [local irreducible] SeqQ BlkQ LpQ RetQ Wc Wo WD WX Op1 Op1q Op1a Cf Cl From
attribute [local irreducible] Ieee.Format.order Ieee.Format.read Ieee.Format.nearest Ieee.Format.write Ieee.Format.mul Ieee.Format.div Ieee.Datum.order Ieee.Datum.integral smpE smp smpW K J U trE hdrE lchk firstNZ isNameB wid mism shE offs shortB anyLarge spanE
set_option maxRecDepth 10000
variable {G : Base} {h : H}

theorem flat_get {j : Nat} (hj : j < 10) : ∀ (us : List Trc) (k : Nat) (hk : k < us.length), (us.flatMap Trc.cells)[k * 10 + j]? = (us[k]).cells[j]?
  | u :: us, 0, _ => by
    rw [List.flatMap_cons, Nat.zero_mul, Nat.zero_add, List.getElem?_append_left (by simpa using hj)]; rfl
  | u :: us, k + 1, hk => by
    rw [List.flatMap_cons, List.getElem?_append_right (by simp; omega)]
    have : (k + 1) * 10 + j - u.cells.length = k * 10 + j := by simp; omega
    rw [this, flat_get hj us k (by simpa using hk)]
    rfl
theorem TrN.hd {h : H} {lo : Nat} {t : Trc} (o : TrN h lo t) (hd : Nat → Int) (hole : Bool) : TrN h lo ⟨hd, hole, t.sa, t.n, t.c, t.l⟩ :=
  o.imp id fun o => ⟨o.at', o.len, o.cap⟩
def cutKey (lo hi : Nat) (i : Nat) (t : Trc) : Key := (ltr t.hd lo, (chKey (cutF lo hi) i t).2)
end Go.Proofs.YthnnndkfpamacaaGreatDoor

/- Cuts by the reference. -/
namespace Go.Proofs.YthnnndkfpamacaaGreatDoor
open Go Go.Ab Go.Fl
attribute [local irreducible] SeqQ BlkQ LpQ RetQ Wc Wo WD WX Op1 Op1q Op1a Cf Cl From
attribute [local irreducible] Ieee.Format.order Ieee.Format.read Ieee.Format.nearest Ieee.Format.write Ieee.Format.mul Ieee.Format.div Ieee.Datum.order Ieee.Datum.integral smpE smp smpW K J U trE hdrE lchk firstNZ isNameB wid mism shE offs shortB anyLarge spanE
set_option maxRecDepth 10000
variable {G : Base} {h : H}

theorem _root_.Go.Ab.Sl.bumpB {h : H} {k es n : Nat} {v : Value} {l : List Value} (s : Sl G h es v n l) : Sl G (h.bump k) es v n l := s.grow ((Grow.refl _).bumpB _)
end Go.Proofs.YthnnndkfpamacaaGreatDoor
