/- Survey: runs of equal elements; spans deleted. -/
import Derived.Test.YtlioomhcdlicmaaGreatDoorC4
set_option linter.all false
/- Survey: runs of equal elements. -/
namespace Go.Proofs.YtlioomhcdlicmaaGreatDoor
open Go Go.Ab Go.Fl
attribute [local irreducible] SeqQ BlkQ LpQ RetQ Wc Wo WD WX Op1 Op1q Op1a Cf Cl From
attribute [local irreducible] Ieee.Format.order Ieee.Format.read Ieee.Format.nearest Ieee.Format.write Ieee.Format.mul Ieee.Format.div Ieee.Format.sqrt Ieee.Datum.order Ieee.Datum.integral K U rngE errN ptE firstNZ vesE watE sgE sgsE allE hitB sqD insB qsL lvl
set_option maxRecDepth 10000
variable {G : Base} {h : H}

structure Spn where
  f : Int
  t : Int
@[reducible] def Spn.cells (p : Spn) : List Value := [.int .i64 p.f, .int .i64 p.t]
theorem Spn.len (p : Spn) : p.cells.length = 2 := rfl
theorem Spn.flat {l : List Spn} : (l.flatMap Spn.cells).length = l.length * 2 := flat_len Spn.len l

/-- The runs of equal elements before k: those that have ended, and where the last one began. -/
def rn (b : Nat → Bool) : Nat → List Spn × Nat
  | 0 => ([], 0)
  | k + 1 => if k = 0 then ([], 0) else if b k = b (k - 1) then rn b k else ((rn b k).1 ++ [⟨((rn b k).2 : Nat), (k : Nat)⟩], k)
def rl (b : Nat → Bool) (k : Nat) : List Spn := if k = 0 then [] else (rn b k).1 ++ [⟨((rn b k).2 : Nat), (k : Nat)⟩]
/-- The runs of what is true. -/
def fl (b : Nat → Bool) (k : Nat) : List Spn := (rl b k).filter fun s => b s.f.toNat
end Go.Proofs.YtlioomhcdlicmaaGreatDoor

/- Survey: spans deleted; the silent spans by the program. -/
namespace Go.Proofs.YtlioomhcdlicmaaGreatDoor
open Go Go.Ab Go.Fl
attribute [local irreducible] SeqQ BlkQ LpQ RetQ Wc Wo WD WX Op1 Op1q Op1a Cf Cl From
attribute [local irreducible] Ieee.Format.order Ieee.Format.read Ieee.Format.nearest Ieee.Format.write Ieee.Format.mul Ieee.Format.div Ieee.Format.sqrt Ieee.Datum.order Ieee.Datum.integral K U rngE errN ptE firstNZ vesE watE sgE sgsE allE hitB sqD insB qsL lvl rn rl
set_option maxRecDepth 10000
variable {G : Base} {h : H}
/-- All but one block is kept. -/
structure Keep1 (b : Nat) (h h' : H) : Prop where
  nx : h.nx ≤ h'.nx
  get : ∀ n, n < h.nx → n ≠ b → h'.get n = h.get n
  wf : Wf h → Wf h'
theorem Keep1.refl {b : Nat} {h : H} : Keep1 b h h := ⟨Nat.le_refl _, fun _ _ _ => rfl, id⟩
theorem Keep1.grow {b : Nat} {h h' h2 : H} (k : Keep1 b h h') (g : Grow h' h2) : Keep1 b h h2 := ⟨Nat.le_trans k.nx g.nx, fun n h1 q => (g.get n (Nat.lt_of_lt_of_le h1 k.nx)).trans (k.get n h1 q), fun w => g.wf (k.wf w)⟩
theorem Keep1.set {b : Nat} {h h' : H} (k : Keep1 b h h') (hb : b < h'.nx) (o : AObj) : Keep1 b h (h'.set b o) := ⟨by simp only [H.nx_set]; exact k.nx, fun n h1 q => by rw [H.get_set, if_neg q]; exact k.get n h1 q, fun w => Wf.set (k.wf w) hb _⟩
theorem Keep1.at {b b' : Nat} {h h' : H} {o : AObj} (k : Keep1 b h h') (q : b' ≠ b) (a : At h b' o) : At h' b' o := ⟨Nat.lt_of_lt_of_le a.lt k.nx, (k.get b' a.lt q).trans a.get⟩
theorem Keep1.base {b : Nat} {g h h' : H} (k : Keep1 b h h') (x : Grow g h) (q : g.nx ≤ b) : Grow g h' := ⟨Nat.le_trans x.nx k.nx, fun n hn => (k.get n (Nat.lt_of_lt_of_le hn x.nx) (by omega)).trans (x.get n hn), fun w => k.wf (x.wf w)⟩

end Go.Proofs.YtlioomhcdlicmaaGreatDoor
