/- Numbers and ratios held against one another. -/
import Derived.Test.YtdfpadokepmknaaGreatDoorH2
set_option linter.all false
/- The law FilterSubtracts, walked. -/
namespace Go.Proofs.YtdfpadokepmknaaGreatDoor
open Go Go.Ab Go.Fl
attribute [local irreducible] SeqQ BlkQ LpQ RetQ Wc Wo WD WX Op1 Op1q Op1a Cf Cl From
attribute [local irreducible] Ieee.Format.order Ieee.Format.read Ieee.Format.nearest Ieee.Format.write Ieee.Format.mul Ieee.Format.div Ieee.Datum.order Ieee.Datum.integral smpE smp smpW K J U sumN lchk tchk trE hdrE appL undL undA undI wr ghoL rnd mulL dghL dghA rngE notN innL lowN lowD madeE pairE subL subF anyLarge subE remE difL
set_option maxRecDepth 10000
variable {G : Base} {h : H}

/-- What the functions answer, each as a list, numbers and an error. -/
def SubS (G : Base) (h : H) (i : Option Addr × Nat × Nat) (n : Nat) (E p q : Int) (x y : List Int) : Prop :=
  (E ≠ 0 ∧ i.2.1 = 0 ∧ p = 0 ∧ q = 0) ∨ (E = 0 ∧ anyLarge (subL x y) = false ∧ i.2.1 = n ∧ p = lowN (innL x y) (innL y y) ∧ q = lowD (innL x y) (innL y y) ∧ Sl G h 1 (.slice i.1 i.2.1 i.2.2) n (((subL x y).map smpW).map (.float .f32)))
theorem SubS.grow {h h' : H} {i : Option Addr × Nat × Nat} {n : Nat} {E p q : Int} {x y : List Int} (m : SubS G h i n E p q x y) (g : Grow h h') : SubS G h' i n E p q x y := by
  rcases m with m | ⟨m1, m2, m3, m4, m5, m6⟩
  · exact .inl m
  · exact .inr ⟨m1, m2, m3, m4, m5, m6.grow g⟩
def RSubS (G : Base) (h : H) (i : Option Addr × Nat × Nat) (two p q : Int) (n : Nat) (x y : List Int) : Prop :=
  (innL y y = 0 ∧ two = 17 ∧ p = 0 ∧ q = 0) ∨ (innL y y ≠ 0 ∧ two = 0 ∧ p = lowN (innL x y) (innL y y) ∧ q = lowD (innL x y) (innL y y) ∧ Sl G h 1 (.slice i.1 i.2.1 i.2.2) n ((subL x y).map (.int .i64)))
theorem RSubS.grow {h h' : H} {i : Option Addr × Nat × Nat} {n : Nat} {E p q : Int} {x y : List Int} (m : RSubS G h i E p q n x y) (g : Grow h h') : RSubS G h' i E p q n x y := by
  rcases m with m | ⟨m1, m2, m3, m4, m5⟩
  · exact .inl m
  · exact .inr ⟨m1, m2, m3, m4, m5.grow g⟩
theorem RSubS.set {i : Option Addr × Nat × Nat} {n B : Nat} {E p q : Int} {x y : List Int} {c : List Value} (m : RSubS G h i E p q n x y) (hat : At h B (.cells c 65 2 false)) (o : AObj) : RSubS G (h.set B o) i E p q n x y := by
  rcases m with m | ⟨m1, m2, m3, m4, m5⟩
  · exact .inl m
  · exact .inr ⟨m1, m2, m3, m4, Sl.set_ne m5 hat (by decide) o⟩
end Go.Proofs.YtdfpadokepmknaaGreatDoor
