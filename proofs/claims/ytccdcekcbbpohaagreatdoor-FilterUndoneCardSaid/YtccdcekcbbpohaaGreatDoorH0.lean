/- What is heard of a list that is made. -/
import Derived.Test.YtccdcekcbbpohaaGreatDoorG2
set_option linter.all false
/- The law FilterGhosts, walked. -/
namespace Go.Proofs.YtccdcekcbbpohaaGreatDoor
open Go Go.Ab Go.Fl
attribute [local irreducible] SeqQ BlkQ LpQ RetQ Wc Wo WD WX Op1 Op1q Op1a Cf Cl From
attribute [local irreducible] Ieee.Format.order Ieee.Format.read Ieee.Format.nearest Ieee.Format.write Ieee.Format.mul Ieee.Format.div Ieee.Datum.order Ieee.Datum.integral smpE smp smpW K J U sumN lchk tchk trE hdrE appL undL undA undI wr ghoL rnd mulL dghL dghA madeE anyLarge rngE notN
set_option maxRecDepth 10000
variable {G : Base} {h : H}

/-- The list that is made, with its error. -/
def MadeS (G : Base) (h : H) (i : Option Addr × Nat × Nat) (n : Nat) (E : Int) (L : List Int) : Prop :=
  (E ≠ 0 ∧ i.2.1 = 0) ∨ (E = 0 ∧ i.2.1 = n ∧ Sl G h 1 (.slice i.1 i.2.1 i.2.2) n ((L.map smpW).map (.float .f32)))
theorem MadeS.grow {h h' : H} {i : Option Addr × Nat × Nat} {n : Nat} {E : Int} {L : List Int} (m : MadeS G h i n E L) (g : Grow h h') : MadeS G h' i n E L := by
  rcases m with m | ⟨m1, m2, m3⟩
  · exact .inl m
  · exact .inr ⟨m1, m2, m3.grow g⟩
def NotS (G : Base) (h : H) (i : Option Addr × Nat × Nat) (x : Int) : Prop :=
  (rngE x 1 64 ≠ 0 ∧ i.2.1 = 0) ∨ (rngE x 1 64 = 0 ∧ i.2.1 = (notN x.toNat 4).length ∧ Sl G h 1 (.slice i.1 i.2.1 i.2.2) i.2.1 ((notN x.toNat 4).map (.int .i64)))
theorem NotS.grow {h h' : H} {i : Option Addr × Nat × Nat} {x : Int} (m : NotS G h i x) (g : Grow h h') : NotS G h' i x := by
  rcases m with m | ⟨m1, m2, m3⟩
  · exact .inl m
  · exact .inr ⟨m1, m2, m3.grow g⟩
/-- What the reference makes of a list without its ghost, with its error. -/
def RefS (G : Base) (h : H) (i : Option Addr × Nat × Nat) (two : Int) (n : Nat) (L : List Int) : Prop :=
  (two = 4 ∧ anyLarge L = true) ∨ (two = 0 ∧ anyLarge L = false ∧ Sl G h 1 (.slice i.1 i.2.1 i.2.2) n (L.map (.int .i64)))
theorem RefS.grow {h h' : H} {i : Option Addr × Nat × Nat} {two : Int} {n : Nat} {L : List Int} (m : RefS G h i two n L) (g : Grow h h') : RefS G h' i two n L := by
  rcases m with m | ⟨m1, m2, m3⟩
  · exact .inl m
  · exact .inr ⟨m1, m2, m3.grow g⟩
section
variable {v : Value} {n : Nat} {l : List Nat}
end
theorem c34s (x : Int) (hw : Wf h) : Cf (mz G) (.func (.func 34) #[] #[]) [.int .i64 x] h fun r h' => (∃ i : Option Addr × Nat × Nat, r = .tuple #[.slice i.1 i.2.1 i.2.2, .int .i64 (rngE x 1 64)] ∧ NotS G h' i x) ∧ Grow h h' :=
  (c34 x hw).mono fun r h' ⟨⟨a, m, c, q1, q2⟩, g⟩ => ⟨⟨(a, m, c), q1, q2⟩, g⟩
theorem madeE_zero (L : List Int) : madeE 0 L = if anyLarge L then 4 else 0 := by unfold madeE; rw [if_neg (by decide)]
theorem HeardA.grow {h h' : H} {a : Option Addr} {n c : Nat} {E bad : Int} {w : Value} {L : List Int} (q : HeardA G h a n c E bad w L) (g : Grow h h') : HeardA G h' a n c E bad w L := by
  rcases q with q | ⟨q1, ⟨m, q2, q3⟩, q⟩
  · exact .inl q
  · refine .inr ⟨q1, ⟨m, q2, q3.grow g⟩, ?_⟩
    rcases q with q | ⟨q4, q5, q6⟩
    · exact .inl q
    · exact .inr ⟨q4, q5, q6.grow g⟩
theorem ListA.grow {h h' : H} {a : Option Addr} {n c : Nat} {E bad : Int} {w : Value} {L : List Int} (q : ListA G h a n c E bad w L) (g : Grow h h') : ListA G h' a n c E bad w L := by
  obtain ⟨e, q⟩ := q
  refine ⟨e, ?_⟩
  rcases q with q | ⟨q1, q2, q3, q4⟩
  · exact .inl q
  · exact .inr ⟨q1, q2, q3.grow g, q4.grow g⟩
end Go.Proofs.YtccdcekcbbpohaaGreatDoor
