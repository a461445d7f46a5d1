/- What is heard of a list that is made. -/
import Derived.Test.YtccdcekcbbpohaaGreatDoorG2
set_option linter.all false
/- The law FilterGhosts, walked. -/
namespace Go.Proofs.YtccdcekcbbpohaaGreatDoor
open Go Go.Ab Go.Fl
attribute [local irreducible] SeqQ BlkQ LpQ RetQ Wc Wo WD WX Op1 Op1q Op1a Cf Cl From
attribute [local irreducible] Ieee.Format.order Ieee.Format.read Ieee.Format.nearest Ieee.Format.write Ieee.Format.mul Ieee.Format.div Ieee.Datum.order Ieee.Datum.integral smpE smp smpW K J U sumN lchk tchk trE hdrE appL undL undA undI wr ghoL rnd mulL dghL dghA madeE anyLarge rngE notN
set_option maxRecDepth 10000
variable {G : Base} {h : H}

/-- The list that is made, with its error. -/
def MadeS (G : Base) (h : H) (i : Option Addr × Nat × Nat) (n : Nat) (E : Int) (L : List Int) : Prop :=
  (E ≠ 0 ∧ i.2.1 = 0) ∨ (E = 0 ∧ i.2.1 = n ∧ Sl G h 1 (.slice i.1 i.2.1 i.2.2) n ((L.map smpW).map (.float .f32)))
theorem MadeS.grow {h h' : H} {i : Option Addr × Nat × Nat} {n : Nat} {E : Int} {L : List Int} (m : MadeS G h i n E L) (g : Grow h h') : MadeS G h' i n E L := by
  rcases m with m | ⟨m1, m2, m3⟩
  · exact .inl m
  · exact .inr ⟨m1, m2, m3.grow g⟩
theorem made_s {r : Value} {n : Nat} {E : Int} {L : List Int} (m : MadeF G h r n E L) : ∃ i : Option Addr × Nat × Nat, r = .tuple #[.slice i.1 i.2.1 i.2.2, .int .i64 E] ∧ MadeS G h i n E L := by
  rcases m with ⟨m1, m2⟩ | ⟨m1, a, c, m2, m3, _⟩
  · exact ⟨(none, 0, 0), m2, .inl ⟨m1, rfl⟩⟩
  · subst m1
    exact ⟨(a, n, c), m2, .inr ⟨rfl, rfl, m3⟩⟩
def NotS (G : Base) (h : H) (i : Option Addr × Nat × Nat) (x : Int) : Prop :=
  (rngE x 1 64 ≠ 0 ∧ i.2.1 = 0) ∨ (rngE x 1 64 = 0 ∧ i.2.1 = (notN x.toNat 4).length ∧ Sl G h 1 (.slice i.1 i.2.1 i.2.2) i.2.1 ((notN x.toNat 4).map (.int .i64)))
theorem NotS.grow {h h' : H} {i : Option Addr × Nat × Nat} {x : Int} (m : NotS G h i x) (g : Grow h h') : NotS G h' i x := by
  rcases m with m | ⟨m1, m2, m3⟩
  · exact .inl m
  · exact .inr ⟨m1, m2, m3.grow g⟩
/-- What the reference makes of a list without its ghost, with its error. -/
def RefS (G : Base) (h : H) (i : Option Addr × Nat × Nat) (two : Int) (n : Nat) (L : List Int) : Prop :=
  (two = 4 ∧ anyLarge L = true) ∨ (two = 0 ∧ anyLarge L = false ∧ Sl G h 1 (.slice i.1 i.2.1 i.2.2) n (L.map (.int .i64)))
theorem RefS.grow {h h' : H} {i : Option Addr × Nat × Nat} {two : Int} {n : Nat} {L : List Int} (m : RefS G h i two n L) (g : Grow h h') : RefS G h' i two n L := by
  rcases m with m | ⟨m1, m2, m3⟩
  · exact .inl m
  · exact .inr ⟨m1, m2, m3.grow g⟩
section
variable {v : Value} {n : Nat} {l : List Nat}
end
theorem madeE_bad {B : Int} {L : List Int} (h : B ≠ 0) : madeE B L = B := by unfold madeE; rw [if_pos h]
theorem madeE_zero (L : List Int) : madeE 0 L = if anyLarge L then 4 else 0 := by unfold madeE; rw [if_neg (by decide)]
/-- What is heard of a list that is made: bad arguments. -/
theorem heard_bad {i : Option Addr × Nat × Nat} {n : Nat} {B : Int} {L L' : List Int} {w : Value} (hB : B ≠ 0) (m : MadeS G h i n (madeE B L) L) : HeardA G h i.1 i.2.1 i.2.2 (madeE B L) B w L' := by
  rw [madeE_bad hB] at m ⊢
  rcases m with ⟨_, m⟩ | ⟨m, _⟩
  · exact .inl ⟨hB, rfl, m⟩
  · exact absurd m hB
theorem heard_good {i : Option Addr × Nat × Nat} {n : Nat} {L : List Int} {w : Value} (hn : n < 1000000) (sw : Sl G h 1 w n (L.map (.int .i64))) (m : MadeS G h i n (madeE 0 L) L) : HeardA G h i.1 i.2.1 i.2.2 (madeE 0 L) 0 w L := by
  rw [madeE_zero] at m ⊢
  refine .inr ⟨rfl, ⟨n, hn, sw⟩, ?_⟩
  cases hL : anyLarge L with
  | true =>
    rw [hL, if_pos rfl] at m
    rw [if_pos rfl]
    rcases m with ⟨_, m⟩ | ⟨m, _⟩
    · exact .inl ⟨rfl, rfl, m⟩
    · exact absurd m (by decide)
  | false =>
    rw [hL, if_neg (by decide)] at m
    rw [if_neg (by decide)]
    rcases m with ⟨m, _⟩ | ⟨_, m2, m3⟩
    · exact absurd rfl m
    · refine .inr ⟨rfl, rfl, ?_⟩
      rw [m2] at m3 ⊢
      exact m3
theorem HeardA.grow {h h' : H} {a : Option Addr} {n c : Nat} {E bad : Int} {w : Value} {L : List Int} (q : HeardA G h a n c E bad w L) (g : Grow h h') : HeardA G h' a n c E bad w L := by
  rcases q with q | ⟨q1, ⟨m, q2, q3⟩, q⟩
  · exact .inl q
  · refine .inr ⟨q1, ⟨m, q2, q3.grow g⟩, ?_⟩
    rcases q with q | ⟨q4, q5, q6⟩
    · exact .inl q
    · exact .inr ⟨q4, q5, q6.grow g⟩
theorem ListA.grow {h h' : H} {a : Option Addr} {n c : Nat} {E bad : Int} {w : Value} {L : List Int} (q : ListA G h a n c E bad w L) (g : Grow h h') : ListA G h' a n c E bad w L := by
  obtain ⟨e, q⟩ := q
  refine ⟨e, ?_⟩
  rcases q with q | ⟨q1, q2, q3, q4⟩
  · exact .inl q
  · exact .inr ⟨q1, q2, q3.grow g, q4.grow g⟩
end Go.Proofs.YtccdcekcbbpohaaGreatDoor
