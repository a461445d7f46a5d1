/- Survey: runs of equal elements; spans deleted. -/
import Derived.Test.YtlioomhcdlicmaaGreatDoorC4
set_option linter.all false
/- Survey: runs of equal elements. -/
namespace Go.Proofs.YtlioomhcdlicmaaGreatDoor
open Go Go.Ab Go.Fl
attribute [local irreducible] SeqQ BlkQ LpQ RetQ Wc Wo WD WX Op1 Op1q Op1a Cf Cl From
attribute [local irreducible] Ieee.Format.order Ieee.Format.read Ieee.Format.nearest Ieee.Format.write Ieee.Format.mul Ieee.Format.div Ieee.Format.sqrt Ieee.Datum.order Ieee.Datum.integral K U rngE errN ptE firstNZ vesE watE sgE sgsE allE hitB sqD insB qsL lvl
set_option maxRecDepth 10000
variable {G : Base} {h : H}
structure Spn where
 f : Int
 t : Int
@[reducible] def Spn.cells (p : Spn) : List Value := [.int .i64 p.f, .int .i64 p.t]
theorem Spn.len (p : Spn) : p.cells.length = 2 := rfl
theorem Spn.flat {l : List Spn} : (l.flatMap Spn.cells).length = l.length * 2 := flat_len Spn.len l
def rn (b : Nat → Bool) : Nat → List Spn × Nat
 | 0 => ([], 0)
 | k + 1 => if k = 0 then ([], 0) else if b k = b (k - 1) then rn b k else ((rn b k).1 ++ [⟨((rn b k).2 : Nat), (k : Nat)⟩], k)
def rl (b : Nat → Bool) (k : Nat) : List Spn := if k = 0 then [] else (rn b k).1 ++ [⟨((rn b k).2 : Nat), (k : Nat)⟩]
theorem rl_new {b : Nat → Bool} {k : Nat} (h : k = 0 ∨ b k ≠ b (k - 1)) : rl b (k + 1) = rl b k ++ [⟨(k : Nat), ((k + 1 : Nat) : Int)⟩] := by
 unfold rl
 rw [if_neg (by omega)]
 rcases Nat.eq_zero_or_pos k with rfl | hk
 · simp [rn]
 · have hb : ¬b k = b (k - 1) := by
     rcases h with h | h
     · omega
     · exact h
   rw [if_neg (by omega), rn, if_neg (by omega), if_neg hb]
theorem rn_inv {b : Nat → Bool} : ∀ k, 0 < k → b (rn b k).2 = b (k - 1) ∧ (rn b k).2 < k ∧ ∀ s ∈ (rn b k).1, 0 ≤ s.f ∧ s.f < s.t ∧ s.t < (k : Nat)
 | 0, h => by omega
 | 1, _ => by simp [rn]
 | k + 2, _ => by
   obtain ⟨h1, h2, h3⟩ := rn_inv (b := b) (k + 1) (by omega)
   rw [rn, if_neg (by omega)]
   by_cases hb : b (k + 1) = b (k + 1 - 1)
   · rw [if_pos hb]
     refine ⟨by rw [h1]; exact hb.symm, by omega, fun s hs => ?_⟩
     have := h3 s hs
     omega
   · rw [if_neg hb]
     refine ⟨rfl, by simp, fun s hs => ?_⟩
     rcases List.mem_append.1 hs with hs | hs
     · have := h3 s hs
       omega
     · simp only [List.mem_singleton] at hs
       subst hs
       simp only
       omega
theorem rl_old {b : Nat → Bool} {k : Nat} (hk : 0 < k) : ∃ (D : List Spn) (f : Nat), rl b k = D ++ [⟨(f : Nat), (k : Nat)⟩] ∧ (b k = b (k - 1) → rl b (k + 1) = D ++ [⟨(f : Nat), ((k + 1 : Nat) : Int)⟩]) ∧ b f = b (k - 1) ∧ f < k ∧ ∀ s ∈ D, s.t < (k : Nat) := by
 obtain ⟨h1, h2, h3⟩ := rn_inv (b := b) k hk
 refine ⟨(rn b k).1, (rn b k).2, ?_, fun h => ?_, h1, h2, fun s hs => (h3 s hs).2.2⟩
 · unfold rl; rw [if_neg (by omega)]
 · unfold rl
   rw [if_neg (by omega), rn, if_neg (by omega), if_pos h]
theorem rl_mem {b : Nat → Bool} {k : Nat} {s : Spn} (h : s ∈ rl b k) : 0 ≤ s.f ∧ s.f < s.t ∧ s.t ≤ (k : Nat) := by
 unfold rl at h
 split at h
 · cases h
 · obtain ⟨h1, h2, h3⟩ := rn_inv (b := b) k (by omega)
   rcases List.mem_append.1 h with h | h
   · have := h3 s h
     omega
   · simp only [List.mem_singleton] at h
     subst h
     simp only
     omega
def fl (b : Nat → Bool) (k : Nat) : List Spn := (rl b k).filter fun s => b s.f.toNat
theorem set_last {D : List Spn} {a z x : Int} : (D.flatMap Spn.cells ++ [Value.int .i64 a, Value.int .i64 z]).set (D.length * 2 + 1) (Value.int .i64 x) = D.flatMap Spn.cells ++ [Value.int .i64 a, Value.int .i64 x] := by
 rw [List.set_append_right _ _ (by rw [Spn.flat]; omega), Spn.flat, Nat.add_sub_cancel_left]; rfl
theorem flat_last {D : List Spn} {a z : Int} : (D ++ [⟨a, z⟩] : List Spn).flatMap Spn.cells = D.flatMap Spn.cells ++ [Value.int .i64 a, Value.int .i64 z] := by
 rw [List.flatMap_append]; rfl
theorem rl_len {b : Nat → Bool} : ∀ k, (rl b k).length ≤ k
 | 0 => Nat.zero_le _
 | k + 1 => by
   have ih := rl_len (b := b) k
   by_cases hn : k = 0 ∨ b k ≠ b (k - 1)
   · rw [rl_new hn]; simp; omega
   · obtain ⟨D, f, e1, e2, _⟩ := rl_old (b := b) (k := k) (by omega)
     have hb : b k = b (k - 1) := by
       by_cases q : b k = b (k - 1)
       · exact q
       · exact absurd (.inr q) hn
     rw [e1] at ih
     rw [e2 hb]
     simp at ih ⊢
     omega
end Go.Proofs.YtlioomhcdlicmaaGreatDoor
/- Survey: spans deleted; the silent spans by the program. -/
namespace Go.Proofs.YtlioomhcdlicmaaGreatDoor
open Go Go.Ab Go.Fl
attribute [local irreducible] SeqQ BlkQ LpQ RetQ Wc Wo WD WX Op1 Op1q Op1a Cf Cl From
attribute [local irreducible] Ieee.Format.order Ieee.Format.read Ieee.Format.nearest Ieee.Format.write Ieee.Format.mul Ieee.Format.div Ieee.Format.sqrt Ieee.Datum.order Ieee.Datum.integral K U rngE errN ptE firstNZ vesE watE sgE sgsE allE hitB sqD insB qsL lvl rn rl
set_option maxRecDepth 10000
variable {G : Base} {h : H}
structure Keep1 (b : Nat) (h h' : H) : Prop where
 nx : h.nx ≤ h'.nx
 get : ∀ n, n < h.nx → n ≠ b → h'.get n = h.get n
 wf : Wf h → Wf h'
theorem Keep1.refl {b : Nat} {h : H} : Keep1 b h h := ⟨Nat.le_refl _, fun _ _ _ => rfl, id⟩
theorem Keep1.grow {b : Nat} {h h' h2 : H} (k : Keep1 b h h') (g : Grow h' h2) : Keep1 b h h2 := ⟨Nat.le_trans k.nx g.nx, fun n h1 q => (g.get n (Nat.lt_of_lt_of_le h1 k.nx)).trans (k.get n h1 q), fun w => g.wf (k.wf w)⟩
theorem Keep1.set {b : Nat} {h h' : H} (k : Keep1 b h h') (hb : b < h'.nx) (o : AObj) : Keep1 b h (h'.set b o) := ⟨by simp only [H.nx_set]; exact k.nx, fun n h1 q => by rw [H.get_set, if_neg q]; exact k.get n h1 q, fun w => Wf.set (k.wf w) hb _⟩
theorem Keep1.at {b b' : Nat} {h h' : H} {o : AObj} (k : Keep1 b h h') (q : b' ≠ b) (a : At h b' o) : At h' b' o := ⟨Nat.lt_of_lt_of_le a.lt k.nx, (k.get b' a.lt q).trans a.get⟩
theorem Keep1.base {b : Nat} {g h h' : H} (k : Keep1 b h h') (x : Grow g h) (q : g.nx ≤ b) : Grow g h' := ⟨Nat.le_trans x.nx k.nx, fun n hn => (k.get n (Nat.lt_of_lt_of_le hn x.nx) (by omega)).trans (x.get n hn), fun w => k.wf (x.wf w)⟩
theorem op_clear {M : Mc} {l : KL} {h h' : H} {t : TypeId} {x : Operand} {v : Value} (hx : val l x = some v) (hv : aclear M.P h t v = some h') : Op1 M (.call ⟨.builtin .clear, #[x], #[t]⟩) l h undef h' :=
 op_blt fun e he => by simp [aop, he.val (x := x) (by simp [Op.operands, Call.operands]) hx, hv]
end Go.Proofs.YtlioomhcdlicmaaGreatDoor
