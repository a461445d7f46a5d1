/- Contracts of functions on lists of samples: convolutions, correlations. -/
import Derived.Test.YthnnndkfpamacaaGreatDoorL1
import Derived.Test.YthnnndkfpamacaaGreatDoorK2
set_option linter.all false
/- Lists convolved: by the reference. -/
namespace Go.Proofs.YthnnndkfpamacaaGreatDoor
open Go Go.Ab Go.Fl
attribute [local irreducible] SeqQ BlkQ LpQ RetQ Wc Wo WD WX Op1 Op1q Op1a Cf Cl From
attribute [local irreducible] Ieee.Format.order Ieee.Format.read Ieee.Format.nearest Ieee.Format.write Ieee.Format.mul Ieee.Format.div Ieee.Datum.order Ieee.Datum.integral smpE smp smpW K J U spread sumN
set_option maxRecDepth 10000
variable {G : Base} {h : H}
theorem map_getD {l : List Nat} {i : Nat} (h : i < l.length) : (l.map smp).getD i 0 = smp l[i] := by simp [List.getD, List.getElem?_eq_getElem h]
theorem sl_at {h : H} {v : Value} {n : Nat} {l : List Nat} (s : Sl G h 1 v n (l.map (.float .f32))) {i : Int} {q : Nat} (hq : q < n) (hi : i = (q : Int)) :
   ∃ ad, aindexAddr Tryz.prog 45 v (.int .i64 i) = some (.pointer (some ad)) ∧ acell G h ad = some (.float .f32 (l[q]'(by have := s.length; simp at this; omega))) := by
 have hl := s.length
 simp at hl
 obtain ⟨ad, h1, h2⟩ := s.addr (M := mz G) Tryz.underlying45 (es := 1) zs23 (i := i) (k := .i64) (by omega) (by omega)
 refine ⟨ad, h1, h2.get 0 _ ?_⟩
 rw [show i.toNat * 1 = q by omega]
 simp
theorem slI_at {h : H} {v : Value} {n : Nat} {l : List Int} (s : Sl G h 1 v n (l.map (.int .i64))) {i : Int} {q : Nat} (hq : q < n) (hi : i = (q : Int)) :
   ∃ ad, aindexAddr Tryz.prog 25 v (.int .i64 i) = some (.pointer (some ad)) ∧ acell G h ad = some (.int .i64 (l.getD q 0)) := by
 have hl := s.length
 simp at hl
 obtain ⟨ad, h1, h2⟩ := s.addr (M := mz G) Tryz.underlying25 (es := 1) zs3 (i := i) (k := .i64) (by omega) (by omega)
 refine ⟨ad, h1, h2.get 0 _ ?_⟩
 rw [show i.toNat * 1 = q by omega, ← getElem_getD (by omega)]
 simp
/- Lists convolved: by the program; lists that are the same. -/
theorem firstNZ_zero : ∀ {l : List Int}, firstNZ l = 0 → ∀ e ∈ l, e = 0
 | [], _, _, h => by cases h
 | a :: l, h, e, he => by
   unfold firstNZ at h
   split at h
   · rcases List.mem_cons.1 he with rfl | he
     · assumption
     · exact firstNZ_zero h e he
   · contradiction
theorem lchk_ok {l : List Nat} (h : lchk l = 0) : l.length ≤ 1024 ∧ ∀ x ∈ l, smpE x = 0 := by
 unfold lchk at h
 split at h
 · exact absurd h (by decide)
 · exact ⟨by omega, fun x hx => firstNZ_zero h _ (List.mem_map_of_mem hx)⟩
theorem num_self {w : Nat} {v : Int} (h : Num Ieee.single w v) : (Ieee.single.order w w == some .eq) = true := by rw [h.feq h]; simp
/- Lists correlated. -/
end Go.Proofs.YthnnndkfpamacaaGreatDoor
