/- Survey: what may be inside, and levels, by the reference and by the program; lists compared. -/
import Derived.Test.YtlioomhcdlicmaaGreatDoorC3
set_option linter.all false
/- Survey: whether an animal may be inside, and levels, by the reference. -/
namespace Go.Proofs.YtlioomhcdlicmaaGreatDoor
open Go Go.Ab Go.Fl
attribute [local irreducible] SeqQ BlkQ LpQ RetQ Wc Wo WD WX Op1 Op1q Op1a Cf Cl From
attribute [local irreducible] Ieee.Format.order Ieee.Format.read Ieee.Format.nearest Ieee.Format.write Ieee.Format.mul Ieee.Format.div Ieee.Format.sqrt Ieee.Datum.order Ieee.Datum.integral K U rngE errN ptE firstNZ vesE watE sgE sgsE allE hitB sqD insB qsL lvl
set_option maxRecDepth 10000
variable {G : Base} {h : H}
def OutG (lo : Nat) (h : H) (v : Value) (n : Nat) (c : List Value) (et w : Nat) : Prop := (v = .slice none 0 0 ∧ n = 0 ∧ c = []) ∨ ∃ e, lo ≤ e ∧ v = .slice (some ⟨e, 0, some 0⟩) n n ∧ At h e (.cells c et w true)
theorem OutG.sl {lo n et w : Nat} {v : Value} {c : List Value} (q : OutG lo h v n c et w) (hc : c.length = n * w) : Sl G h w v n c := by
 rcases q with ⟨rfl, rfl, rfl⟩ | ⟨e, _, rfl, hat⟩
 · exact .nil
 · exact Sl.ofAt hat hc (Nat.le_refl _)
/- Survey: lists of what may be inside, and of levels, by the reference; lists compared. -/
def inL (I : Nat → Bool) (T : Nat) : List Bool := (List.range T).map I
def leL (cl so : Int) (I : Nat → Bool) (T : Nat) : List Int := (List.range T).map fun i => lvl cl so (qt I (i + 1) : Int)
/- Survey: what may be inside, and levels, by the program; lists compared. -/
theorem errN_all {f : Nat → Int} {n k : Nat} (h : errN f n = 0) (hk : k < n) : f k = 0 := by
 by_cases q : f k = 0
 · exact q
 · exfalso
   have hz : errN f k = 0 := by
     by_cases z : errN f k = 0
     · exact z
     · rw [errN_hit (by omega) z] at h; exact absurd h z
   have nx := cB_ hz
   have := errN_hit (f := f) (k := k + 1) (n := n) (by omega) (by rw [nx]; exact q)
   rw [h, nx] at this
   exact q this.symm
theorem sgs_ok {l : List Sg} (h : sgsE l = 0) : l.length ≤ 64 ∧ ∀ p ∈ l, sgE p = 0 := by
 unfold sgsE at h
 split at h
 · cases h
 · refine ⟨by omega, fun p hp => ?_⟩
   obtain ⟨i, hi, rfl⟩ := List.getElem_of_mem hp
   have a := errN_all h hi
   unfold sucA at a
   rw [show l.getD i ⟨0, 0, 0⟩ = l[i] by simp [List.getD, List.getElem?_eq_getElem hi]] at a
   by_cases q : sgE l[i] = 0
   · exact q
   · rw [if_pos q] at a; exact a
theorem all_ok {x y u v t r sp lo cl so : Int} {l : List Sg} (h : allE x y u v t r sp lo cl so l = 0) : (x.natAbs ≤ 100000 ∧ y.natAbs ≤ 100000) ∧ (u.natAbs ≤ 1000 ∧ v.natAbs ≤ 1000) ∧ (1 ≤ t ∧ t ≤ 4096) ∧ (0 ≤ r ∧ r ≤ 10000) ∧ (0 ≤ sp ∧ sp ≤ 1000) ∧ (0 ≤ lo ∧ lo ≤ 1000) ∧ (0 ≤ cl ∧ cl ≤ 1000) ∧ (0 ≤ so ∧ so ≤ 1000) ∧ l.length ≤ 64 ∧ ∀ p ∈ l, sgE p = 0 := by
 unfold allE at h
 have a := bX_ h
 obtain ⟨⟨v1, v2⟩, ⟨v3, v4⟩, v5, v6⟩ := ves_ok (a (vesE x y u v t) (by simp))
 obtain ⟨w1, w2, w3, w4, w5⟩ := wat_ok (a (watE r sp lo cl so) (by simp))
 obtain ⟨s1, s2⟩ := sgs_ok (a (sgsE l) (by simp))
 exact ⟨⟨by omega, by omega⟩, ⟨by omega, by omega⟩, ⟨v5, v6⟩, w1, w2, w3, w4, w5, s1, s2⟩
def insN (x y u v t r sp lo cl so : Int) (l : List Sg) : List Bool := if allE x y u v t r sp lo cl so l = 0 then inL (insB x y u v r sp lo l) t.toNat else []
def levN (x y u v t r sp lo cl so : Int) (l : List Sg) : List Int := if allE x y u v t r sp lo cl so l = 0 then leL cl so (insB x y u v r sp lo l) t.toNat else []
theorem in_atV {α : Type} (K : α → Value) (d : α) {v : Value} {n : Nat} {l : List α} (s : Sl G h 1 v n (l.map K)) {st et : TypeId} (hu : Tryz.prog.underlying st = some (.slice et)) (hz : tsz Tryz.prog et = some 1) {i : Int} {q : Nat} (hq : q < n) (hi : i = (q : Int)) :
   ∃ ad, aindexAddr Tryz.prog st v (.int .i64 i) = some (.pointer (some ad)) ∧ ∀ h', Grow h h' → acell G h' ad = some (K (l.getD q d)) := by
 have hl := s.length
 rw [List.length_map, Nat.mul_one] at hl
 rw [List.map_eq_flatMap] at s
 obtain ⟨ad, h1, h2⟩ := cw_ (f := fun a => [K a]) (fun _ => rfl) d s hl hu hz hq hi
 exact ⟨ad, h1, fun h' g => (h2 h' g).get 0 _ rfl⟩
end Go.Proofs.YtlioomhcdlicmaaGreatDoor
