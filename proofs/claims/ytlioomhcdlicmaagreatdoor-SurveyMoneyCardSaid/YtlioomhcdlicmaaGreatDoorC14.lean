/- Survey: the downtime both ways; entries converted. -/
import Derived.Test.YtlioomhcdlicmaaGreatDoorC13
set_option linter.all false
/- Survey: the downtime, both ways. -/
namespace Go.Proofs.YtlioomhcdlicmaaGreatDoor
open Go Go.Ab Go.Fl
attribute [local irreducible] SeqQ BlkQ LpQ RetQ Wc Wo WD WX Op1 Op1q Op1a Cf Cl From
attribute [local irreducible] Ieee.Format.order Ieee.Format.read Ieee.Format.nearest Ieee.Format.write Ieee.Format.mul Ieee.Format.div Ieee.Format.sqrt Ieee.Datum.order Ieee.Datum.integral K U rngE errN ptE firstNZ vesE watE sgE sgsE allE hitB sqD insB qsL lvl rn rl altB
set_option maxRecDepth 10000
variable {G : Base} {h : H}
attribute [local irreducible] spE numM cauW cnum cauN enE hrK
theorem six_bd {l : List En} (hv : ∀ e ∈ l, enE e = 0) {n : Nat} (hn : n ≤ 64) {z0 z1 z2 z3 z4 z5 : Int} (hz : hrK l n = [z0, z1, z2, z3, z4, z5]) : (0 ≤ z0 ∧ z0 ≤ 6400000) ∧ (0 ≤ z1 ∧ z1 ≤ 6400000) ∧ (0 ≤ z2 ∧ z2 ≤ 6400000) ∧ (0 ≤ z3 ∧ z3 ≤ 6400000) ∧ (0 ≤ z4 ∧ z4 ≤ 6400000) ∧ (0 ≤ z5 ∧ z5 ≤ 6400000) := by
 have b := hrK_bd hv n
 rw [hz] at b
 have b0 := b 0
 have b1 := b 1
 have b2 := b 2
 have b3 := b 3
 have b4 := b 4
 have b5 := b 5
 simp only [List.getD, List.getElem?_cons_zero, List.getElem?_cons_succ, Option.getD_some] at b0 b1 b2 b3 b4 b5
 omega
theorem eg22 : Tryz.prog.eqGuardType Tryz.prog.depth 22 = false := by kernel_rfl
theorem eqv22 (a0 a1 a2 a3 a4 a5 b0 b1 b2 b3 b4 b5 : Int) : eqV Tryz.prog 3 22 [.int .i64 a0, .int .i64 a1, .int .i64 a2, .int .i64 a3, .int .i64 a4, .int .i64 a5] [.int .i64 b0, .int .i64 b1, .int .i64 b2, .int .i64 b3, .int .i64 b4, .int .i64 b5] = some (decide (a0 = b0) && (decide (a1 = b1) && (decide (a2 = b2) && (decide (a3 = b3) && (decide (a4 = b4) && (decide (a5 = b5) && true)))))) := by kernel_rfl
attribute [local irreducible] lowN lowD
end Go.Proofs.YtlioomhcdlicmaaGreatDoor
/- Survey: the downtime by the reference; entries converted. -/
namespace Go.Proofs.YtlioomhcdlicmaaGreatDoor
open Go Go.Ab Go.Fl
attribute [local irreducible] SeqQ BlkQ LpQ RetQ Wc Wo WD WX Op1 Op1q Op1a Cf Cl From
attribute [local irreducible] Ieee.Format.order Ieee.Format.read Ieee.Format.nearest Ieee.Format.write Ieee.Format.mul Ieee.Format.div Ieee.Format.sqrt Ieee.Datum.order Ieee.Datum.integral K U rngE errN ptE firstNZ vesE watE sgE sgsE allE hitB sqD insB qsL lvl rn rl altB
set_option maxRecDepth 10000
variable {G : Base} {h : H}
attribute [local irreducible] spE numM cauW cnum cauN enE hrK lowN lowD
set_option maxHeartbeats 4000000 in
theorem c40 {v : Value} {n : Nat} {l : List En} (s : Sl G h 3 v n (l.flatMap En.cells)) (hl : l.length = n) (hn : n < 1000000) (hw : Wf h) : Cf (mz G) (.func (.func 40) #[] #[]) [v] h fun r h' => Sl G h' 3 r n (l.flatMap En.cells) ∧ Grow h h' := by
 obtain ⟨a, c, rfl⟩ := s.form
 refine ak_ 18 [.tmp 2] Tryz.func40 rfl rfl rfl rfl ?_
 repeat' (first | with_reducible refine ad_ ?_ | ((with_reducible refine ac_ ?_); first | ((with_reducible refine av_ ?_); refine aq_ (ax_ rfl Tryz.underlying83) ?_) | refine ao_ ?_) | refine ap_ ?_)
 refine bo_ (fun p : Nat × Value => n - p.1) (fun p => [(3, p.2), (6, .slice a n c), (7, .int .i64 n), (8, .int .i64 (p.1 : Nat))]) (fun p h' => (Wf h' ∧ Grow h h') ∧ p.1 ≤ n ∧ ((p.2 = .slice none 0 0 ∧ p.1 = 0) ∨ ∃ e, h.nx ≤ e ∧ p.2 = .slice (some ⟨e, 0, some 0⟩) p.1 p.1 ∧ At h' e (.cells ((l.take p.1).flatMap En.cells) 133 3 true))) (0, .slice none 0 0) (af_ ⟨rfl, rfl, rfl, rfl, trivial⟩) ⟨⟨aA_, au_⟩, Nat.zero_le _, .inl ⟨rfl, rfl⟩⟩ ?_
 rintro ⟨k, v⟩ h1 ⟨⟨w1, g1⟩, hk, hv⟩
 simp only at hk hv ⊢
 have n1 := g1.nx
 by_cases hlt : k < n
 · obtain ⟨id, i1, i3⟩ := cw_ En.len ⟨0, 0, .empty⟩ (s.grow g1) hl Tryz.underlying83 zs184 (i := (k : Int)) hlt rfl
   obtain ⟨p, hp⟩ : ∃ p, l.getD k ⟨0, 0, .empty⟩ = p := ⟨_, rfl⟩
   have e1 : (l.take (k + 1)).flatMap En.cells = (l.take k).flatMap En.cells ++ p.cells := by
     rw [cf_ ⟨0, 0, .empty⟩ (by omega), hp, List.flatMap_append]; simp
   rw [hp] at i3
   obtain ⟨f, t, cz⟩ := p
   dsimp only [En.cells] at i3
   rcases hv with ⟨rfl, rfl⟩ | ⟨e, hb, rfl, hat⟩
   · repeat' (first | with_reducible refine ad_ ?_ | ((with_reducible refine ac_ ?_); first | ((with_reducible refine an_ ?_); refine aq_ (ag_ rfl rfl i1) ?_) | ((with_reducible refine al_ ?_); first | refine aq_ (aN_ rfl Tryz.underlying184 rfl zs184 (i3 _ au_).all) ?_ | refine aq_ (aj_ rfl ah_ Tryz.underlying184 rfl zs184 rfl rfl) ?_) | ((with_reducible refine av_ ?_); refine aq_ (bl_ rfl rfl (bz_ (M := mz G) (st := 85) (xt := 85) (m := 1) Tryz.underlying85 Tryz.underlying85 rfl bt_ zb133 zz133 rfl (Sl.ofAt ah_ rfl (Nat.le_refl _)) rfl (by omega) (by omega))) ?_) | ((with_reducible refine ay_ ?_); refine bQ_ (aB_ rfl rfl ah_ zs184 rfl rfl rfl rfl) ?_) | ((with_reducible refine aE_ ?_); refine aq_ (aR_ rfl Tryz.underlying85 bt_ zz133 rfl rfl) ?_) | refine ao_ ?_) | refine ap_ ?_ | (refine aG_ rfl (fun hb => ?_) (fun hb => aw_ hb); (try simp only [aX_, reduceCtorEq] at hb)))
     exact aI_ (0 + 1, .slice (some ⟨_, 0, some 0⟩) (0 + 1) (0 + 1)) (by simp only; omega) (af_ ⟨rfl, rfl, rfl, rfl, trivial⟩) ⟨⟨aA_, au_⟩, by simp only; omega, .inr ⟨_, by simp only [H.nx_push, H.nx_set, H.nx_bump, H.nx_kill]; omega, rfl, by simp only; rw [e1]; exact ah_⟩⟩
   · have l1 := hat.lt
     repeat' (first | with_reducible refine ad_ ?_ | ((with_reducible refine ac_ ?_); first | ((with_reducible refine an_ ?_); refine aq_ (ag_ rfl rfl i1) ?_) | ((with_reducible refine al_ ?_); first | refine aq_ (aN_ rfl Tryz.underlying184 rfl zs184 (i3 _ au_).all) ?_ | refine aq_ (aj_ rfl ah_ Tryz.underlying184 rfl zs184 rfl rfl) ?_) | ((with_reducible refine av_ ?_); refine aq_ (bl_ rfl rfl (br_ (M := mz G) (st := 85) (xt := 85) (m := 1) Tryz.underlying85 Tryz.underlying85 rfl bt_ zb133 zz133 rfl (Sl.ofAt ah_ rfl (Nat.le_refl _)) rfl (b := e) (c := (l.take k).flatMap En.cells) ah_ (by rw [En.flat, List.length_take]; omega) (by omega) (by omega))) ?_) | ((with_reducible refine ay_ ?_); refine bQ_ (aB_ rfl rfl ah_ zs184 rfl rfl rfl rfl) ?_) | ((with_reducible refine aE_ ?_); refine aq_ (aR_ rfl Tryz.underlying85 bt_ zz133 rfl rfl) ?_) | refine ao_ ?_) | refine ap_ ?_ | (refine aG_ rfl (fun hb => ?_) (fun hb => aw_ hb); (try simp only [aX_, reduceCtorEq] at hb)))
     exact aI_ (k + 1, .slice (some ⟨_, 0, some 0⟩) (k + 1) (k + 1)) (by simp only; omega) (af_ ⟨rfl, rfl, rfl, rfl, trivial⟩) ⟨⟨aA_, au_⟩, by simp only; omega, .inr ⟨_, by simp only [H.nx_push, H.nx_set, H.nx_bump, H.nx_kill]; omega, rfl, by simp only; rw [e1]; exact ah_⟩⟩
 · have hkn : k = n := by omega
   subst hkn
   rw [show l.take k = l by rw [List.take_of_length_le (by omega)]] at hv
   repeat' (first | with_reducible refine ad_ ?_ | ((with_reducible refine ac_ ?_); refine ao_ ?_) | refine ap_ ?_ | (refine aG_ rfl (fun hb => ?_) (fun hb => ?_) <;> (try simp only [aX_, reduceCtorEq] at hb) <;> (try (exfalso; omega))))
   refine rq1 rfl ⟨?_, au_⟩
   rcases hv with ⟨rfl, rfl⟩ | ⟨e, hb, rfl, hat⟩
   · have htn : l = [] := by simpa using hl
     subst htn
     exact .nil
   · exact Sl.ofAt hat (by rw [En.flat, hl]) (Nat.le_refl _)
def shoE (l : List En) : Bool := l.all (fun e => decide (e.c.size ≤ 40)) && decide (l.length ≤ 10 ∨ l.length = 65)
set_option maxHeartbeats 4000000 in
theorem c38 {v : Value} {n : Nat} {l : List En} (s : Sl G h 3 v n (l.flatMap En.cells)) (hl : l.length = n) (hn : n ≤ maxLen) (hw : Wf h) : Cf (mz G) (.func (.func 38) #[] #[]) [v] h fun r h' => r = .bool (shoE l) ∧ Grow h h' := by
 obtain ⟨a, c, rfl⟩ := s.form
 have hml : maxLen = 9223372036854775807 := rfl
 refine ak_ 25 [.tmp 2] Tryz.func38 rfl rfl rfl rfl ?_
 repeat' (first | with_reducible refine ad_ ?_ | ((with_reducible refine ac_ ?_); ((with_reducible refine cx_ ?_); refine aq_ (aW_ rfl) ?_)) | refine ap_ ?_)
 refine bo_ (fun i => n - i) (fun i : Nat => [(0, .slice a n c), (3, .int .i64 (i : Nat))]) (fun i h' => (Wf h' ∧ Grow h h') ∧ i ≤ n ∧ (l.take i).all (fun e => decide (e.c.size ≤ 40)) = true) 0 (af_ ⟨rfl, rfl, trivial⟩) ⟨⟨aA_, au_⟩, Nat.zero_le _, rfl⟩ ?_
 rintro i h1 ⟨⟨w1, g1⟩, hi, hp⟩
 have n1 := g1.nx
 by_cases hlt : i < n
 · obtain ⟨id, i1, i3⟩ := cw_ En.len ⟨0, 0, .empty⟩ (s.grow g1) hl Tryz.underlying83 zs184 (i := (i : Int)) hlt rfl
   have nx : (l.take (i + 1)).all (fun e => decide (e.c.size ≤ 40)) = ((l.take i).all (fun e => decide (e.c.size ≤ 40)) && decide ((l.getD i ⟨0, 0, .empty⟩).c.size ≤ 40)) := by
     rw [cf_ ⟨0, 0, .empty⟩ (by omega), List.all_append]; simp
   have hm : l.getD i ⟨0, 0, .empty⟩ ∈ l := by simp [List.getD, List.getElem?_eq_getElem (show i < l.length by omega)]
   rw [hp, Bool.true_and] at nx
   obtain ⟨x0, hx⟩ : ∃ x, l.getD i ⟨0, 0, .empty⟩ = x := ⟨_, rfl⟩
   rw [hx] at i3 nx hm
   obtain ⟨f, t, cz⟩ := x0
   have ic := fun (h' : H) (g' : Grow h1 h') => (show acell G h' (aadd id 2) = some (.string cz) from (i3 h' g').get 2 _ rfl)
   dsimp only at nx
   by_cases h40 : cz.size ≤ 40
   · rw [decide_eq_true h40] at nx
     repeat' (first | with_reducible refine ad_ ?_ | ((with_reducible refine ac_ ?_); first | ((with_reducible refine an_ ?_); refine aq_ (ag_ rfl rfl i1) ?_) | ((with_reducible refine al_ ?_); refine aq_ (az_ rfl Tryz.underlying9 rfl (ic _ au_)) ?_) | ((with_reducible refine av_ ?_); first | refine aq_ (ax_ rfl Tryz.underlying83) ?_ | refine aq_ (cd_ rfl Tryz.underlying9) ?_) | refine ao_ ?_) | refine ap_ ?_ | (refine aG_ rfl (fun hb => aw_ hb) (fun hb => ?_); (try simp only [aX_, reduceCtorEq] at hb)) | (refine aG_ rfl (fun hb => ?_) (fun hb => aw_ hb); (try simp only [aX_, reduceCtorEq] at hb)))
     exact aI_ (i + 1) (by omega) (af_ ⟨rfl, rfl, trivial⟩) ⟨⟨aA_, au_⟩, by omega, nx⟩
   · have hf : shoE l = false := by
       unfold shoE
       have : l.all (fun e => decide (e.c.size ≤ 40)) = false := by
         rw [← Bool.not_eq_true, List.all_eq_true]
         exact fun q => h40 (of_decide_eq_true (q _ hm))
       rw [this, Bool.false_and]
     rw [hf]
     repeat' (first | with_reducible refine ad_ ?_ | ((with_reducible refine ac_ ?_); first | ((with_reducible refine an_ ?_); refine aq_ (ag_ rfl rfl i1) ?_) | ((with_reducible refine al_ ?_); refine aq_ (az_ rfl Tryz.underlying9 rfl (ic _ au_)) ?_) | ((with_reducible refine av_ ?_); first | refine aq_ (ax_ rfl Tryz.underlying83) ?_ | refine aq_ (cd_ rfl Tryz.underlying9) ?_) | refine ao_ ?_) | refine ap_ ?_ | (refine aG_ rfl (fun hb => ?_) (fun hb => aw_ hb); (try simp only [aX_, reduceCtorEq] at hb)))
     exact rq1 rfl ⟨rfl, au_⟩
 · rw [List.take_of_length_le (by omega)] at hp
   have hf : shoE l = decide (n ≤ 10 ∨ n = 65) := by unfold shoE; rw [hp, Bool.true_and, hl]
   rw [hf]
   repeat' (first | with_reducible refine ad_ ?_ | ((with_reducible refine ac_ ?_); first | ((with_reducible refine av_ ?_); refine aq_ (ax_ rfl Tryz.underlying83) ?_) | ((with_reducible refine cC_ ?_); first | refine bn_ rfl rfl rfl rfl rfl rfl ?_ | ((with_reducible refine bH_ ?_); refine ai_ rfl rfl rfl (aD_ rfl) rfl rfl ?_) | ((with_reducible refine ig_callb ?_); refine ai_ rfl rfl rfl (ax_ rfl Tryz.underlying83) rfl rfl ?_) | ((with_reducible refine bB_ ?_); refine ai_ rfl rfl rfl (op_eql rfl rfl) rfl rfl ?_) | (refine aY_ rfl rfl rfl (fun hb => ?_) (fun hb => ?_) <;> (try simp only [aX_, reduceCtorEq] at hb) <;> (try (exfalso; omega)))) | refine ao_ ?_) | refine ap_ ?_ | (refine aG_ rfl (fun hb => ?_) (fun hb => ?_) <;> (try simp only [aX_, reduceCtorEq] at hb) <;> (try (exfalso; omega))))
   all_goals refine rq1 rfl ⟨?_, au_⟩
   all_goals first
     | (congr 1; exact (decide_eq_true (by omega)).symm)
     | (congr 1; exact (decide_eq_false (by omega)).symm)
     | (congr 1; rw [decide_eq_decide]; omega)
end Go.Proofs.YtlioomhcdlicmaaGreatDoor
