/- Survey: windows told by a relation; runs of words. -/
import Derived.Test.YtlioomhcdlicmaaGreatDoorC8
import Derived.Test.YtlioomhcdlicmaaGreatDoorL0
set_option linter.all false
/- Survey: windows both ways. -/
namespace Go.Proofs.YtlioomhcdlicmaaGreatDoor
open Go Go.Ab Go.Fl
attribute [local irreducible] SeqQ BlkQ LpQ RetQ Wc Wo WD WX Op1 Op1q Op1a Cf Cl From
attribute [local irreducible] Ieee.Format.order Ieee.Format.read Ieee.Format.nearest Ieee.Format.write Ieee.Format.mul Ieee.Format.div Ieee.Format.sqrt Ieee.Datum.order Ieee.Datum.integral K U rngE errN ptE firstNZ vesE watE sgE sgsE allE hitB sqD insB qsL lvl rn rl
set_option maxRecDepth 10000
variable {G : Base} {h : H}
attribute [local irreducible] fl silN insN levN inL leL
end Go.Proofs.YtlioomhcdlicmaaGreatDoor
/- Survey: runs of words; the cause of a tick. -/
namespace Go.Proofs.YtlioomhcdlicmaaGreatDoor
open Go Go.Ab Go.Fl
attribute [local irreducible] SeqQ BlkQ LpQ RetQ Wc Wo WD WX Op1 Op1q Op1a Cf Cl From
attribute [local irreducible] Ieee.Format.order Ieee.Format.read Ieee.Format.nearest Ieee.Format.write Ieee.Format.mul Ieee.Format.div Ieee.Format.sqrt Ieee.Datum.order Ieee.Datum.integral K U rngE errN ptE firstNZ vesE watE sgE sgsE allE hitB sqD insB qsL lvl
set_option maxRecDepth 10000
variable {G : Base} {h : H}
attribute [local irreducible] fl silN insN levN inL leL
theorem op_snes {M : Mc} {l : KL} {h : H} {t ty : TypeId} {x y : Operand} {a : ByteArray} (hx : val l x = some (.string a)) (hy : val l y = some (.string a)) : Op1 M (.binOp .neq t x y ty) l h (.bool false) h := by
 have := op_sne (M := M) (h := h) (t := t) (ty := ty) hx hy
 simpa using this
theorem op_sneT {M : Mc} {l : KL} {h : H} {x y : Operand} {t ty : TypeId} {a b : ByteArray} (hx : val l x = some (.string a)) (hy : val l y = some (.string b)) (hab : ¬a = b) : Op1 M (.binOp .neq t x y ty) l h (.bool true) h := by
 have := op_sne (M := M) (h := h) (t := t) (ty := ty) hx hy
 rwa [decide_eq_true hab] at this
def altB (W : Nat → ByteArray) : Nat → Bool
 | 0 => false
 | k + 1 => if W (k + 1) = W k then altB W k else !altB W k
theorem altB_iff {W : Nat → ByteArray} {k : Nat} (hk : 0 < k) : altB W k = altB W (k - 1) ↔ W k = W (k - 1) := by
 obtain ⟨m, rfl⟩ : ∃ m, k = m + 1 := ⟨k - 1, by omega⟩
 rw [Nat.add_sub_cancel, altB]
 by_cases q : W (m + 1) = W m
 · simp [q]
 · simp only [q, if_false, iff_false]
   cases altB W m <;> simp
theorem wL_get {W : Nat → ByteArray} {T k : Nat} (hk : k < T) : ((List.range T).map W).getD k .empty = W k := by
 simp [List.getD, List.getElem?_map, List.getElem?_range hk]
set_option maxHeartbeats 8000000 in
theorem c138 {v : Value} {T : Nat} {W : Nat → ByteArray} (s : Sl G h 1 v T (((List.range T).map W).map Value.string)) (hT : T < 1000000) (hw : Wf h) : Cf (mz G) (.func (.func 138) #[] #[]) [v] h fun r h' => OutG h.nx h' r (rl (altB W) T).length ((rl (altB W) T).flatMap Spn.cells) 79 2 ∧ Grow h h' := by
 obtain ⟨B, hB⟩ : ∃ B, altB W = B := ⟨_, rfl⟩
 rw [hB]
 have hBn : ∀ k, 0 < k → (B k = B (k - 1) ↔ W k = W (k - 1)) := fun k hk => by rw [← hB]; exact altB_iff hk
 clear hB
 obtain ⟨a, c, rfl⟩ := s.form
 refine ak_ 39 [.tmp 2] Tryz.func138 rfl rfl rfl rfl ?_
 repeat' (first | with_reducible refine ad_ ?_ | ((with_reducible refine ac_ ?_); first | ((with_reducible refine av_ ?_); refine aq_ (ax_ rfl Tryz.underlying25) ?_) | refine ao_ ?_) | refine ap_ ?_)
 refine bo_ (fun p : Nat × Value => T - p.1) (fun p => [(0, .slice a T c), (3, p.2), (6, .slice a T c), (7, .int .i64 (T : Nat)), (8, .int .i64 (p.1 : Nat))]) (fun p h' => (Wf h' ∧ Grow h h') ∧ p.1 ≤ T ∧ ((p.1 = 0 ∧ p.2 = .slice none 0 0) ∨ 0 < p.1 ∧ ∃ e, h.nx ≤ e ∧ p.2 = .slice (some ⟨e, 0, some 0⟩) (rl B p.1).length (rl B p.1).length ∧ At h' e (.cells ((rl B p.1).flatMap Spn.cells) 79 2 true))) (0, .slice none 0 0) (af_ ⟨rfl, rfl, rfl, rfl, rfl, trivial⟩) ⟨⟨aA_, au_⟩, Nat.zero_le _, .inl ⟨rfl, rfl⟩⟩ ?_
 rintro ⟨k, v⟩ h1 ⟨⟨w1, g1⟩, hk, hv⟩
 simp only at hk hv ⊢
 have n1 := g1.nx
 by_cases hlt : k < T
 · obtain ⟨id, i1, i3⟩ := in_atV Value.string .empty (s.grow g1) Tryz.underlying25 zs9 (i := (k : Int)) hlt rfl
   rw [wL_get hlt] at i3
   by_cases hk0 : k = 0
   · subst hk0
     obtain ⟨_, rfl⟩ | ⟨q, _⟩ := hv
     · have e1 := rl_new (b := B) (k := 0) (.inl rfl)
       have e2 : rl B 0 = [] := rfl
       rw [e2, List.nil_append] at e1
       have hs0 : ([Value.int .i64 ((0 : Nat) : Int), Value.int .i64 0] : List Value).set 1 (.int .i64 (((0 : Nat) : Int) + 1)) = [Value.int .i64 ((0 : Nat) : Int), Value.int .i64 (((0 : Nat) : Int) + 1)] := rfl
       obtain ⟨x0, hx⟩ : ∃ x, W 0 = x := ⟨_, rfl⟩
       rw [hx] at i3
       clear hx
       repeat' (first | with_reducible refine ad_ ?_ | ((with_reducible refine ac_ ?_); first | ((with_reducible refine an_ ?_); refine aq_ (ag_ rfl rfl i1) ?_) | ((with_reducible refine al_ ?_); refine aq_ (az_ rfl Tryz.underlying9 rfl (i3 _ au_)) ?_) | ((with_reducible refine av_ ?_); first | refine aq_ (bl_ rfl rfl (bz_ (M := mz G) (st := 52) (xt := 52) (m := 1) Tryz.underlying52 Tryz.underlying52 rfl zs79 zb79 zz79 rfl (Sl.ofAt ah_ rfl (Nat.le_refl _)) rfl (by omega) (by omega))) ?_ | refine aq_ (ax_ rfl Tryz.underlying52) ?_) | ((with_reducible refine ay_ ?_); refine bQ_ (op_st1 rfl rfl ah_ rfl zs3 rfl rfl rfl) ?_) | ((with_reducible refine aE_ ?_); refine aq_ (aR_ rfl Tryz.underlying52 zs79 zz79 rfl rfl) ?_) | ((with_reducible refine cC_ ?_); refine bn_ rfl rfl rfl rfl rfl rfl ?_) | refine ao_ ?_) | refine ap_ ?_ | (refine aG_ rfl (fun hb => ?_) (fun hb => aw_ hb); (try simp only [aX_, reduceCtorEq] at hb)))
       refine aI_ (0 + 1, .slice (some ⟨_, 0, some 0⟩) (0 + 1) (0 + 1)) (by simp only; omega) (af_ ⟨rfl, rfl, rfl, rfl, rfl, trivial⟩) ⟨⟨aA_, au_⟩, by simp only; omega, .inr ⟨by simp only; omega, _, ?_, by simp only; rw [e1]; rfl, by simp only; rw [e1]; exact (show At _ _ (.cells [Value.int .i64 ((0 : Nat) : Int), Value.int .i64 (((0 : Nat) : Int) + 1)] 79 2 true) from ah_)⟩⟩
       simp only [H.nx_push, H.nx_set, H.nx_bump, H.nx_kill]; omega
     · omega
   · obtain ⟨jd, j1, j3⟩ := in_atV Value.string .empty (s.grow g1) Tryz.underlying25 zs9 (i := (k : Int) - 1) (q := k - 1) (by omega) (by omega)
     rw [wL_get (by omega)] at j3
     obtain ⟨D, f, e1, e2, e3, e4, _⟩ := rl_old (b := B) (k := k) (by omega)
     have hne : (rl B k).length ≠ 0 := by rw [e1]; simp
     obtain ⟨e, he, hve, hat⟩ : ∃ e, h.nx ≤ e ∧ v = .slice (some ⟨e, 0, some 0⟩) (rl B k).length (rl B k).length ∧ At h1 e (.cells ((rl B k).flatMap Spn.cells) 79 2 true) := by
       rcases hv with ⟨q, _⟩ | ⟨_, q⟩
       · exact absurd q hk0
       · exact q
     subst hve
     have l1 := hat.lt
     have hl1 : ∀ (D : List Spn) (a z : Int), D.length * 2 + 1 < (D.flatMap Spn.cells ++ [Value.int .i64 a, Value.int .i64 z]).length := fun D a z => by
       rw [List.length_append, Spn.flat]; simp only [List.length_cons, List.length_nil]; omega
     clear hv
     obtain ⟨x0, hx⟩ : ∃ x, W k = x := ⟨_, rfl⟩
     obtain ⟨y0, hy⟩ : ∃ x, W (k - 1) = x := ⟨_, rfl⟩
     rw [hx] at i3
     rw [hy] at j3
     by_cases hxy : x0 = y0
     · subst hxy
       have e5 := e2 ((hBn k (by omega)).2 (by rw [hx, hy]))
       have e6 : (D ++ [⟨(f : Nat), (k : Nat)⟩] : List Spn).length = D.length + 1 := by simp
       have hDl : D.length + 1 ≤ k := by have := rl_len (b := B) k; rw [e1] at this; simpa using this
       rw [e1, flat_last] at hat
       rw [e1, e6]
       clear e1 e2 e3 hx hy hne
       have e7 : (rl B (k + 1)).length = D.length + 1 := by rw [e5]; simp
       have e8 : (rl B (k + 1)).flatMap Spn.cells = D.flatMap Spn.cells ++ [Value.int .i64 (f : Nat), Value.int .i64 ((k : Int) + 1)] := by rw [e5, flat_last]; rfl
       clear e5
       (
        repeat' (first | with_reducible refine ad_ ?_ | ((with_reducible refine ac_ ?_); first | ((with_reducible refine an_ ?_); first | refine aq_ (ag_ rfl rfl i1) ?_ | refine aq_ (op_idxSl (o := D.length * 2) rfl rfl Tryz.underlying52 zs79 (by omega) (by omega) (by omega)) ?_) | ((with_reducible refine al_ ?_); refine aq_ (az_ rfl Tryz.underlying9 rfl (i3 _ au_)) ?_) | ((with_reducible refine ay_ ?_); refine bQ_ (bA_ (o := D.length * 2 + 1) rfl rfl ah_ rfl zs3 (hl1 _ _ _) rfl set_last) ?_) | ((with_reducible refine av_ ?_); refine aq_ (ax_ rfl Tryz.underlying52) ?_) | ((with_reducible refine cC_ ?_); first | ((with_reducible refine bH_ ?_); refine ai_ rfl rfl rfl (aD_ rfl) rfl rfl ?_) | ((with_reducible refine ig_indexAddr ?_); refine ai_ rfl rfl rfl (ag_ rfl rfl j1) rfl rfl ?_) | ((with_reducible refine bF_ ?_); refine ai_ rfl rfl rfl (az_ rfl Tryz.underlying9 rfl (j3 _ au_)) rfl rfl ?_) | ((with_reducible refine bB_ ?_); first | refine ai_ rfl rfl rfl (op_snes rfl rfl) rfl rfl ?_ | refine ai_ rfl rfl rfl (bY_ rfl rfl (w64 (by omega) (by omega))) rfl rfl ?_) | (refine aY_ rfl rfl rfl (fun hb => aw_ hb) (fun hb => ?_); (try simp only [aX_, reduceCtorEq] at hb))) | refine ao_ ?_) | refine ap_ ?_ | (refine aG_ rfl (fun hb => ?_) (fun hb => aw_ hb); (try simp only [aX_, reduceCtorEq] at hb)))
        exact aI_ (k + 1, .slice (some ⟨_, 0, some 0⟩) (D.length + 1) (D.length + 1)) (by simp only; omega) (af_ ⟨rfl, rfl, rfl, rfl, rfl, trivial⟩) ⟨⟨aA_, au_⟩, by simp only; omega, .inr ⟨by simp only; omega, e, he, by simp only; rw [e7], by simp only; rw [e8]; exact ah_⟩⟩)
     · have e5 := rl_new (b := B) (k := k) (.inr (fun z => hxy (by rw [← hx, ← hy]; exact (hBn k (by omega)).1 z)))
       have hlen : ((rl B k).flatMap Spn.cells).length = (rl B k).length * 2 := Spn.flat
       have hm1 : 1 ≤ (rl B k).length := by omega
       have hm2 : (rl B k).length ≤ k := rl_len k
       have hs1 : (rl B (k + 1)).length = (rl B k).length + 1 := by rw [e5]; simp
       have hs2 : (rl B (k + 1)).flatMap Spn.cells = (rl B k).flatMap Spn.cells ++ [Value.int .i64 (k : Nat), Value.int .i64 ((k + 1 : Nat) : Int)] := by rw [e5, flat_last]
       clear e1 e2 e3 e5 hx hy hne
       obtain ⟨L, hL⟩ : ∃ L, rl B k = L := ⟨_, rfl⟩
       rw [hL] at hat hlen hm1 hm2 hs1 hs2 ⊢
       clear hL
       first
         | (repeat' (first | with_reducible refine ad_ ?_ | ((with_reducible refine ac_ ?_); first | ((with_reducible refine an_ ?_); first | refine aq_ (ag_ rfl rfl i1) ?_ | refine aq_ (op_idxSl (o := L.length * 2) rfl rfl Tryz.underlying52 zs79 (by omega) (by omega) (by omega)) ?_) | ((with_reducible refine al_ ?_); refine aq_ (az_ rfl Tryz.underlying9 rfl (i3 _ au_)) ?_) | ((with_reducible refine av_ ?_); first | refine aq_ (bl_ rfl rfl (br_ (M := mz G) (st := 52) (xt := 52) (m := 1) Tryz.underlying52 Tryz.underlying52 rfl zs79 zb79 zz79 rfl (Sl.ofAt ah_ rfl (Nat.le_refl _)) rfl (b := e) (c := L.flatMap Spn.cells) ah_ hlen (by omega) (by omega))) ?_ | refine aq_ (ax_ rfl Tryz.underlying52) ?_) | ((with_reducible refine ay_ ?_); refine bQ_ (bA_ (o := L.length * 2 + 1) rfl rfl ah_ rfl zs3 (hl1 _ _ _) rfl set_last) ?_) | ((with_reducible refine aE_ ?_); refine aq_ (aR_ rfl Tryz.underlying52 zs79 zz79 rfl rfl) ?_) | ((with_reducible refine cC_ ?_); first | ((with_reducible refine bH_ ?_); refine ai_ rfl rfl rfl (aD_ rfl) rfl rfl ?_) | ((with_reducible refine ig_indexAddr ?_); refine ai_ rfl rfl rfl (ag_ rfl rfl j1) rfl rfl ?_) | ((with_reducible refine bF_ ?_); refine ai_ rfl rfl rfl (az_ rfl Tryz.underlying9 rfl (j3 _ au_)) rfl rfl ?_) | ((with_reducible refine bB_ ?_); first | refine ai_ rfl rfl rfl (op_sneT rfl rfl hxy) rfl rfl ?_ | refine ai_ rfl rfl rfl (bY_ rfl rfl (w64 (by omega) (by omega))) rfl rfl ?_) | (refine aY_ rfl rfl rfl (fun hb => aw_ hb) (fun hb => ?_); (try simp only [aX_, reduceCtorEq] at hb))) | refine ao_ ?_) | refine ap_ ?_ | (refine aG_ rfl (fun hb => ?_) (fun hb => aw_ hb); (try simp only [aX_, reduceCtorEq] at hb)))
            refine aI_ (k + 1, .slice (some ⟨_, 0, some 0⟩) (L.length + 1) (L.length + 1)) (by simp only; omega) (af_ ⟨rfl, rfl, rfl, rfl, rfl, trivial⟩) ⟨⟨aA_, au_⟩, by simp only; omega, .inr ⟨by simp only; omega, _, ?_, by simp only; rw [hs1], by simp only; rw [hs2]; exact (show At _ _ (.cells (L.flatMap Spn.cells ++ [Value.int .i64 (k : Nat), Value.int .i64 ((k : Int) + 1)]) 79 2 true) from ah_)⟩⟩
            simp only [H.nx_push, H.nx_set, H.nx_bump, H.nx_kill]; omega)
 · have hkn : k = T := by omega
   subst hkn
   repeat' (first | with_reducible refine ad_ ?_ | ((with_reducible refine ac_ ?_); refine ao_ ?_) | refine ap_ ?_ | (refine aG_ rfl (fun hb => ?_) (fun hb => ?_) <;> (try simp only [aX_, reduceCtorEq] at hb) <;> (try (exfalso; omega))))
   refine rq1 rfl ⟨?_, au_⟩
   rcases hv with ⟨rfl, rfl⟩ | ⟨_, q⟩
   · exact .inl ⟨rfl, rfl, rfl⟩
   · exact .inr q
def wWe : ByteArray := ⟨⟨[119, 101, 97, 116, 104, 101, 114]⟩⟩
def wSh : ByteArray := ⟨⟨[115, 104, 97, 114, 101]⟩⟩
def wAn : ByteArray := ⟨⟨[97, 110, 105, 109, 97, 108]⟩⟩
def wSo : ByteArray := ⟨⟨[115, 104, 111, 111, 116]⟩⟩
def cauS (wk sk si : Bool) : ByteArray := if wk then wWe else if sk then (if si then wAn else wSo) else wSh
theorem c136 {r sp lo cl so q : Int} {k : Nat} {vs vw : Value} {m n : Nat} {L M : List Spn} (p : Sl G h 2 vs m (L.flatMap Spn.cells)) (hL : L.length = m) (hm : m < 1000000) (pw : Sl G h 2 vw n (M.flatMap Spn.cells)) (hM : M.length = n) (hn : n < 1000000) (hq : 0 ≤ q ∧ q ≤ 1000000) (hc : 0 ≤ cl ∧ cl ≤ 1000) (hs : 0 ≤ so ∧ so ≤ 1000) (hw : Wf h) : Cf (mz G) (.func (.func 136) #[] #[]) [.agg ⟨stC r sp lo cl so q⟩, .int .i64 (k : Nat), vs, vw] h fun r h' => r = .string (cauS (M.any (inP (k : Nat))) (L.any (inP (k : Nat))) (decide (lvl cl so q = 0))) ∧ Grow h h' := by
 have q1 := fun (h' : H) (g : Grow h h') (w' : Wf h') => c141 (k := (k : Int)) (p.grow g) hL hm w'
 have q2 := fun (h' : H) (g : Grow h h') (w' : Wf h') => c141 (k := (k : Int)) (pw.grow g) hM hn w'
 have q3 := fun (h' : H) (w' : Wf h') => c87 (G := G) (h := h') (r := r) (sp := sp) (lo := lo) hq hc hs w'
 generalize L.any (inP (k : Nat)) = A at q1 ⊢
 generalize M.any (inP (k : Nat)) = B at q2 ⊢
 generalize decide (lvl cl so q = 0) = D at q3 ⊢
 dsimp only [stC] at q3 ⊢
 obtain ⟨a, c, rfl⟩ := p.form
 obtain ⟨b, d, rfl⟩ := pw.form
 cases B with
 | true =>
   refine ak_ 21 [.tmp 8] Tryz.func136 rfl rfl rfl rfl ?_
   repeat' (first | with_reducible refine ad_ ?_ | ((with_reducible refine ac_ ?_); first | ((with_reducible refine at_ ?_); (refine as_ rfl rfl rfl rfl (q2 _ au_ aA_) rfl rfl ?_; rintro _ _ ⟨rfl, hq⟩; all_goals (try (have hqn := hq.nx); try simp only [aU_] at hqn))) | refine ao_ ?_) | refine ap_ ?_)
   exact rq1 rfl ⟨rfl, au_⟩
 | false =>
   cases A with
   | false =>
     refine ak_ 21 [.tmp 8] Tryz.func136 rfl rfl rfl rfl ?_
     repeat' (first | with_reducible refine ad_ ?_ | ((with_reducible refine ac_ ?_); first | ((with_reducible refine at_ ?_); first | (refine as_ rfl rfl rfl rfl (q2 _ au_ aA_) rfl rfl ?_; rintro _ _ ⟨rfl, hq⟩; all_goals (try (have hqn := hq.nx); try simp only [aU_] at hqn)) | (refine as_ rfl rfl rfl rfl (q1 _ au_ aA_) rfl rfl ?_; rintro _ _ ⟨rfl, hq⟩; all_goals (try (have hqn := hq.nx); try simp only [aU_] at hqn))) | refine ao_ ?_) | refine ap_ ?_)
     exact rq1 rfl ⟨rfl, au_⟩
   | true =>
     cases D with
     | true =>
       refine ak_ 21 [.tmp 8] Tryz.func136 rfl rfl rfl rfl ?_
       repeat' (first | with_reducible refine ad_ ?_ | ((with_reducible refine ac_ ?_); first | ((with_reducible refine al_ ?_); refine aq_ (aj_ rfl ah_ Tryz.underlying157 rfl zs157 rfl rfl) ?_) | ((with_reducible refine at_ ?_); first | (refine as_ rfl rfl rfl rfl (q2 _ au_ aA_) rfl rfl ?_; rintro _ _ ⟨rfl, hq⟩; all_goals (try (have hqn := hq.nx); try simp only [aU_] at hqn)) | (refine as_ rfl rfl rfl rfl (q1 _ au_ aA_) rfl rfl ?_; rintro _ _ ⟨rfl, hq⟩; all_goals (try (have hqn := hq.nx); try simp only [aU_] at hqn)) | (refine as_ rfl rfl rfl rfl (q3 _ aA_) rfl rfl ?_; rintro _ _ ⟨rfl, hq⟩; all_goals (try (have hqn := hq.nx); try simp only [aU_] at hqn))) | refine ao_ ?_) | refine ap_ ?_)
       exact rq1 rfl ⟨rfl, au_⟩
     | false =>
       refine ak_ 21 [.tmp 8] Tryz.func136 rfl rfl rfl rfl ?_
       repeat' (first | with_reducible refine ad_ ?_ | ((with_reducible refine ac_ ?_); first | ((with_reducible refine al_ ?_); refine aq_ (aj_ rfl ah_ Tryz.underlying157 rfl zs157 rfl rfl) ?_) | ((with_reducible refine at_ ?_); first | (refine as_ rfl rfl rfl rfl (q2 _ au_ aA_) rfl rfl ?_; rintro _ _ ⟨rfl, hq⟩; all_goals (try (have hqn := hq.nx); try simp only [aU_] at hqn)) | (refine as_ rfl rfl rfl rfl (q1 _ au_ aA_) rfl rfl ?_; rintro _ _ ⟨rfl, hq⟩; all_goals (try (have hqn := hq.nx); try simp only [aU_] at hqn)) | (refine as_ rfl rfl rfl rfl (q3 _ aA_) rfl rfl ?_; rintro _ _ ⟨rfl, hq⟩; all_goals (try (have hqn := hq.nx); try simp only [aU_] at hqn))) | refine ao_ ?_) | refine ap_ ?_)
       exact rq1 rfl ⟨rfl, au_⟩
end Go.Proofs.YtlioomhcdlicmaaGreatDoor
