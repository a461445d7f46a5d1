/- Survey: whether an animal may be inside; the states of a watch at the ticks of a vessel; levels. -/
import Derived.Test.YtlioomhcdlicmaaGreatDoorC2
import Derived.Test.YtlioomhcdlicmaaGreatDoorK4
set_option linter.all false
/- Survey: whether an animal may be inside; the states of a watch. -/
namespace Go.Proofs.YtlioomhcdlicmaaGreatDoor
open Go Go.Ab Go.Fl
attribute [local irreducible] SeqQ BlkQ LpQ RetQ Wc Wo WD WX Op1 Op1q Op1a Cf Cl From
attribute [local irreducible] Ieee.Format.order Ieee.Format.read Ieee.Format.nearest Ieee.Format.write Ieee.Format.mul Ieee.Format.div Ieee.Format.sqrt Ieee.Datum.order Ieee.Datum.integral K U rngE errN ptE firstNZ vesE watE sgE sgsE allE
set_option maxRecDepth 10000
variable {G : Base} {h : H}
def idxR {α : Type} (p : α → Bool) : List α → Nat → Int
 | [], _ => -1
 | x :: l, k => if p x then (k : Int) else idxR p l (k + 1)
theorem idxR_any {α : Type} (p : α → Bool) : ∀ (l : List α) (k : Nat), decide (0 ≤ idxR p l k) = l.any p
 | [], k => by simp [idxR]
 | x :: l, k => by
   rw [idxR, List.any_cons]
   cases h : p x with
   | true => rw [if_pos rfl, decide_eq_true (by omega)]; rfl
   | false => rw [if_neg (by decide), idxR_any p l (k + 1)]; rfl
theorem mulb {a b : Int} {A B : Nat} (h1 : a.natAbs ≤ A) (h2 : b.natAbs ≤ B) : (a * b).natAbs ≤ A * B := by
 rw [Int.natAbs_mul]; exact Nat.mul_le_mul h1 h2
theorem sqb {a : Int} {A : Nat} (h : a.natAbs ≤ A) : 0 ≤ a * a ∧ a * a ≤ ((A * A : Nat) : Int) := by
 have h1 := Nat.mul_le_mul h h
 rw [← Int.natAbs_mul_self]
 omega
theorem eg35 : Tryz.prog.eqGuardType Tryz.prog.depth 35 = false := by kernel_rfl
theorem eqv35 (a b c d : Int) : eqV Tryz.prog 3 35 [.int .i64 a, .int .i64 b] [.int .i64 c, .int .i64 d] = some (decide (a = c) && (decide (b = d) && true)) := by kernel_rfl
def sqD (a b c d : Int) : Int := (c - a) * (c - a) + (d - b) * (d - b)
theorem c182 {a b c d : Int} (ha : a.natAbs ≤ 10000000) (hb : b.natAbs ≤ 10000000) (hc : c.natAbs ≤ 10000000) (hd : d.natAbs ≤ 10000000) (hw : Wf h) : Cf (mz G) (.func (.func 182) #[] #[]) [.agg ⟨[.int .i64 a, .int .i64 b]⟩, .agg ⟨[.int .i64 c, .int .i64 d]⟩] h fun r h' => r = .int .i64 (sqD a b c d) ∧ Grow h h' := by
 obtain ⟨e1, e2⟩ := sqb (a := c - a) (A := 20000000) (by omega)
 obtain ⟨e3, e4⟩ := sqb (a := d - b) (A := 20000000) (by omega)
 unfold sqD
 refine ak_ 24 [.tmp 4] Tryz.func182 rfl rfl rfl rfl ?_
 repeat' (first | with_reducible refine ad_ ?_ | ((with_reducible refine ac_ ?_); refine ao_ ?_) | ((with_reducible refine bb_ ?_); ((with_reducible refine bd_ ?_); first | ((with_reducible refine bm_ ?_); refine aH_ (aa_ rfl) rfl rfl (ar_ rfl (aW_ rfl)) rfl rfl rfl ?_) | ((with_reducible refine aC_ ?_); first | refine aH_ (aa_ rfl) rfl rfl (ar_ rfl (ab_ (o := 0) rfl Tryz.underlying35 rfl zs3 rfl)) rfl rfl rfl ?_ | refine aH_ (aa_ rfl) rfl rfl (ar_ rfl (ab_ (o := 1) rfl Tryz.underlying35 rfl zs3 rfl)) rfl rfl rfl ?_) | ((with_reducible refine aZ_ ?_); refine aO_ (aa_ rfl) rfl (ar_ rfl (ae_ rfl ah_ Tryz.underlying3 rfl rfl)) rfl rfl rfl ?_) | ((with_reducible refine bD_ ?_); refine aH_ (aa_ rfl) rfl rfl (ar_ rfl (bY_ rfl rfl (w64 (by omega) (by omega)))) rfl rfl rfl ?_) | with_reducible refine bj_ ?_ ?_)) | with_reducible exact aP_ | with_reducible refine aJ_ ?_ ?_ | ((with_reducible refine bi_ ?_); first | exact aS_ | refine am_ rfl rfl (ar_ rfl (ae_ rfl ah_ Tryz.underlying3 rfl (by rfl))) ?_) | refine ap_ ?_ | refine aF_ (id := 1) 12 [0, 1, 0, 4, 15, 0, 32, 0, 128, 480, 31, 2047] [0, 1, 2, 3, 4, 5, 6, 7, 8, 9, 10, 11] (by kernel_rfl) (by kernel_rfl) rfl rfl ?_)
 exact rq1 rfl ⟨rfl, au_⟩
def hitB (r sp lo px py k : Int) (s : Sg) : Bool := decide ((0 ≤ k - s.t ∧ k - s.t ≤ lo) ∧ sqD s.x s.y px py ≤ (r + sp * (k - s.t)) * (r + sp * (k - s.t)))
set_option maxHeartbeats 4000000 in
theorem c151 {r sp lo cl so px py k : Int} {s : Sg} (hr : 0 ≤ r ∧ r ≤ 10000) (hs : 0 ≤ sp ∧ sp ≤ 1000) (hlo : 0 ≤ lo ∧ lo ≤ 1000) (hx : px.natAbs ≤ 10000000) (hy : py.natAbs ≤ 10000000) (hk : 0 ≤ k ∧ k ≤ 10000) (ht : sgE s = 0) (hw : Wf h) :
   Cf (mz G) (.func (.func 151) #[] #[]) [.agg ⟨[.int .i64 r, .int .i64 sp, .int .i64 lo, .int .i64 cl, .int .i64 so]⟩, .agg ⟨s.cells⟩, .agg ⟨[.int .i64 px, .int .i64 py]⟩, .int .i64 k] h fun r' h' => r' = .bool (hitB r sp lo px py k s) ∧ Grow h h' := by
 obtain ⟨t, x, y⟩ := s
 obtain ⟨st, sx, sy⟩ : (0 ≤ t ∧ t ≤ 100000) ∧ (-100000 ≤ x ∧ x ≤ 100000) ∧ -100000 ≤ y ∧ y ≤ 100000 := by
   unfold sgE at ht
   have a := bX_ ht
   exact ⟨rng_ok (a _ (by simp)), pt_ok (a _ (by simp))⟩
 clear ht
 dsimp only [Sg.cells]
 by_cases h1 : 0 ≤ k - t ∧ k - t ≤ lo
 · have hB : hitB r sp lo px py k ⟨t, x, y⟩ = decide (sqD x y px py ≤ (r + sp * (k - t)) * (r + sp * (k - t))) := by
     unfold hitB; rw [decide_eq_decide]; dsimp only; exact ⟨fun q => q.2, fun q => ⟨h1, q⟩⟩
   have m1 := mulb (a := sp) (b := k - t) (A := 1000) (B := 1000) (by omega) (by omega)
   have m0 : 0 ≤ sp * (k - t) := Int.mul_nonneg (by omega) (by omega)
   obtain ⟨m2, m3⟩ := sqb (a := r + sp * (k - t)) (A := 2000000) (by omega)
   rw [hB]
   obtain ⟨b, hb0⟩ : ∃ b, (decide (x = px) && (decide (y = py) && true)) = b := ⟨_, rfl⟩
   have heq : eqV Tryz.prog 3 35 [.int .i64 x, .int .i64 y] [.int .i64 px, .int .i64 py] = some b := by rw [eqv35, hb0]
   cases b with
   | true =>
     simp only [Bool.and_true, Bool.and_eq_true, decide_eq_true_eq] at hb0
     obtain ⟨rfl, rfl⟩ := hb0
     have hz : sqD x y x y = 0 := by unfold sqD; simp
     rw [hz, decide_eq_true m2]
     refine ak_ 42 [.tmp 8] Tryz.func151 rfl rfl rfl rfl ?_
     repeat' (first | with_reducible refine ad_ ?_ | ((with_reducible refine ac_ ?_); first | ((with_reducible refine bG_ ?_); refine aq_ (op_eqT 3 rfl rfl rfl Tryz.underlying35 rfl eg35 heq) ?_) | ((with_reducible refine al_ ?_); first | refine aq_ (ae_ rfl ah_ Tryz.underlying3 rfl rfl) ?_ | refine aq_ (aj_ rfl ah_ Tryz.underlying35 rfl zs35 rfl rfl) ?_) | ((with_reducible refine cC_ ?_); first | ((with_reducible refine bH_ ?_); refine ai_ rfl rfl rfl (aD_ rfl) rfl rfl ?_) | ((with_reducible refine bB_ ?_); refine ai_ rfl rfl rfl (bM_ rfl rfl) rfl rfl ?_) | ((with_reducible refine bc_ ?_); refine ai_ rfl rfl rfl (ab_ (o := 2) rfl Tryz.underlying46 rfl zs3 rfl) rfl rfl ?_) | ((with_reducible refine bF_ ?_); refine ai_ rfl rfl rfl (ae_ rfl ah_ Tryz.underlying3 rfl rfl) rfl rfl ?_) | (refine aY_ rfl rfl rfl (fun hb => aw_ hb) (fun hb => ?_); (try simp only [aX_, reduceCtorEq] at hb))) | refine ao_ ?_) | refine ap_ ?_ | (refine aG_ rfl (fun hb => aw_ hb) (fun hb => ?_); (try simp only [aX_, reduceCtorEq] at hb)))
     exact rq1 rfl ⟨rfl, au_⟩
   | false =>
     have qs := fun (h' : H) (w' : Wf h') => c182 (G := G) (h := h') (a := x) (b := y) (c := px) (d := py) (by omega) (by omega) hx hy w'
     obtain ⟨Z, hZ⟩ : ∃ Z, sqD x y px py = Z := ⟨_, rfl⟩
     rw [hZ] at qs ⊢
     clear hb0 hB hZ
     refine ak_ 42 [.tmp 8] Tryz.func151 rfl rfl rfl rfl ?_
     repeat' (first | with_reducible refine ad_ ?_ | ((with_reducible refine ac_ ?_); first | ((with_reducible refine bG_ ?_); refine aq_ (op_eqT 3 rfl rfl rfl Tryz.underlying35 rfl eg35 heq) ?_) | ((with_reducible refine al_ ?_); first | refine aq_ (ae_ rfl ah_ Tryz.underlying3 rfl rfl) ?_ | refine aq_ (aj_ rfl ah_ Tryz.underlying35 rfl zs35 rfl rfl) ?_) | ((with_reducible refine at_ ?_); (refine as_ rfl rfl rfl rfl (qs _ aA_) rfl rfl ?_; rintro _ _ ⟨rfl, hq⟩; all_goals (try (have hqn := hq.nx); try simp only [aU_] at hqn))) | ((with_reducible refine cC_ ?_); first | ((with_reducible refine bH_ ?_); refine ai_ rfl rfl rfl (aD_ rfl) rfl rfl ?_) | ((with_reducible refine bB_ ?_); refine ai_ rfl rfl rfl (bM_ rfl rfl) rfl rfl ?_) | ((with_reducible refine bc_ ?_); refine ai_ rfl rfl rfl (ab_ (o := 2) rfl Tryz.underlying46 rfl zs3 rfl) rfl rfl ?_) | ((with_reducible refine bF_ ?_); refine ai_ rfl rfl rfl (ae_ rfl ah_ Tryz.underlying3 rfl rfl) rfl rfl ?_) | (refine aY_ rfl rfl rfl (fun hb => aw_ hb) (fun hb => ?_); (try simp only [aX_, reduceCtorEq] at hb))) | refine ao_ ?_) | refine ap_ ?_ | (refine aG_ rfl (fun hb => aw_ hb) (fun hb => ?_); (try simp only [aX_, reduceCtorEq] at hb)))
     exact rq1 rfl ⟨rfl, au_⟩
 · have hB : hitB r sp lo px py k ⟨t, x, y⟩ = false := by
     unfold hitB; exact decide_eq_false fun q => h1 q.1
   rw [hB]
   by_cases h2 : k - t < 0
   · refine ak_ 42 [.tmp 8] Tryz.func151 rfl rfl rfl rfl ?_
     repeat' (first | with_reducible refine ad_ ?_ | ((with_reducible refine ac_ ?_); first | ((with_reducible refine al_ ?_); refine aq_ (ae_ rfl ah_ Tryz.underlying3 rfl rfl) ?_) | ((with_reducible refine cC_ ?_); first | refine bn_ rfl rfl rfl rfl rfl rfl ?_ | (refine aY_ rfl rfl rfl (fun hb => ?_) (fun hb => aw_ hb); (try simp only [aX_, reduceCtorEq] at hb))) | refine ao_ ?_) | refine ap_ ?_)
     all_goals exact rq1 rfl ⟨rfl, au_⟩
   · refine ak_ 42 [.tmp 8] Tryz.func151 rfl rfl rfl rfl ?_
     repeat' (first | with_reducible refine ad_ ?_ | ((with_reducible refine ac_ ?_); first | ((with_reducible refine al_ ?_); refine aq_ (ae_ rfl ah_ Tryz.underlying3 rfl rfl) ?_) | ((with_reducible refine cC_ ?_); first | ((with_reducible refine bH_ ?_); refine ai_ rfl rfl rfl (aD_ rfl) rfl rfl ?_) | ((with_reducible refine bc_ ?_); refine ai_ rfl rfl rfl (ab_ (o := 2) rfl Tryz.underlying46 rfl zs3 rfl) rfl rfl ?_) | ((with_reducible refine bF_ ?_); refine ai_ rfl rfl rfl (ae_ rfl ah_ Tryz.underlying3 rfl rfl) rfl rfl ?_) | ((with_reducible refine bB_ ?_); refine ai_ rfl rfl rfl (bM_ rfl rfl) rfl rfl ?_) | (refine aY_ rfl rfl rfl (fun hb => aw_ hb) (fun hb => ?_); (try simp only [aX_, reduceCtorEq] at hb))) | refine ao_ ?_) | refine ap_ ?_ | (refine aG_ rfl (fun hb => ?_) (fun hb => aw_ hb); (try simp only [aX_, reduceCtorEq] at hb)))
     all_goals exact rq1 rfl ⟨rfl, au_⟩
set_option maxHeartbeats 4000000 in
theorem c150 {A B D : Nat} {r sp lo cl so px py k : Int} {s : Sg} (hr : 0 ≤ r ∧ r ≤ 10000) (hs : 0 ≤ sp ∧ sp ≤ 1000) (hlo : 0 ≤ lo ∧ lo ≤ 1000) (hx : px.natAbs ≤ 10000000) (hy : py.natAbs ≤ 10000000) (hk : 0 ≤ k ∧ k ≤ 10000) (ht : sgE s = 0) (hw : Wf h)
   (hA : At h A (.cells [.int .i64 r, .int .i64 sp, .int .i64 lo, .int .i64 cl, .int .i64 so] 46 5 false)) (hB : At h B (.cells [.int .i64 px, .int .i64 py] 35 2 false)) (hD : At h D (.cells [.int .i64 k] 3 1 false)) :
   Cf (mz G) (.func (.func 150) #[] #[.pointer (some ⟨A, 0, some 0⟩), .pointer (some ⟨B, 0, some 0⟩), .pointer (some ⟨D, 0, some 0⟩)]) [.agg ⟨s.cells⟩] h fun r' h' => r' = .bool (hitB r sp lo px py k s) ∧ Grow h h' := by
 have qr := fun (h' : H) (w' : Wf h') => c151 (G := G) (h := h') (cl := cl) (so := so) hr hs hlo hx hy hk ht w'
 clear ht
 obtain ⟨t, x, y⟩ := s
 dsimp only [Sg.cells] at qr ⊢
 have lA := hA.lt
 have lB := hB.lt
 have lD := hD.lt
 refine ch_ (sz := 11) (rs := [.tmp 5]) (all := [.agg ⟨[.int .i64 t, .int .i64 x, .int .i64 y]⟩, .pointer (some ⟨A, 0, some 0⟩), .pointer (some ⟨B, 0, some 0⟩), .pointer (some ⟨D, 0, some 0⟩)]) Tryz.func150 rfl rfl rfl rfl rfl ?_
 repeat' (first | with_reducible refine ad_ ?_ | ((with_reducible refine ac_ ?_); first | ((with_reducible refine al_ ?_); first | refine aq_ (aj_ rfl ah_ Tryz.underlying46 rfl zs46 rfl rfl) ?_ | refine aq_ (aj_ rfl ah_ Tryz.underlying161 rfl cz_ rfl rfl) ?_ | refine aq_ (aj_ rfl ah_ Tryz.underlying35 rfl zs35 rfl rfl) ?_ | refine aq_ (ae_ rfl ah_ Tryz.underlying3 rfl rfl) ?_) | ((with_reducible refine at_ ?_); (refine as_ rfl rfl rfl rfl (qr _ aA_) rfl rfl ?_; rintro _ _ ⟨rfl, hq⟩; all_goals (try (have hqn := hq.nx); try simp only [aU_] at hqn))) | refine ao_ ?_) | refine ap_ ?_)
 exact rq1 rfl ⟨rfl, au_⟩
set_option maxHeartbeats 4000000 in
theorem c181 {v : Value} {A B D : Nat} {n : Nat} {l : List Sg} (p : Sg → Bool) (s : Sl G h 3 v n (l.flatMap Sg.cells)) (hl : l.length = n) (hn : n < 1000000) (hw : Wf h) (hq : ∀ h' x, Grow h h' → Wf h' → x ∈ l → Cf (mz G) (.func (.func 150) #[] #[.pointer (some ⟨A, 0, some 0⟩), .pointer (some ⟨B, 0, some 0⟩), .pointer (some ⟨D, 0, some 0⟩)]) [.agg ⟨Sg.cells x⟩] h' fun r h2 => r = .bool (p x) ∧ Grow h' h2) :
   Cf (mz G) (.func (.func 181) #[] #[]) [v, .func (.func 150) #[] #[.pointer (some ⟨A, 0, some 0⟩), .pointer (some ⟨B, 0, some 0⟩), .pointer (some ⟨D, 0, some 0⟩)]] h fun r h' => r = .int .i64 (idxR p l 0) ∧ Grow h h' := by
 obtain ⟨a, c, rfl⟩ := s.form
 refine ak_ 19 [.tmp 4] Tryz.func181 rfl rfl rfl rfl ?_
 repeat' (first | with_reducible refine ad_ ?_ | ((with_reducible refine ac_ ?_); first | ((with_reducible refine av_ ?_); refine aq_ (ax_ rfl Tryz.underlying47) ?_) | refine ao_ ?_) | refine ap_ ?_)
 refine bo_ (fun k => n - k) (fun k : Nat => [(0, .slice a n c), (1, .func (.func 150) #[] #[.pointer (some ⟨A, 0, some 0⟩), .pointer (some ⟨B, 0, some 0⟩), .pointer (some ⟨D, 0, some 0⟩)]), (7, .int .i64 n), (8, .int .i64 k)]) (fun k h' => (Wf h' ∧ Grow h h') ∧ k ≤ n ∧ idxR p (l.drop k) k = idxR p l 0) 0 (af_ ⟨rfl, rfl, rfl, rfl, trivial⟩) ⟨⟨aA_, au_⟩, Nat.zero_le _, rfl⟩ ?_
 rintro k h1 ⟨⟨w1, g1⟩, hk, hi⟩
 have n1 := g1.nx
 by_cases hlt : k < n
 · obtain ⟨id, i1, i3⟩ := cw_ Sg.len ⟨0, 0, 0⟩ (s.grow g1) hl Tryz.underlying47 cz_ (i := (k : Int)) hlt rfl
   rw [drop_next ⟨0, 0, 0⟩ (by omega), idxR] at hi
   have hm : l.getD k ⟨0, 0, 0⟩ ∈ l := by simp [List.getD, List.getElem?_eq_getElem (show k < l.length by omega)]
   obtain ⟨x0, hx⟩ : ∃ x, l.getD k ⟨0, 0, 0⟩ = x := ⟨_, rfl⟩
   rw [hx] at i3 hi hm
   have q1 := fun (h' : H) (g' : Grow h1 h') (w' : Wf h') => hq h' x0 (g1.trans g') w' hm
   clear hx hm
   cases hp : p x0 with
   | true =>
     rw [hp] at q1
     rw [if_pos hp] at hi
     clear hp
     obtain ⟨t, x, y⟩ := x0
     dsimp only [Sg.cells] at i3 q1
     repeat' (first | with_reducible refine ad_ ?_ | ((with_reducible refine ac_ ?_); first | ((with_reducible refine an_ ?_); refine aq_ (ag_ rfl rfl i1) ?_) | ((with_reducible refine al_ ?_); refine aq_ (aN_ rfl Tryz.underlying161 rfl cz_ (i3 _ au_).all) ?_) | ((with_reducible refine at_ ?_); (refine as_ rfl rfl rfl rfl (q1 _ au_ aA_) rfl rfl ?_; rintro _ _ ⟨rfl, hq⟩; all_goals (try (have hqn := hq.nx); try simp only [aU_] at hqn))) | refine ao_ ?_) | refine ap_ ?_ | (refine aG_ rfl (fun hb => ?_) (fun hb => aw_ hb); (try simp only [aX_, reduceCtorEq] at hb)))
     exact rq1 rfl ⟨by rw [hi], au_⟩
   | false =>
     rw [hp] at q1
     rw [if_neg (by rw [hp]; decide)] at hi
     clear hp
     obtain ⟨t, x, y⟩ := x0
     dsimp only [Sg.cells] at i3 q1
     repeat' (first | with_reducible refine ad_ ?_ | ((with_reducible refine ac_ ?_); first | ((with_reducible refine an_ ?_); refine aq_ (ag_ rfl rfl i1) ?_) | ((with_reducible refine al_ ?_); refine aq_ (aN_ rfl Tryz.underlying161 rfl cz_ (i3 _ au_).all) ?_) | ((with_reducible refine at_ ?_); (refine as_ rfl rfl rfl rfl (q1 _ au_ aA_) rfl rfl ?_; rintro _ _ ⟨rfl, hq⟩; all_goals (try (have hqn := hq.nx); try simp only [aU_] at hqn))) | refine ao_ ?_) | refine ap_ ?_ | (refine aG_ rfl (fun hb => ?_) (fun hb => aw_ hb); (try simp only [aX_, reduceCtorEq] at hb)))
     exact aI_ (k + 1) (by omega) (af_ ⟨rfl, rfl, rfl, rfl, trivial⟩) ⟨⟨aA_, au_⟩, by omega, hi⟩
 · repeat' (first | with_reducible refine ad_ ?_ | ((with_reducible refine ac_ ?_); refine ao_ ?_) | refine ap_ ?_ | (refine aG_ rfl (fun hb => ?_) (fun hb => ?_) <;> (try simp only [aX_, reduceCtorEq] at hb) <;> (try (exfalso; omega))))
   refine rq1 rfl ⟨?_, au_⟩
   rw [List.drop_eq_nil_of_le (by omega)] at hi
   rw [← hi]; rfl
theorem c149 {v : Value} {A B D : Nat} {n : Nat} {l : List Sg} (p : Sg → Bool) (s : Sl G h 3 v n (l.flatMap Sg.cells)) (hl : l.length = n) (hn : n < 1000000) (hw : Wf h) (hq : ∀ h' x, Grow h h' → Wf h' → x ∈ l → Cf (mz G) (.func (.func 150) #[] #[.pointer (some ⟨A, 0, some 0⟩), .pointer (some ⟨B, 0, some 0⟩), .pointer (some ⟨D, 0, some 0⟩)]) [.agg ⟨Sg.cells x⟩] h' fun r h2 => r = .bool (p x) ∧ Grow h' h2) :
   Cf (mz G) (.func (.func 149) #[] #[]) [v, .func (.func 150) #[] #[.pointer (some ⟨A, 0, some 0⟩), .pointer (some ⟨B, 0, some 0⟩), .pointer (some ⟨D, 0, some 0⟩)]] h fun r h' => r = .bool (l.any p) ∧ Grow h h' := by
 have q1 := fun (h' : H) (g' : Grow h h') (w' : Wf h') => c181 p (s.grow g') hl hn w' (fun h2 x g2 w2 m => hq h2 x (g'.trans g2) w2 m)
 rw [← idxR_any p l 0]
 generalize idxR p l 0 = I at q1
 obtain ⟨a, c, rfl⟩ := s.form
 refine ak_ 9 [.tmp 4] Tryz.func149 rfl rfl rfl rfl ?_
 repeat' (first | with_reducible refine ad_ ?_ | ((with_reducible refine ac_ ?_); first | ((with_reducible refine at_ ?_); (refine as_ rfl rfl rfl rfl (q1 _ au_ aA_) rfl rfl ?_; rintro _ _ ⟨rfl, hq⟩; all_goals (try (have hqn := hq.nx); try simp only [aU_] at hqn))) | refine ao_ ?_) | refine ap_ ?_)
 exact rq1 rfl ⟨rfl, au_⟩
set_option maxHeartbeats 2000000 in
theorem c147 {x y u v t k : Int} (b1 : x.natAbs ≤ 1000000) (b2 : y.natAbs ≤ 1000000) (b3 : u.natAbs ≤ 10000) (b4 : v.natAbs ≤ 10000) (hk : k.natAbs ≤ 10000) (hw : Wf h) : Cf (mz G) (.func (.func 147) #[] #[]) [.agg ⟨[.int .i64 x, .int .i64 y, .int .i64 u, .int .i64 v, .int .i64 t]⟩, .int .i64 k] h fun r h' => r = .agg ⟨[.int .i64 (x + k * u), .int .i64 (y + k * v)]⟩ ∧ Grow h h' := by
 have m1 := mulb hk b3
 have m2 := mulb hk b4
 refine ak_ 24 [.cell 4 35] Tryz.func147 rfl rfl rfl rfl ?_
 repeat' (first | with_reducible refine ad_ ?_ | ((with_reducible refine ac_ ?_); first | ((with_reducible refine al_ ?_); refine aq_ (ae_ rfl ah_ Tryz.underlying3 rfl rfl) ?_) | ((with_reducible refine ay_ ?_); refine bQ_ (aB_ rfl rfl ah_ zs35 rfl rfl rfl rfl) ?_) | refine ao_ ?_) | refine ap_ ?_)
 exact rqc1 rfl (ldAgg ah_ Tryz.underlying35 rfl zs35 rfl rfl) ⟨rfl, au_⟩
@[reducible] def stC (r sp lo cl so q : Int) : List Value := [.int .i64 r, .int .i64 sp, .int .i64 lo, .int .i64 cl, .int .i64 so, .int .i64 q]
set_option maxHeartbeats 2000000 in
theorem c148 {r sp lo cl so q : Int} {b : Bool} (hq : q.natAbs ≤ 1000000) (hw : Wf h) : Cf (mz G) (.func (.func 148) #[] #[]) [.agg ⟨[.int .i64 r, .int .i64 sp, .int .i64 lo, .int .i64 cl, .int .i64 so, .int .i64 q]⟩, .bool b] h fun r' h' => r' = .agg ⟨stC r sp lo cl so (if b then 0 else q + 1)⟩ ∧ Grow h h' := by
 cases b
 · refine ak_ 15 [.cell 4 157] Tryz.func148 rfl rfl rfl rfl ?_
   repeat' (first | with_reducible refine ad_ ?_ | ((with_reducible refine ac_ ?_); first | ((with_reducible refine al_ ?_); first | refine aq_ (aj_ rfl ah_ Tryz.underlying46 rfl zs46 rfl rfl) ?_ | refine aq_ (ae_ rfl ah_ Tryz.underlying3 rfl rfl) ?_) | ((with_reducible refine ay_ ?_); refine bQ_ (aB_ rfl rfl ah_ zs157 rfl rfl rfl rfl) ?_) | refine ao_ ?_) | refine ap_ ?_)
   exact rqc1 rfl (ldAgg ah_ Tryz.underlying157 rfl zs157 rfl rfl) ⟨rfl, au_⟩
 · refine ak_ 15 [.cell 4 157] Tryz.func148 rfl rfl rfl rfl ?_
   repeat' (first | with_reducible refine ad_ ?_ | ((with_reducible refine ac_ ?_); first | ((with_reducible refine al_ ?_); refine aq_ (aj_ rfl ah_ Tryz.underlying46 rfl zs46 rfl rfl) ?_) | ((with_reducible refine ay_ ?_); refine bQ_ (aB_ rfl rfl ah_ zs157 rfl rfl rfl rfl) ?_) | refine ao_ ?_) | refine ap_ ?_)
   exact rqc1 rfl (ldAgg ah_ Tryz.underlying157 rfl zs157 rfl rfl) ⟨rfl, au_⟩
end Go.Proofs.YtlioomhcdlicmaaGreatDoor
/- Survey: the states of a watch at the ticks of a vessel. -/
namespace Go.Proofs.YtlioomhcdlicmaaGreatDoor
open Go Go.Ab Go.Fl
attribute [local irreducible] SeqQ BlkQ LpQ RetQ Wc Wo WD WX Op1 Op1q Op1a Cf Cl From
attribute [local irreducible] Ieee.Format.order Ieee.Format.read Ieee.Format.nearest Ieee.Format.write Ieee.Format.mul Ieee.Format.div Ieee.Format.sqrt Ieee.Datum.order Ieee.Datum.integral K U rngE errN ptE firstNZ vesE watE sgE sgsE allE hitB sqD
set_option maxRecDepth 10000
variable {G : Base} {h : H}
theorem op_stRec {M : Mc} {l : KL} {h : H} {x y : Operand} {t : TypeId} {b o es w : Nat} {c cs vs : List Value} {e : TypeId} {s : Bool} (hx : val l x = some (.pointer (some ⟨b, o, some 0⟩))) (hy : val l y = some (.agg ⟨vs⟩)) (hat : At h b (.cells c e es s)) (hn : tsz M.P t = some w) (hln : Nat.beq vs.length w = true) (hle : o + w ≤ c.length) (hone : vs.all one = true) (hc : c.take o ++ (vs ++ c.drop (o + w)) = cs) :
   Op1 M (.store t x y) l h undef (h.set b (.cells cs e es s)) := by
 have hl : vs.length = w := Nat.eq_of_beq_eq_true hln
 refine op_store hx hy ?_
 have : asto h ⟨b, o, some 0⟩ vs = some (h.set b (.cells cs e es s)) := by
   unfold asto
   simp only [hat.get, cD_, hone, Bool.and_true]
   rw [decide_eq_true (by omega), ← hc, hl]
 unfold astoreVar
 have e1 : (Value.agg ⟨vs⟩).cells.size = vs.length := rfl
 have e2 : (Value.agg ⟨vs⟩).cells.toList = vs := rfl
 simp only [hn, e1, e2, hln, this]
theorem fill_rec {α : Type} {f : α → List Value} {w : Nat} (hf : ∀ a, (f a).length = w) (d : α) {Z : List Value} (hZ : Z.length = w) {l : List α} {k n : Nat} {v : List Value} (hl : l.length = n) (hk : k < n) (hv : v = f (l.getD k d)) : ((l.take k).flatMap f ++ repeatCells (n - k) Z).take (k * w) ++ (v ++ ((l.take k).flatMap f ++ repeatCells (n - k) Z).drop (k * w + w)) = (l.take (k + 1)).flatMap f ++ repeatCells (n - (k + 1)) Z := by
 subst hv
 have e : ((l.take k).flatMap f).length = k * w := by rw [flat_len hf, List.length_take, Nat.min_eq_left (by omega)]
 obtain ⟨m, hm⟩ : ∃ m, n - k = m + 1 := ⟨n - k - 1, by omega⟩
 rw [hm, show n - (k + 1) = m by omega, List.take_append_of_le_length (by omega), List.take_of_length_le (by omega), List.drop_append, List.drop_eq_nil_of_le (by omega), e, Nat.add_sub_cancel_left, List.nil_append, cf_ d (by omega), List.flatMap_append]
 show _ ++ (_ ++ (Z ++ repeatCells m Z).drop w) = _
 rw [List.drop_append, List.drop_eq_nil_of_le (by omega), hZ, Nat.sub_self]
 simp
theorem rep_len {Z : List Value} : ∀ n, (repeatCells n Z).length = n * Z.length
 | 0 => by simp [repeatCells]
 | n + 1 => by rw [repeatCells, List.length_append, rep_len n, Nat.succ_mul]; omega
def qt (I : Nat → Bool) : Nat → Nat
 | 0 => 0
 | k + 1 => if I k then 0 else qt I k + 1
theorem qt_le (I : Nat → Bool) : ∀ k, qt I k ≤ k
 | 0 => Nat.le_refl _
 | k + 1 => by have := qt_le I k; rw [qt]; split <;> omega
def insB (x y u v r sp lo : Int) (l : List Sg) (k : Nat) : Bool := l.any (hitB r sp lo (x + (k : Int) * u) (y + (k : Int) * v) (k : Int))
def qsL (I : Nat → Bool) (T : Nat) : List Int := (List.range T).map fun i => (qt I (i + 1) : Int)
theorem qsL_len {I : Nat → Bool} {T : Nat} : (qsL I T).length = T := by simp [qsL]
theorem qsL_get {I : Nat → Bool} {T k : Nat} (h : k < T) : (qsL I T).getD k 0 = (qt I (k + 1) : Int) := by
 simp [qsL, List.getD, List.getElem?_map, List.getElem?_range h]
theorem stC_len (r sp lo cl so : Int) (q : Int) : (stC r sp lo cl so q).length = 6 := rfl
set_option maxHeartbeats 8000000 in
theorem c83 {x y u v r sp lo cl so : Int} {T : Nat} {w : Value} {n : Nat} {l : List Sg} (s : Sl G h 3 w n (l.flatMap Sg.cells)) (hl : l.length = n) (hn : n < 1000000) (hw : Wf h) (b1 : x.natAbs ≤ 100000) (b2 : y.natAbs ≤ 100000) (b3 : u.natAbs ≤ 1000) (b4 : v.natAbs ≤ 1000) (hT : T ≤ 4096) (hr : 0 ≤ r ∧ r ≤ 10000) (hs : 0 ≤ sp ∧ sp ≤ 1000) (hlo : 0 ≤ lo ∧ lo ≤ 1000) (hall : ∀ p ∈ l, sgE p = 0) :
   Cf (mz G) (.func (.func 83) #[] #[]) [.agg ⟨[.int .i64 x, .int .i64 y, .int .i64 u, .int .i64 v, .int .i64 (T : Nat)]⟩, .agg ⟨[.int .i64 r, .int .i64 sp, .int .i64 lo, .int .i64 cl, .int .i64 so]⟩, w] h fun r' h' => (∃ b, r' = .slice (some ⟨b, 0, some 0⟩) T T ∧ At h' b (.cells ((qsL (insB x y u v r sp lo l) T).flatMap (stC r sp lo cl so)) 157 6 false)) ∧ Grow h h' := by
 obtain ⟨a, c, rfl⟩ := s.form
 refine ak_ 35 [.tmp 6] Tryz.func83 rfl rfl rfl rfl ?_
 repeat' (first | with_reducible refine ad_ ?_ | ((with_reducible refine ac_ ?_); first | ((with_reducible refine ik_makeSlice ?_); refine aq_ (op_mkAgg rfl rfl Tryz.underlying158 zs157 zb157 zz157 rfl (by omega) (by omega) rfl) ?_) | ((with_reducible refine al_ ?_); first | refine aq_ (aj_ rfl ah_ Tryz.underlying46 rfl zs46 rfl rfl) ?_ | refine aq_ (ae_ rfl ah_ Tryz.underlying3 rfl rfl) ?_) | ((with_reducible refine ay_ ?_); refine bQ_ (aB_ rfl rfl ah_ zs157 rfl rfl rfl rfl) ?_) | refine ao_ ?_) | refine ap_ ?_)
 refine bo_ (fun k => T - k) (fun k : Nat => [(2, .slice a n c), (3, .pointer (some ⟨h.nx, 0, some 0⟩)), (4, .pointer (some ⟨h.nx + 1, 0, some 0⟩)), (7, .pointer (some ⟨h.nx + 2, 0, some 0⟩)), (8, .slice (some ⟨h.nx + 3, 0, some 0⟩) T T), (17, .int .i64 (T : Nat)), (18, .int .i64 (k : Nat))]) (fun k h' => (Wf h' ∧ Grow h h') ∧ k ≤ T ∧ At h' h.nx (.cells [.int .i64 x, .int .i64 y, .int .i64 u, .int .i64 v, .int .i64 (T : Nat)] 45 5 false) ∧ At h' (h.nx + 1) (.cells [.int .i64 r, .int .i64 sp, .int .i64 lo, .int .i64 cl, .int .i64 so] 46 5 false) ∧ At h' (h.nx + 2) (.cells (stC r sp lo cl so (qt (insB x y u v r sp lo l) k : Int)) 157 6 false) ∧ At h' (h.nx + 3) (.cells (((qsL (insB x y u v r sp lo l) T).take k).flatMap (stC r sp lo cl so) ++ repeatCells (T - k) (stC 0 0 0 0 0 0)) 157 6 false)) 0 (af_ ⟨rfl, rfl, rfl, rfl, rfl, rfl, rfl, trivial⟩) ⟨⟨aA_, au_⟩, Nat.zero_le _, ah_, ah_, (At.push (At.set (At.new _ _) _) _), (At.new _ _)⟩ ?_
 rintro k h1 ⟨⟨w1, g1⟩, hk, a1, a2, a3, a4⟩
 have n1 := g1.nx
 have l4 := a4.lt
 by_cases hlt : k < T
 · obtain ⟨px, hpx⟩ : ∃ px, x + (k : Int) * u = px := ⟨_, rfl⟩
   obtain ⟨py, hpy⟩ : ∃ py, y + (k : Int) * v = py := ⟨_, rfl⟩
   have m1 := mulb (a := (k : Int)) (b := u) (A := 4096) (B := 1000) (by omega) b3
   have m2 := mulb (a := (k : Int)) (b := v) (A := 4096) (B := 1000) (by omega) b4
   have qa := fun (h' : H) (w' : Wf h') => c147 (G := G) (h := h') (x := x) (y := y) (u := u) (v := v) (t := (T : Nat)) (k := (k : Int)) (by omega) (by omega) (by omega) (by omega) (by omega) w'
   have qI : qt (insB x y u v r sp lo l) (k + 1) = if l.any (hitB r sp lo px py (k : Int)) then 0 else qt (insB x y u v r sp lo l) k + 1 := by
     rw [qt]; unfold insB; rw [hpx, hpy]
   rw [hpx, hpy] at qa
   have qc := fun (h' : H) (A B D : Nat) (hA : At h' A (.cells [.int .i64 r, .int .i64 sp, .int .i64 lo, .int .i64 cl, .int .i64 so] 46 5 false)) (hB : At h' B (.cells [.int .i64 px, .int .i64 py] 35 2 false)) (hD : At h' D (.cells [.int .i64 (k : Nat)] 3 1 false)) (g' : Grow h h') (w' : Wf h') => c149 (A := A) (B := B) (D := D) (hitB r sp lo px py (k : Int)) (s.grow g') hl hn w' (fun h2 x0 g2 w2 m => c150 hr hs hlo (by omega) (by omega) (by omega) (hall x0 m) w2 (hA.grow g2) (hB.grow g2) (hD.grow g2))
   have hql := qt_le (insB x y u v r sp lo l) k
   have fr := fill_rec (stC_len r sp lo cl so) 0 (Z := stC 0 0 0 0 0 0) rfl (l := qsL (insB x y u v r sp lo l) T) (k := k) (v := stC r sp lo cl so (if l.any (hitB r sp lo px py (k : Int)) then 0 else (qt (insB x y u v r sp lo l) k : Int) + 1)) qsL_len hlt (by
     rw [qsL_get hlt, qI]
     cases l.any (hitB r sp lo px py (k : Int)) <;> simp)
   have hlen : (((qsL (insB x y u v r sp lo l) T).take k).flatMap (stC r sp lo cl so) ++ repeatCells (T - k) (stC 0 0 0 0 0 0)).length = T * 6 := by
     rw [List.length_append, flat_len (stC_len r sp lo cl so), rep_len, List.length_take, qsL_len, Nat.min_eq_left (by omega), stC_len, ← Nat.add_mul]; congr 1; omega
   have qI' : (qt (insB x y u v r sp lo l) (k + 1) : Int) = if l.any (hitB r sp lo px py (k : Int)) then 0 else (qt (insB x y u v r sp lo l) k : Int) + 1 := by
     rw [qI]; cases l.any (hitB r sp lo px py (k : Int)) <;> simp
   clear qI
   obtain ⟨bb, hbb⟩ : ∃ b, l.any (hitB r sp lo px py (k : Int)) = b := ⟨_, rfl⟩
   rw [hbb] at qc fr qI'
   obtain ⟨Q, hQ⟩ : ∃ Q, (qt (insB x y u v r sp lo l) k : Int) = Q := ⟨_, rfl⟩
   rw [hQ] at fr a3 qI'
   have hQ1 : Q.natAbs ≤ 1000000 := by omega
   obtain ⟨L, hL⟩ : ∃ L, ((qsL (insB x y u v r sp lo l) T).take k).flatMap (stC r sp lo cl so) ++ repeatCells (T - k) (stC 0 0 0 0 0 0) = L := ⟨_, rfl⟩
   rw [hL] at a4 fr hlen
   obtain ⟨L2, hL2⟩ : ∃ L, ((qsL (insB x y u v r sp lo l) T).take (k + 1)).flatMap (stC r sp lo cl so) ++ repeatCells (T - (k + 1)) (stC 0 0 0 0 0 0) = L := ⟨_, rfl⟩
   rw [hL2] at fr
   clear hL hbb hQ hql hpx hpy
   repeat' (first | with_reducible refine ad_ ?_ | ((with_reducible refine ac_ ?_); first | ((with_reducible refine an_ ?_); refine aq_ (op_idxSl (o := k * 6) rfl rfl Tryz.underlying158 zs157 (by omega) (by omega) (by omega)) ?_) | ((with_reducible refine ay_ ?_); first | refine bQ_ (op_stRec rfl rfl ah_ zs157 rfl (by omega) rfl fr) ?_ | refine bQ_ (op_st1 rfl rfl ah_ rfl zs3 rfl rfl rfl) ?_ | refine bQ_ (aB_ rfl rfl ah_ zs35 rfl rfl rfl rfl) ?_) | ((with_reducible refine al_ ?_); first | refine aq_ (ae_ rfl ah_ Tryz.underlying3 rfl rfl) ?_ | refine aq_ (aj_ rfl ah_ Tryz.underlying45 rfl zs45 rfl rfl) ?_ | refine aq_ (aj_ rfl ah_ Tryz.underlying157 rfl zs157 rfl rfl) ?_) | ((with_reducible refine at_ ?_); (refine as_ rfl rfl rfl rfl (qa _ aA_) rfl rfl ?_; rintro _ _ ⟨rfl, hq⟩; all_goals (try (have hqn := hq.nx); try simp only [aU_] at hqn))) | refine ao_ ?_) | ((with_reducible refine bb_ ?_); ((with_reducible refine bd_ ?_); first | ((with_reducible refine ba_ ?_); refine aH_ (aa_ rfl) rfl rfl (ar_ rfl (aD_ rfl)) rfl rfl rfl ?_) | ((with_reducible refine xk_makeFunc ?_); refine aH_ (aa_ rfl) rfl rfl (ar_ rfl (co_ (fun _ q => by cases q) rfl rfl)) rfl rfl rfl ?_) | ((with_reducible refine bN_ ?_); refine wx_ee0 (aa_ rfl) rfl rfl (aB_ rfl rfl ah_ zs157 rfl rfl rfl rfl) rfl ?_) | ((with_reducible refine aZ_ ?_); refine aO_ (aa_ rfl) rfl (ar_ rfl (aj_ rfl ah_ Tryz.underlying157 rfl zs157 rfl rfl)) rfl rfl rfl ?_) | ((with_reducible refine aV_ ?_); (refine aM_ (aa_ rfl) rfl rfl rfl rfl (qc _ _ _ _ ah_ ah_ ah_ au_ aA_) rfl rfl ?_; rintro _ _ ⟨rfl, hq⟩; all_goals (try (have hqn := hq.nx); try simp only [aU_] at hqn))) | ((with_reducible refine bw_ (f := 148) ?_); (refine aM_ (aa_ rfl) rfl rfl rfl rfl (c148 hQ1 aA_) rfl rfl ?_; rintro _ _ ⟨rfl, hq⟩; all_goals (try (have hqn := hq.nx); try simp only [aU_] at hqn))) | with_reducible refine bj_ ?_ ?_)) | with_reducible exact aP_ | with_reducible refine aJ_ ?_ ?_ | ((with_reducible refine bi_ ?_); first | exact aS_ | refine aQ_ rfl ?_ | refine am_ rfl rfl (ar_ rfl (aj_ rfl ah_ Tryz.underlying157 rfl zs157 (by rfl) rfl)) ?_) | refine ap_ ?_ | (refine aG_ rfl (fun hb => ?_) (fun hb => aw_ hb); (try simp only [aX_, reduceCtorEq] at hb)) | refine aF_ (id := 7) 6 [0, 0, 0, 6, 15, 31] [0, 1, 2, 3, 4, 5] (by kernel_rfl) (by kernel_rfl) rfl rfl ?_)
   exact aI_ (k + 1) (by omega) (af_ ⟨rfl, rfl, rfl, rfl, rfl, rfl, rfl, trivial⟩) ⟨⟨aA_, au_⟩, by omega, ah_, ah_, by rw [qI']; exact ah_, by rw [hL2]; exact ah_⟩
 · have hkn : k = T := by omega
   subst hkn
   have fe : ((qsL (insB x y u v r sp lo l) k).take k).flatMap (stC r sp lo cl so) ++ repeatCells (k - k) (stC 0 0 0 0 0 0) = (qsL (insB x y u v r sp lo l) k).flatMap (stC r sp lo cl so) := by
     rw [List.take_of_length_le (by rw [qsL_len]; omega), Nat.sub_self]; simp [repeatCells]
   rw [fe] at a4
   repeat' (first | with_reducible refine ad_ ?_ | ((with_reducible refine ac_ ?_); refine ao_ ?_) | refine ap_ ?_ | (refine aG_ rfl (fun hb => ?_) (fun hb => ?_) <;> (try simp only [aX_, reduceCtorEq] at hb) <;> (try (exfalso; omega))))
   exact rq1 rfl ⟨⟨_, rfl, ah_⟩, au_⟩
end Go.Proofs.YtlioomhcdlicmaaGreatDoor
/- Survey: levels of states; states mapped. -/
namespace Go.Proofs.YtlioomhcdlicmaaGreatDoor
open Go Go.Ab Go.Fl
attribute [local irreducible] SeqQ BlkQ LpQ RetQ Wc Wo WD WX Op1 Op1q Op1a Cf Cl From
attribute [local irreducible] Ieee.Format.order Ieee.Format.read Ieee.Format.nearest Ieee.Format.write Ieee.Format.mul Ieee.Format.div Ieee.Format.sqrt Ieee.Datum.order Ieee.Datum.integral K U rngE errN ptE firstNZ vesE watE sgE sgsE allE hitB sqD insB qsL
set_option maxRecDepth 10000
variable {G : Base} {h : H}
def lvl (cl so q : Int) : Int := min (max (q - cl) 0) (so + 1)
theorem c152 {r sp lo cl so q : Int} (hs : 0 ≤ so ∧ so ≤ 1000) (hw : Wf h) : Cf (mz G) (.func (.func 152) #[] #[]) [.agg ⟨stC r sp lo cl so q⟩] h fun r h' => r = .int .i64 (so + 1) ∧ Grow h h' := by
 dsimp only [stC]
 refine ak_ 7 [.tmp 2] Tryz.func152 rfl rfl rfl rfl ?_
 repeat' (first | with_reducible refine ad_ ?_ | ((with_reducible refine ac_ ?_); first | ((with_reducible refine al_ ?_); refine aq_ (ae_ rfl ah_ Tryz.underlying3 rfl rfl) ?_) | refine ao_ ?_) | refine ap_ ?_)
 exact rq1 rfl ⟨rfl, au_⟩
theorem c86 {r sp lo cl so q : Int} (hq : 0 ≤ q ∧ q ≤ 1000000) (hc : 0 ≤ cl ∧ cl ≤ 1000) (hs : 0 ≤ so ∧ so ≤ 1000) (hw : Wf h) : Cf (mz G) (.func (.func 86) #[] #[]) [.agg ⟨stC r sp lo cl so q⟩] h fun r h' => r = .int .i64 (lvl cl so q) ∧ Grow h h' := by
 have qf := fun (h' : H) (w' : Wf h') => c152 (G := G) (h := h') (r := r) (sp := sp) (lo := lo) (cl := cl) (so := so) (q := q) hs w'
 unfold lvl
 dsimp only [stC] at qf ⊢
 refine ak_ 13 [.tmp 2] Tryz.func86 rfl rfl rfl rfl ?_
 repeat' (first | with_reducible refine ad_ ?_ | ((with_reducible refine ac_ ?_); refine ao_ ?_) | ((with_reducible refine bb_ ?_); ((with_reducible refine bd_ ?_); first | ((with_reducible refine bm_ ?_); refine aH_ (aa_ rfl) rfl rfl (ar_ rfl (aW_ rfl)) rfl rfl rfl ?_) | ((with_reducible refine xk_callb ?_); first | refine aH_ (aa_ rfl) rfl rfl (ar_ rfl (op_min rfl rfl)) rfl rfl rfl ?_ | refine aH_ (aa_ rfl) rfl rfl (ar_ rfl (op_max rfl rfl)) rfl rfl rfl ?_) | ((with_reducible refine aC_ ?_); first | refine aH_ (aa_ rfl) rfl rfl (ar_ rfl (ab_ (o := 5) rfl Tryz.underlying157 rfl zs3 rfl)) rfl rfl rfl ?_ | refine aH_ (aa_ rfl) rfl rfl (ar_ rfl (ab_ (o := 0) rfl Tryz.underlying157 rfl zs46 rfl)) rfl rfl rfl ?_ | refine aH_ (aa_ rfl) rfl rfl (ar_ rfl (ab_ (o := 3) rfl Tryz.underlying46 rfl zs3 rfl)) rfl rfl rfl ?_) | ((with_reducible refine aZ_ ?_); first | refine aO_ (aa_ rfl) rfl (ar_ rfl (ae_ rfl ah_ Tryz.underlying3 rfl rfl)) rfl rfl rfl ?_ | refine aO_ (aa_ rfl) rfl (ar_ rfl (aj_ rfl ah_ Tryz.underlying157 rfl zs157 rfl rfl)) rfl rfl rfl ?_) | ((with_reducible refine bD_ ?_); refine aH_ (aa_ rfl) rfl rfl (ar_ rfl (bY_ rfl rfl (w64 (by omega) (by omega)))) rfl rfl rfl ?_) | ((with_reducible refine aV_ ?_); (refine aM_ (aa_ rfl) rfl rfl rfl rfl (qf _ aA_) rfl rfl ?_; rintro _ _ ⟨rfl, hq⟩; all_goals (try (have hqn := hq.nx); try simp only [aU_] at hqn))) | with_reducible refine bj_ ?_ ?_)) | with_reducible exact aP_ | with_reducible refine aJ_ ?_ ?_ | ((with_reducible refine bi_ ?_); first | exact aS_ | refine aQ_ rfl ?_ | refine am_ rfl rfl (ar_ rfl (ae_ rfl ah_ Tryz.underlying3 rfl (by rfl))) ?_ | refine am_ rfl rfl (ar_ rfl (aj_ rfl ah_ Tryz.underlying157 rfl zs157 (by rfl) rfl)) ?_) | refine ap_ ?_ | refine aF_ (id := 1) 11 [0, 1, 0, 4, 12, 31, 63, 0, 128, 511, 1023] [0, 1, 2, 3, 4, 5, 6, 7, 8, 9, 10] (by kernel_rfl) (by kernel_rfl) rfl rfl ?_)
 exact rq1 rfl ⟨rfl, au_⟩
theorem c87 {r sp lo cl so q : Int} (hq : 0 ≤ q ∧ q ≤ 1000000) (hc : 0 ≤ cl ∧ cl ≤ 1000) (hs : 0 ≤ so ∧ so ≤ 1000) (hw : Wf h) : Cf (mz G) (.func (.func 87) #[] #[]) [.agg ⟨stC r sp lo cl so q⟩] h fun r h' => r = .bool (decide (lvl cl so q = 0)) ∧ Grow h h' := by
 have qf := fun (h' : H) (w' : Wf h') => c86 (G := G) (h := h') (r := r) (sp := sp) (lo := lo) hq hc hs w'
 dsimp only [stC] at qf ⊢
 generalize lvl cl so q = L at qf ⊢
 refine ak_ 6 [.tmp 2] Tryz.func87 rfl rfl rfl rfl ?_
 repeat' (first | with_reducible refine ad_ ?_ | ((with_reducible refine ac_ ?_); first | ((with_reducible refine al_ ?_); refine aq_ (aj_ rfl ah_ Tryz.underlying157 rfl zs157 rfl rfl) ?_) | ((with_reducible refine at_ ?_); (refine as_ rfl rfl rfl rfl (qf _ aA_) rfl rfl ?_; rintro _ _ ⟨rfl, hq⟩; all_goals (try (have hqn := hq.nx); try simp only [aU_] at hqn))) | refine ao_ ?_) | refine ap_ ?_)
 exact rq1 rfl ⟨rfl, au_⟩
theorem fill_step {α : Type} {f : α → Value} {z u : Value} {l : List α} {k n : Nat} (hn : l.length = n) (hk : k < n) (hu : u = f (l[k]'(by omega))) : ((l.take k).map f ++ List.replicate (n - k) z).set k u = (l.take (k + 1)).map f ++ List.replicate (n - (k + 1)) z := by
 subst hu
 have e : ((l.take k).map f).length = k := by simp; omega
 rw [List.set_append_right _ _ (by omega), e, Nat.sub_self]
 obtain ⟨m, hm⟩ : ∃ m, n - k = m + 1 := ⟨n - k - 1, by omega⟩
 rw [hm, show n - (k + 1) = m by omega, List.replicate_succ, List.take_succ_eq_append_getElem (by omega), List.map_append, List.append_assoc]
 rfl
theorem fill_end {α : Type} {f : α → Value} {z : Value} {l : List α} {n : Nat} (hn : l.length = n) : (l.take n).map f ++ List.replicate (n - n) z = l.map f := by
 rw [List.take_of_length_le (by omega), Nat.sub_self]; simp
end Go.Proofs.YtlioomhcdlicmaaGreatDoor
