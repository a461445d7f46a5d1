/- Survey: contracts checked both ways; invoices with their totals. -/
import Derived.Test.YtlioomhcdlicmaaGreatDoorC16
import Derived.Test.YtlioomhcdlicmaaGreatDoorC11
set_option linter.all false
/- Survey: contracts checked both ways; invoices with their totals. -/
namespace Go.Proofs.YtlioomhcdlicmaaGreatDoor
open Go Go.Ab Go.Fl
attribute [local irreducible] SeqQ BlkQ LpQ RetQ Wc Wo WD WX Op1 Op1q Op1a Cf Cl From
attribute [local irreducible] Ieee.Format.order Ieee.Format.read Ieee.Format.nearest Ieee.Format.write Ieee.Format.mul Ieee.Format.div Ieee.Format.sqrt Ieee.Datum.order Ieee.Datum.integral K U rngE errN ptE firstNZ vesE watE sgE sgsE allE hitB sqD insB qsL lvl rn rl altB isNameB nmE foE clE
set_option maxRecDepth 10000
variable {G : Base} {h : H}
theorem c156 {c0 c1 c2 c3 c4 c5 c6 c7 c8 : Int} (hw : Wf h) : Cf (mz G) (.func (.func 156) #[] #[]) [.agg ⟨[.int .i64 c0, .int .i64 c1, .int .i64 c2, .int .i64 c3, .int .i64 c4, .int .i64 c5, .int .i64 c6, .int .i64 c7, .int .i64 c8]⟩] h fun r h' => r = .int .i64 c0 ∧ Grow h h' := by
 refine ak_ 5 [.tmp 2] Tryz.func156 rfl rfl rfl rfl ?_
 repeat' (first | with_reducible refine ad_ ?_ | ((with_reducible refine ac_ ?_); first | ((with_reducible refine al_ ?_); refine aq_ (ae_ rfl ah_ Tryz.underlying3 rfl rfl) ?_) | refine ao_ ?_) | refine ap_ ?_)
 exact rq1 rfl ⟨rfl, au_⟩
theorem c157 {c0 c1 c2 c3 c4 c5 c6 c7 c8 : Int} (hw : Wf h) : Cf (mz G) (.func (.func 157) #[] #[]) [.agg ⟨[.int .i64 c0, .int .i64 c1, .int .i64 c2, .int .i64 c3, .int .i64 c4, .int .i64 c5, .int .i64 c6, .int .i64 c7, .int .i64 c8]⟩] h fun r h' => r = .int .i64 c1 ∧ Grow h h' := by
 refine ak_ 5 [.tmp 2] Tryz.func157 rfl rfl rfl rfl ?_
 repeat' (first | with_reducible refine ad_ ?_ | ((with_reducible refine ac_ ?_); first | ((with_reducible refine al_ ?_); refine aq_ (ae_ rfl ah_ Tryz.underlying3 rfl rfl) ?_) | refine ao_ ?_) | refine ap_ ?_)
 exact rq1 rfl ⟨rfl, au_⟩
theorem c158 {c0 c1 c2 c3 c4 c5 c6 c7 c8 : Int} (hw : Wf h) : Cf (mz G) (.func (.func 158) #[] #[]) [.agg ⟨[.int .i64 c0, .int .i64 c1, .int .i64 c2, .int .i64 c3, .int .i64 c4, .int .i64 c5, .int .i64 c6, .int .i64 c7, .int .i64 c8]⟩] h fun r h' => r = .int .i64 c2 ∧ Grow h h' := by
 refine ak_ 5 [.tmp 2] Tryz.func158 rfl rfl rfl rfl ?_
 repeat' (first | with_reducible refine ad_ ?_ | ((with_reducible refine ac_ ?_); first | ((with_reducible refine al_ ?_); refine aq_ (ae_ rfl ah_ Tryz.underlying3 rfl rfl) ?_) | refine ao_ ?_) | refine ap_ ?_)
 exact rq1 rfl ⟨rfl, au_⟩
theorem c159 {c0 c1 c2 c3 c4 c5 c6 c7 c8 : Int} (hw : Wf h) : Cf (mz G) (.func (.func 159) #[] #[]) [.agg ⟨[.int .i64 c0, .int .i64 c1, .int .i64 c2, .int .i64 c3, .int .i64 c4, .int .i64 c5, .int .i64 c6, .int .i64 c7, .int .i64 c8]⟩] h fun r h' => r = .int .i64 c3 ∧ Grow h h' := by
 refine ak_ 5 [.tmp 2] Tryz.func159 rfl rfl rfl rfl ?_
 repeat' (first | with_reducible refine ad_ ?_ | ((with_reducible refine ac_ ?_); first | ((with_reducible refine al_ ?_); refine aq_ (ae_ rfl ah_ Tryz.underlying3 rfl rfl) ?_) | refine ao_ ?_) | refine ap_ ?_)
 exact rq1 rfl ⟨rfl, au_⟩
theorem c160 {c0 c1 c2 c3 c4 c5 c6 c7 c8 : Int} (hw : Wf h) : Cf (mz G) (.func (.func 160) #[] #[]) [.agg ⟨[.int .i64 c0, .int .i64 c1, .int .i64 c2, .int .i64 c3, .int .i64 c4, .int .i64 c5, .int .i64 c6, .int .i64 c7, .int .i64 c8]⟩] h fun r h' => r = .int .i64 c4 ∧ Grow h h' := by
 refine ak_ 5 [.tmp 2] Tryz.func160 rfl rfl rfl rfl ?_
 repeat' (first | with_reducible refine ad_ ?_ | ((with_reducible refine ac_ ?_); first | ((with_reducible refine al_ ?_); refine aq_ (ae_ rfl ah_ Tryz.underlying3 rfl rfl) ?_) | refine ao_ ?_) | refine ap_ ?_)
 exact rq1 rfl ⟨rfl, au_⟩
theorem c161 {c0 c1 c2 c3 c4 c5 c6 c7 c8 : Int} (hw : Wf h) : Cf (mz G) (.func (.func 161) #[] #[]) [.agg ⟨[.int .i64 c0, .int .i64 c1, .int .i64 c2, .int .i64 c3, .int .i64 c4, .int .i64 c5, .int .i64 c6, .int .i64 c7, .int .i64 c8]⟩] h fun r h' => r = .int .i64 c5 ∧ Grow h h' := by
 refine ak_ 5 [.tmp 2] Tryz.func161 rfl rfl rfl rfl ?_
 repeat' (first | with_reducible refine ad_ ?_ | ((with_reducible refine ac_ ?_); first | ((with_reducible refine al_ ?_); refine aq_ (ae_ rfl ah_ Tryz.underlying3 rfl rfl) ?_) | refine ao_ ?_) | refine ap_ ?_)
 exact rq1 rfl ⟨rfl, au_⟩
set_option maxHeartbeats 4000000 in
theorem c127 {A k : Nat} {c0 c1 c2 c3 c4 c5 c6 c7 c8 : Int} (hk : k < 6) (hA : At h A (.cells [.int .i64 c0, .int .i64 c1, .int .i64 c2, .int .i64 c3, .int .i64 c4, .int .i64 c5, .int .i64 c6, .int .i64 c7, .int .i64 c8] 114 9 false)) (hw : Wf h) : Cf (mz G) (.func (.func 127) #[] #[.pointer (some ⟨A, 0, some 0⟩)]) [.agg ⟨(CSL.getD k ⟨.empty, false, 0⟩).cells⟩] h fun r h' => r = .int .i64 (rngE ([c0, c1, c2, c3, c4, c5].getD k 0) (-10000) 10000) ∧ Grow h h' := by
 have lA := hA.lt
 match k, hk with
 | 0, _ =>
   show Cf (mz G) (.func (.func 127) #[] #[.pointer (some ⟨A, 0, some 0⟩)]) [.agg ⟨[.string ⟨⟨[115, 104, 111, 111, 116]⟩⟩, .bool false, .func (.func 156) #[] #[]]⟩] h fun r h' => r = .int .i64 (rngE c0 (-10000) 10000) ∧ Grow h h'
   have qr := fun (h' : H) (w' : Wf h') => c156 (G := G) (h := h') (c0 := c0) (c1 := c1) (c2 := c2) (c3 := c3) (c4 := c4) (c5 := c5) (c6 := c6) (c7 := c7) (c8 := c8) w'
   refine ch_ (sz := 9) (rs := [.tmp 3]) (all := [.agg ⟨[.string ⟨⟨[115, 104, 111, 111, 116]⟩⟩, .bool false, .func (.func 156) #[] #[]]⟩, .pointer (some ⟨A, 0, some 0⟩)]) Tryz.func127 rfl rfl rfl rfl rfl ?_
   repeat' (first | with_reducible refine ad_ ?_ | ((with_reducible refine ac_ ?_); first | ((with_reducible refine al_ ?_); first | refine aq_ (ae_ rfl ah_ Tryz.underlying189 rfl rfl) ?_ | refine aq_ (aj_ rfl ah_ Tryz.underlying114 rfl cs_ rfl rfl) ?_) | ((with_reducible refine bK_ (f := 96) ?_); refine aq_ (aK_ rfl rfl (c96 _ _ _)) ?_) | ((with_reducible refine at_ ?_); (refine as_ rfl rfl rfl rfl (qr _ aA_) rfl rfl ?_; rintro _ _ ⟨rfl, hq⟩; all_goals (try (have hqn := hq.nx); try simp only [aU_] at hqn))) | refine ao_ ?_) | refine ap_ ?_)
   exact rq1 rfl ⟨rfl, au_⟩
 | 1, _ =>
   show Cf (mz G) (.func (.func 127) #[] #[.pointer (some ⟨A, 0, some 0⟩)]) [.agg ⟨[.string ⟨⟨[116, 117, 114, 110]⟩⟩, .bool false, .func (.func 157) #[] #[]]⟩] h fun r h' => r = .int .i64 (rngE c1 (-10000) 10000) ∧ Grow h h'
   have qr := fun (h' : H) (w' : Wf h') => c157 (G := G) (h := h') (c0 := c0) (c1 := c1) (c2 := c2) (c3 := c3) (c4 := c4) (c5 := c5) (c6 := c6) (c7 := c7) (c8 := c8) w'
   refine ch_ (sz := 9) (rs := [.tmp 3]) (all := [.agg ⟨[.string ⟨⟨[116, 117, 114, 110]⟩⟩, .bool false, .func (.func 157) #[] #[]]⟩, .pointer (some ⟨A, 0, some 0⟩)]) Tryz.func127 rfl rfl rfl rfl rfl ?_
   repeat' (first | with_reducible refine ad_ ?_ | ((with_reducible refine ac_ ?_); first | ((with_reducible refine al_ ?_); first | refine aq_ (ae_ rfl ah_ Tryz.underlying189 rfl rfl) ?_ | refine aq_ (aj_ rfl ah_ Tryz.underlying114 rfl cs_ rfl rfl) ?_) | ((with_reducible refine bK_ (f := 96) ?_); refine aq_ (aK_ rfl rfl (c96 _ _ _)) ?_) | ((with_reducible refine at_ ?_); (refine as_ rfl rfl rfl rfl (qr _ aA_) rfl rfl ?_; rintro _ _ ⟨rfl, hq⟩; all_goals (try (have hqn := hq.nx); try simp only [aU_] at hqn))) | refine ao_ ?_) | refine ap_ ?_)
   exact rq1 rfl ⟨rfl, au_⟩
 | 2, _ =>
   show Cf (mz G) (.func (.func 127) #[] #[.pointer (some ⟨A, 0, some 0⟩)]) [.agg ⟨[.string ⟨⟨[119, 101, 97, 116, 104, 101, 114]⟩⟩, .bool true, .func (.func 158) #[] #[]]⟩] h fun r h' => r = .int .i64 (rngE c2 (-10000) 10000) ∧ Grow h h'
   have qr := fun (h' : H) (w' : Wf h') => c158 (G := G) (h := h') (c0 := c0) (c1 := c1) (c2 := c2) (c3 := c3) (c4 := c4) (c5 := c5) (c6 := c6) (c7 := c7) (c8 := c8) w'
   refine ch_ (sz := 9) (rs := [.tmp 3]) (all := [.agg ⟨[.string ⟨⟨[119, 101, 97, 116, 104, 101, 114]⟩⟩, .bool true, .func (.func 158) #[] #[]]⟩, .pointer (some ⟨A, 0, some 0⟩)]) Tryz.func127 rfl rfl rfl rfl rfl ?_
   repeat' (first | with_reducible refine ad_ ?_ | ((with_reducible refine ac_ ?_); first | ((with_reducible refine al_ ?_); first | refine aq_ (ae_ rfl ah_ Tryz.underlying189 rfl rfl) ?_ | refine aq_ (aj_ rfl ah_ Tryz.underlying114 rfl cs_ rfl rfl) ?_) | ((with_reducible refine bK_ (f := 96) ?_); refine aq_ (aK_ rfl rfl (c96 _ _ _)) ?_) | ((with_reducible refine at_ ?_); (refine as_ rfl rfl rfl rfl (qr _ aA_) rfl rfl ?_; rintro _ _ ⟨rfl, hq⟩; all_goals (try (have hqn := hq.nx); try simp only [aU_] at hqn))) | refine ao_ ?_) | refine ap_ ?_)
   exact rq1 rfl ⟨rfl, au_⟩
 | 3, _ =>
   show Cf (mz G) (.func (.func 127) #[] #[.pointer (some ⟨A, 0, some 0⟩)]) [.agg ⟨[.string ⟨⟨[97, 110, 105, 109, 97, 108]⟩⟩, .bool true, .func (.func 159) #[] #[]]⟩] h fun r h' => r = .int .i64 (rngE c3 (-10000) 10000) ∧ Grow h h'
   have qr := fun (h' : H) (w' : Wf h') => c159 (G := G) (h := h') (c0 := c0) (c1 := c1) (c2 := c2) (c3 := c3) (c4 := c4) (c5 := c5) (c6 := c6) (c7 := c7) (c8 := c8) w'
   refine ch_ (sz := 9) (rs := [.tmp 3]) (all := [.agg ⟨[.string ⟨⟨[97, 110, 105, 109, 97, 108]⟩⟩, .bool true, .func (.func 159) #[] #[]]⟩, .pointer (some ⟨A, 0, some 0⟩)]) Tryz.func127 rfl rfl rfl rfl rfl ?_
   repeat' (first | with_reducible refine ad_ ?_ | ((with_reducible refine ac_ ?_); first | ((with_reducible refine al_ ?_); first | refine aq_ (ae_ rfl ah_ Tryz.underlying189 rfl rfl) ?_ | refine aq_ (aj_ rfl ah_ Tryz.underlying114 rfl cs_ rfl rfl) ?_) | ((with_reducible refine bK_ (f := 96) ?_); refine aq_ (aK_ rfl rfl (c96 _ _ _)) ?_) | ((with_reducible refine at_ ?_); (refine as_ rfl rfl rfl rfl (qr _ aA_) rfl rfl ?_; rintro _ _ ⟨rfl, hq⟩; all_goals (try (have hqn := hq.nx); try simp only [aU_] at hqn))) | refine ao_ ?_) | refine ap_ ?_)
   exact rq1 rfl ⟨rfl, au_⟩
 | 4, _ =>
   show Cf (mz G) (.func (.func 127) #[] #[.pointer (some ⟨A, 0, some 0⟩)]) [.agg ⟨[.string ⟨⟨[103, 101, 97, 114]⟩⟩, .bool true, .func (.func 160) #[] #[]]⟩] h fun r h' => r = .int .i64 (rngE c4 (-10000) 10000) ∧ Grow h h'
   have qr := fun (h' : H) (w' : Wf h') => c160 (G := G) (h := h') (c0 := c0) (c1 := c1) (c2 := c2) (c3 := c3) (c4 := c4) (c5 := c5) (c6 := c6) (c7 := c7) (c8 := c8) w'
   refine ch_ (sz := 9) (rs := [.tmp 3]) (all := [.agg ⟨[.string ⟨⟨[103, 101, 97, 114]⟩⟩, .bool true, .func (.func 160) #[] #[]]⟩, .pointer (some ⟨A, 0, some 0⟩)]) Tryz.func127 rfl rfl rfl rfl rfl ?_
   repeat' (first | with_reducible refine ad_ ?_ | ((with_reducible refine ac_ ?_); first | ((with_reducible refine al_ ?_); first | refine aq_ (ae_ rfl ah_ Tryz.underlying189 rfl rfl) ?_ | refine aq_ (aj_ rfl ah_ Tryz.underlying114 rfl cs_ rfl rfl) ?_) | ((with_reducible refine bK_ (f := 96) ?_); refine aq_ (aK_ rfl rfl (c96 _ _ _)) ?_) | ((with_reducible refine at_ ?_); (refine as_ rfl rfl rfl rfl (qr _ aA_) rfl rfl ?_; rintro _ _ ⟨rfl, hq⟩; all_goals (try (have hqn := hq.nx); try simp only [aU_] at hqn))) | refine ao_ ?_) | refine ap_ ?_)
   exact rq1 rfl ⟨rfl, au_⟩
 | 5, _ =>
   show Cf (mz G) (.func (.func 127) #[] #[.pointer (some ⟨A, 0, some 0⟩)]) [.agg ⟨[.string ⟨⟨[115, 104, 97, 114, 101]⟩⟩, .bool true, .func (.func 161) #[] #[]]⟩] h fun r h' => r = .int .i64 (rngE c5 (-10000) 10000) ∧ Grow h h'
   have qr := fun (h' : H) (w' : Wf h') => c161 (G := G) (h := h') (c0 := c0) (c1 := c1) (c2 := c2) (c3 := c3) (c4 := c4) (c5 := c5) (c6 := c6) (c7 := c7) (c8 := c8) w'
   refine ch_ (sz := 9) (rs := [.tmp 3]) (all := [.agg ⟨[.string ⟨⟨[115, 104, 97, 114, 101]⟩⟩, .bool true, .func (.func 161) #[] #[]]⟩, .pointer (some ⟨A, 0, some 0⟩)]) Tryz.func127 rfl rfl rfl rfl rfl ?_
   repeat' (first | with_reducible refine ad_ ?_ | ((with_reducible refine ac_ ?_); first | ((with_reducible refine al_ ?_); first | refine aq_ (ae_ rfl ah_ Tryz.underlying189 rfl rfl) ?_ | refine aq_ (aj_ rfl ah_ Tryz.underlying114 rfl cs_ rfl rfl) ?_) | ((with_reducible refine bK_ (f := 96) ?_); refine aq_ (aK_ rfl rfl (c96 _ _ _)) ?_) | ((with_reducible refine at_ ?_); (refine as_ rfl rfl rfl rfl (qr _ aA_) rfl rfl ?_; rintro _ _ ⟨rfl, hq⟩; all_goals (try (have hqn := hq.nx); try simp only [aU_] at hqn))) | refine ao_ ?_) | refine ap_ ?_)
   exact rq1 rfl ⟨rfl, au_⟩
def rtE (c0 c1 c2 c3 c4 c5 : Int) : Int := errN (fun k => rngE ([c0, c1, c2, c3, c4, c5].getD k 0) (-10000) 10000) 6
def ctE (c0 c1 c2 c3 c4 c5 c6 c7 c8 : Int) : Int := firstNZ [rtE c0 c1 c2 c3 c4 c5, rngE c6 0 100000, rngE c7 0 10000, rngE c8 0 10000]
set_option maxHeartbeats 8000000 in
theorem c126 {A b : Nat} {c0 c1 c2 c3 c4 c5 c6 c7 c8 : Int} (hat : At h b (.cells [.string ⟨⟨[115, 104, 111, 111, 116]⟩⟩, .bool false, .func (.func 156) #[] #[], .string ⟨⟨[116, 117, 114, 110]⟩⟩, .bool false, .func (.func 157) #[] #[], .string ⟨⟨[119, 101, 97, 116, 104, 101, 114]⟩⟩, .bool true, .func (.func 158) #[] #[], .string ⟨⟨[97, 110, 105, 109, 97, 108]⟩⟩, .bool true, .func (.func 159) #[] #[], .string ⟨⟨[103, 101, 97, 114]⟩⟩, .bool true, .func (.func 160) #[] #[], .string ⟨⟨[115, 104, 97, 114, 101]⟩⟩, .bool true, .func (.func 161) #[] #[]] 192 18 false)) (hA : At h A (.cells [.int .i64 c0, .int .i64 c1, .int .i64 c2, .int .i64 c3, .int .i64 c4, .int .i64 c5, .int .i64 c6, .int .i64 c7, .int .i64 c8] 114 9 false)) (hw : Wf h) : Cf (mz G) (.func (.func 126) #[] #[]) [.slice (some ⟨b, 0, some 0⟩) 6 6, (.func (.func 127) #[] #[.pointer (some ⟨A, 0, some 0⟩)])] h fun r h' => r = .int .i64 (rtE c0 c1 c2 c3 c4 c5) ∧ Grow h h' := by
 unfold rtE
 refine ak_ 21 [.tmp 4] Tryz.func126 rfl rfl rfl rfl ?_
 repeat' (first | with_reducible refine ad_ ?_ | ((with_reducible refine ac_ ?_); first | ((with_reducible refine av_ ?_); refine aq_ (ax_ rfl Tryz.underlying198) ?_) | refine ao_ ?_) | refine ap_ ?_)
 refine bo_ (fun k => 6 - k) (fun k : Nat => [(1, (.func (.func 127) #[] #[.pointer (some ⟨A, 0, some 0⟩)])), (8, .slice (some ⟨b, 0, some 0⟩) 6 6), (9, .int .i64 6), (10, .int .i64 k)]) (fun k h' => (Wf h' ∧ Grow h h') ∧ k ≤ 6 ∧ errN (fun k => rngE ([c0, c1, c2, c3, c4, c5].getD k 0) (-10000) 10000) k = 0) 0 (af_ ⟨rfl, rfl, rfl, rfl, trivial⟩) ⟨⟨aA_, au_⟩, Nat.zero_le _, cM_ _⟩ ?_
 rintro k h1 ⟨⟨w1, g1⟩, hk, hz⟩
 have n1 := g1.nx
 by_cases hlt : k < 6
 · obtain ⟨id, i1, i3⟩ := arr_at (G := G) (hat.grow g1) hlt
   have nxt := cB_ hz
   have hit := fun (q : (fun k => rngE ([c0, c1, c2, c3, c4, c5].getD k 0) (-10000) 10000) k ≠ 0) => (errN_hit (f := (fun k => rngE ([c0, c1, c2, c3, c4, c5].getD k 0) (-10000) 10000)) (k := k + 1) (n := 6) (by omega) (by rw [nxt]; exact q)).trans nxt
   have q1 := fun (h' : H) (g' : Grow h1 h') (w' : Wf h') => c127 (G := G) (h := h') (c0 := c0) (c1 := c1) (c2 := c2) (c3 := c3) (c4 := c4) (c5 := c5) (c6 := c6) (c7 := c7) (c8 := c8) hlt (hA.grow (g1.trans g')) w'
   obtain ⟨x0, hx⟩ : ∃ x, CSL.getD k ⟨.empty, false, 0⟩ = x := ⟨_, rfl⟩
   rw [hx] at i3 q1
   clear hx
   dsimp only at nxt hit
   obtain ⟨E, hE⟩ : ∃ E, rngE ([c0, c1, c2, c3, c4, c5].getD k 0) (-10000) 10000 = E := ⟨_, rfl⟩
   rw [hE] at q1 nxt hit
   clear hE
   obtain ⟨w, d, f⟩ := x0
   dsimp only [CsR.cells] at i3 q1
   by_cases he : E = 0
   · subst he
     clear hit
     repeat' (first | with_reducible refine ad_ ?_ | ((with_reducible refine ac_ ?_); first | ((with_reducible refine an_ ?_); refine aq_ (ag_ rfl rfl i1) ?_) | ((with_reducible refine al_ ?_); first | refine aq_ (aN_ rfl Tryz.underlying191 rfl ce_ (i3 _ au_).all) ?_ | refine aq_ (aj_ rfl ah_ Tryz.underlying191 rfl ce_ rfl rfl) ?_) | ((with_reducible refine ay_ ?_); refine bQ_ (aB_ rfl rfl ah_ ce_ rfl rfl rfl rfl) ?_) | ((with_reducible refine at_ ?_); (refine as_ rfl rfl rfl rfl (q1 _ au_ aA_) rfl rfl ?_; rintro _ _ ⟨rfl, hq⟩; all_goals (try (have hqn := hq.nx); try simp only [aU_] at hqn))) | refine ao_ ?_) | refine ap_ ?_ | (refine aG_ rfl (fun hb => ?_) (fun hb => aw_ hb); (try simp only [aX_, reduceCtorEq] at hb)))
     all_goals exact aI_ (k + 1) (by omega) (af_ ⟨rfl, rfl, rfl, rfl, trivial⟩) ⟨⟨aA_, au_⟩, by omega, nxt⟩
   · rw [hit he]
     clear hit nxt
     repeat' (first | with_reducible refine ad_ ?_ | ((with_reducible refine ac_ ?_); first | ((with_reducible refine an_ ?_); refine aq_ (ag_ rfl rfl i1) ?_) | ((with_reducible refine al_ ?_); first | refine aq_ (aN_ rfl Tryz.underlying191 rfl ce_ (i3 _ au_).all) ?_ | refine aq_ (aj_ rfl ah_ Tryz.underlying191 rfl ce_ rfl rfl) ?_) | ((with_reducible refine ay_ ?_); refine bQ_ (aB_ rfl rfl ah_ ce_ rfl rfl rfl rfl) ?_) | ((with_reducible refine at_ ?_); (refine as_ rfl rfl rfl rfl (q1 _ au_ aA_) rfl rfl ?_; rintro _ _ ⟨rfl, hq⟩; all_goals (try (have hqn := hq.nx); try simp only [aU_] at hqn))) | refine ao_ ?_) | refine ap_ ?_ | (refine aG_ rfl (fun hb => ?_) (fun hb => aw_ hb); (try simp only [aX_, reduceCtorEq] at hb)))
     all_goals exact rq1 rfl ⟨rfl, au_⟩
 · have : k = 6 := by omega
   subst this
   rw [hz]
   repeat' (first | with_reducible refine ad_ ?_ | ((with_reducible refine ac_ ?_); refine ao_ ?_) | refine ap_ ?_)
   exact rq1 rfl ⟨rfl, au_⟩
set_option maxHeartbeats 8000000 in
theorem c62 {c0 c1 c2 c3 c4 c5 c6 c7 c8 : Int} (hw : Wf h) : Cf (mz G) (.func (.func 62) #[] #[]) [.agg ⟨[.int .i64 c0, .int .i64 c1, .int .i64 c2, .int .i64 c3, .int .i64 c4, .int .i64 c5, .int .i64 c6, .int .i64 c7, .int .i64 c8]⟩] h fun r h' => r = .int .i64 (ctE c0 c1 c2 c3 c4 c5 c6 c7 c8) ∧ Grow h h' := by
 have q126 := fun (h' : H) (b A : Nat) (hat : At h' b (.cells [.string ⟨⟨[115, 104, 111, 111, 116]⟩⟩, .bool false, .func (.func 156) #[] #[], .string ⟨⟨[116, 117, 114, 110]⟩⟩, .bool false, .func (.func 157) #[] #[], .string ⟨⟨[119, 101, 97, 116, 104, 101, 114]⟩⟩, .bool true, .func (.func 158) #[] #[], .string ⟨⟨[97, 110, 105, 109, 97, 108]⟩⟩, .bool true, .func (.func 159) #[] #[], .string ⟨⟨[103, 101, 97, 114]⟩⟩, .bool true, .func (.func 160) #[] #[], .string ⟨⟨[115, 104, 97, 114, 101]⟩⟩, .bool true, .func (.func 161) #[] #[]] 192 18 false)) (hA : At h' A (.cells [.int .i64 c0, .int .i64 c1, .int .i64 c2, .int .i64 c3, .int .i64 c4, .int .i64 c5, .int .i64 c6, .int .i64 c7, .int .i64 c8] 114 9 false)) (w' : Wf h') => c126 (G := G) (h := h') hat hA w'
 have qf := fun (h' : H) (v : Value) (s : Sl G h' 1 v 4 ([rtE c0 c1 c2 c3 c4 c5, rngE c6 0 100000, rngE c7 0 10000, rngE c8 0 10000].map (.int .i64))) => c93 s (by omega)
 rw [show firstNZ [rtE c0 c1 c2 c3 c4 c5, rngE c6 0 100000, rngE c7 0 10000, rngE c8 0 10000] = ctE c0 c1 c2 c3 c4 c5 c6 c7 c8 from rfl] at qf
 refine ak_ 19 [.tmp 2] Tryz.func62 rfl rfl rfl rfl ?_
 repeat' (first | with_reducible refine ad_ ?_ | ((with_reducible refine ac_ ?_); first | ((with_reducible refine ay_ ?_); refine bQ_ (aB_ rfl rfl ah_ zs192 rfl rfl rfl rfl) ?_) | ((with_reducible refine bK_ (f := 109) ?_); (refine as_ rfl rfl rfl rfl (c109 aA_) rfl rfl ?_; rintro _ _ ⟨rfl, hq⟩; all_goals (try (have hqn := hq.nx); try simp only [aU_] at hqn))) | refine ao_ ?_) | ((with_reducible refine bb_ ?_); first | ((with_reducible refine bd_ ?_); first | ((with_reducible refine xk_slice ?_); refine aO_ (aa_ rfl) rfl (ar_ rfl (op_sliceArr rfl ah_ Tryz.underlying192 ce_)) rfl rfl rfl ?_) | ((with_reducible refine xk_makeFunc ?_); refine aH_ (aa_ rfl) rfl rfl (ar_ rfl (co_ (fun _ q => by cases q) rfl rfl)) rfl rfl rfl ?_) | ((with_reducible refine aC_ ?_); first | refine aH_ (aa_ rfl) rfl rfl (ar_ rfl (ab_ (o := 6) rfl Tryz.underlying114 rfl zs3 rfl)) rfl rfl rfl ?_ | refine aH_ (aa_ rfl) rfl rfl (ar_ rfl (ab_ (o := 7) rfl Tryz.underlying114 rfl zs3 rfl)) rfl rfl rfl ?_ | refine aH_ (aa_ rfl) rfl rfl (ar_ rfl (ab_ (o := 8) rfl Tryz.underlying114 rfl zs3 rfl)) rfl rfl rfl ?_) | ((with_reducible refine aZ_ ?_); refine aO_ (aa_ rfl) rfl (ar_ rfl (ae_ rfl ah_ Tryz.underlying3 rfl rfl)) rfl rfl rfl ?_) | ((with_reducible refine bg_ ?_); refine wx_a0 (aa_ rfl) rfl (bh_ rfl Tryz.underlying238 zs26 zz26 rfl rfl) rfl rfl ?_) | ((with_reducible refine bw_ (f := 96) ?_); refine wx_ee (aa_ rfl) rfl rfl (aK_ rfl rfl (c96 _ _ _)) rfl rfl ?_) | ((with_reducible refine aV_ ?_); (refine aM_ (aa_ rfl) rfl rfl rfl rfl (q126 _ _ _ ah_ ah_ aA_) rfl rfl ?_; rintro _ _ ⟨rfl, hq⟩; all_goals (try (have hqn := hq.nx); try simp only [aU_] at hqn)))) | ((with_reducible refine bm_ ?_); refine aH_ (aa_ rfl) rfl rfl (ar_ rfl (aW_ rfl)) rfl rfl rfl ?_) | ((with_reducible refine aV_ ?_); ((with_reducible refine cq_ ?_); refine wx_e1 (aa_ rfl) rfl rfl rfl (aK_ rfl rfl (qf _ _ (Sl.ofAt (show At _ _ (.cells [.int .i64 (rtE c0 c1 c2 c3 c4 c5), .int .i64 (rngE c6 0 100000), .int .i64 (rngE c7 0 10000), .int .i64 (rngE c8 0 10000)] 26 1 false) from ah_) rfl (Nat.le_refl _)))) rfl rfl ?_)) | refine bU_ ?_ ?_ rfl rfl ?_) | with_reducible exact aP_ | with_reducible refine aJ_ ?_ ?_ | ((with_reducible refine bi_ ?_); first | exact aS_ | refine aQ_ rfl ?_ | refine am_ rfl rfl (ar_ rfl (op_sliceArr rfl ah_ Tryz.underlying192 ce_)) ?_ | refine am_ rfl rfl (ar_ rfl (ae_ rfl ah_ Tryz.underlying3 rfl (by rfl))) ?_) | with_reducible exact bV_ | with_reducible refine bE_ ?_ ?_ | ((with_reducible refine ck_ ?_); first | exact bW_ rfl rfl | exact bu_ rfl rfl aA_ gr_B) | refine ap_ ?_ | refine aF_ (id := 2) 15 [0, 0, 3, 0, 8, 31, 0, 64, 255, 0, 512, 2047, 4095, 8191, 16383] [0, 1, 2, 3, 4, 5, 6, 7, 8, 9, 10, 11, 12, 13, 14] (by kernel_rfl) (by kernel_rfl) rfl rfl ?_)
 exact rq1 rfl ⟨rfl, au_⟩
set_option maxHeartbeats 8000000 in
theorem c63 {c0 c1 c2 c3 c4 c5 c6 c7 c8 : Int} (hw : Wf h) : Cf (mz G) (.func (.func 63) #[] #[]) [.agg ⟨[.int .i64 c0, .int .i64 c1, .int .i64 c2, .int .i64 c3, .int .i64 c4, .int .i64 c5, .int .i64 c6, .int .i64 c7, .int .i64 c8]⟩] h fun r h' => r = .int .i64 (ctE c0 c1 c2 c3 c4 c5 c6 c7 c8) ∧ Grow h h' := by
 have hct : ctE c0 c1 c2 c3 c4 c5 c6 c7 c8 = if rtE c0 c1 c2 c3 c4 c5 ≠ 0 then rtE c0 c1 c2 c3 c4 c5 else firstNZ [rngE c6 0 100000, rngE c7 0 10000, rngE c8 0 10000] := by
   unfold ctE
   by_cases q : rtE c0 c1 c2 c3 c4 c5 = 0
   · rw [q, cm_, if_neg (by simp)]
   · rw [firstNZ_one q, if_pos q]
 have qf := fun (h' : H) (v : Value) (s : Sl G h' 1 v 3 ([rngE c6 0 100000, rngE c7 0 10000, rngE c8 0 10000].map (.int .i64))) => c91 s (by omega)
 rw [hct]
 generalize firstNZ [rngE c6 0 100000, rngE c7 0 10000, rngE c8 0 10000] = Y at qf ⊢
 unfold rtE
 refine ak_ 44 [.tmp 2] Tryz.func63 rfl rfl rfl rfl ?_
 refine bq_ (ι := Unit) (fun _ => [(1, .pointer (some ⟨h.nx, 0, some 0⟩))]) (fun _ h' => (Wf h' ∧ Grow h h') ∧ At h' h.nx (.cells [.int .i64 c0, .int .i64 c1, .int .i64 c2, .int .i64 c3, .int .i64 c4, .int .i64 c5, .int .i64 c6, .int .i64 c7, .int .i64 c8] 105 9 false)) ?_ ?_
 · repeat' (first | with_reducible refine ad_ ?_ | ((with_reducible refine ac_ ?_); refine ao_ ?_) | with_reducible refine bk_ ?_)
   exact ⟨rfl, (), af_ ⟨rfl, trivial⟩, ⟨aA_, au_⟩, ah_⟩
 rintro _ h1 ⟨⟨w1, g1⟩, a1⟩
 have l1 := a1.lt
 refine bq_ (ι := Option Addr × Nat) (fun z => [(1, .pointer (some ⟨h.nx, 0, some 0⟩)), (3, .slice z.1 6 z.2)]) (fun z h' => (Wf h' ∧ Grow h1 h') ∧ Sl G h' 1 (.slice z.1 6 z.2) 6 ([c0, c1, c2, c3, c4, c5].map (.int .i64))) ?_ ?_
 · repeat' (first | with_reducible refine ad_ ?_ | ((with_reducible refine ac_ ?_); first | ((with_reducible refine al_ ?_); refine aq_ (ae_ rfl ah_ Tryz.underlying3 rfl rfl) ?_) | ((with_reducible refine aE_ ?_); refine aq_ (aR_ rfl Tryz.underlying49 zs3 zz3 rfl rfl) ?_) | refine ao_ ?_) | with_reducible refine bk_ ?_)
   exact ⟨rfl, (some ⟨h1.nx, 0, some 0⟩, 6), af_ ⟨rfl, rfl, trivial⟩, ⟨aA_, au_⟩, Sl.ofAt (show At _ h1.nx (.cells [.int .i64 c0, .int .i64 c1, .int .i64 c2, .int .i64 c3, .int .i64 c4, .int .i64 c5] 3 1 false) from ah_) rfl (Nat.le_refl 6)⟩
 clear w1
 rintro ⟨ka, kc⟩ h2 ⟨⟨w1, g2⟩, s3⟩
 dsimp only at s3 ⊢
 have a2 := a1.grow g2
 have g3 := g1.trans g2
 clear g1 g2 a1 l1
 have l2 := a2.lt
 repeat' (first | with_reducible refine ad_ ?_ | ((with_reducible refine ac_ ?_); ((with_reducible refine cx_ ?_); refine aq_ (aW_ rfl) ?_)) | refine ap_ ?_)
 refine bo_ (fun k => 6 - k) (fun k : Nat => [(1, .pointer (some ⟨h.nx, 0, some 0⟩)), (3, .slice ka 6 kc), (4, .int .i64 (k : Nat))]) (fun k h' => h2 = h' ∧ k ≤ 6 ∧ errN (fun k => rngE ([c0, c1, c2, c3, c4, c5].getD k 0) (-10000) 10000) k = 0) 0 (af_ ⟨rfl, rfl, rfl, trivial⟩) ⟨rfl, Nat.zero_le _, cM_ _⟩ ?_
 rintro k _ ⟨rfl, hk, hz⟩
 by_cases hlt : k < 6
 · obtain ⟨id, i1, i3⟩ := in_atV (Value.int .i64) 0 s3 Tryz.underlying49 zs3 (i := (k : Int)) hlt rfl
   have nxt := cB_ hz
   have hit := fun (q : (fun k => rngE ([c0, c1, c2, c3, c4, c5].getD k 0) (-10000) 10000) k ≠ 0) => (errN_hit (f := (fun k => rngE ([c0, c1, c2, c3, c4, c5].getD k 0) (-10000) 10000)) (k := k + 1) (n := 6) (by omega) (by rw [nxt]; exact q)).trans nxt
   dsimp only at nxt hit
   have q72 := fun (h' : H) => c72 (G := G) (h := h') ([c0, c1, c2, c3, c4, c5].getD k 0) (-10000) 10000
   obtain ⟨E, hE⟩ : ∃ E, rngE ([c0, c1, c2, c3, c4, c5].getD k 0) (-10000) 10000 = E := ⟨_, rfl⟩
   rw [hE] at q72 nxt hit
   clear hE
   generalize [c0, c1, c2, c3, c4, c5].getD k 0 = x at i3 q72
   by_cases he : E = 0
   · subst he
     clear hit
     repeat' (first | with_reducible refine ad_ ?_ | ((with_reducible refine ac_ ?_); first | ((with_reducible refine an_ ?_); refine aq_ (ag_ rfl rfl i1) ?_) | ((with_reducible refine al_ ?_); refine aq_ (az_ rfl Tryz.underlying3 rfl (i3 _ au_)) ?_) | ((with_reducible refine av_ ?_); refine aq_ (ax_ rfl Tryz.underlying49) ?_) | ((with_reducible refine at_ ?_); refine aq_ (aK_ rfl rfl (q72 _)) ?_) | refine ao_ ?_) | refine ap_ ?_ | (refine aG_ rfl (fun hb => ?_) (fun hb => aw_ hb); (try simp only [aX_, reduceCtorEq] at hb)))
     all_goals exact aI_ (k + 1) (by omega) (af_ ⟨rfl, rfl, rfl, trivial⟩) ⟨rfl, by omega, nxt⟩
   · rw [hit he, if_pos he]
     clear hit nxt
     repeat' (first | with_reducible refine ad_ ?_ | ((with_reducible refine ac_ ?_); first | ((with_reducible refine an_ ?_); refine aq_ (ag_ rfl rfl i1) ?_) | ((with_reducible refine al_ ?_); refine aq_ (az_ rfl Tryz.underlying3 rfl (i3 _ au_)) ?_) | ((with_reducible refine av_ ?_); refine aq_ (ax_ rfl Tryz.underlying49) ?_) | ((with_reducible refine at_ ?_); refine aq_ (aK_ rfl rfl (q72 _)) ?_) | refine ao_ ?_) | refine ap_ ?_ | (refine aG_ rfl (fun hb => ?_) (fun hb => aw_ hb); (try simp only [aX_, reduceCtorEq] at hb)))
     all_goals exact rq1 rfl ⟨rfl, g3⟩
 · have : k = 6 := by omega
   subst this
   rw [hz, if_neg (by simp)]
   repeat' (first | with_reducible refine ad_ ?_ | ((with_reducible refine ac_ ?_); first | ((with_reducible refine av_ ?_); refine aq_ (ax_ rfl Tryz.underlying49) ?_) | refine ao_ ?_) | ((with_reducible refine bb_ ?_); first | ((with_reducible refine bd_ ?_); first | ((with_reducible refine aC_ ?_); first | refine aH_ (aa_ rfl) rfl rfl (ar_ rfl (ab_ (o := 6) rfl Tryz.underlying105 rfl zs3 rfl)) rfl rfl rfl ?_ | refine aH_ (aa_ rfl) rfl rfl (ar_ rfl (ab_ (o := 7) rfl Tryz.underlying105 rfl zs3 rfl)) rfl rfl rfl ?_ | refine aH_ (aa_ rfl) rfl rfl (ar_ rfl (ab_ (o := 8) rfl Tryz.underlying105 rfl zs3 rfl)) rfl rfl rfl ?_) | ((with_reducible refine aZ_ ?_); refine aO_ (aa_ rfl) rfl (ar_ rfl (ae_ rfl ah_ Tryz.underlying3 rfl rfl)) rfl rfl rfl ?_) | ((with_reducible refine bg_ ?_); refine wx_a0 (aa_ rfl) rfl (bh_ rfl Tryz.underlying49 zs3 zz3 rfl rfl) rfl rfl ?_) | ((with_reducible refine bw_ (f := 72) ?_); refine wx_ee (aa_ rfl) rfl rfl (aK_ rfl rfl (c72 _ _ _)) rfl rfl ?_)) | ((with_reducible refine bm_ ?_); refine aH_ (aa_ rfl) rfl rfl (ar_ rfl (aW_ rfl)) rfl rfl rfl ?_) | ((with_reducible refine aV_ ?_); ((with_reducible refine cq_ ?_); refine wx_e1 (aa_ rfl) rfl rfl rfl (aK_ rfl rfl (qf _ _ (Sl.ofAt (show At _ _ (.cells [.int .i64 (rngE c6 0 100000), .int .i64 (rngE c7 0 10000), .int .i64 (rngE c8 0 10000)] 3 1 false) from ah_) rfl (Nat.le_refl _)))) rfl rfl ?_)) | refine bU_ ?_ ?_ rfl rfl ?_) | with_reducible exact aP_ | with_reducible refine aJ_ ?_ ?_ | ((with_reducible refine bi_ ?_); first | exact aS_ | refine aQ_ rfl ?_ | refine am_ rfl rfl (ar_ rfl (ae_ rfl ah_ Tryz.underlying3 rfl (by rfl))) ?_) | with_reducible exact bV_ | with_reducible refine bE_ ?_ ?_ | ((with_reducible refine ck_ ?_); first | exact bW_ rfl rfl | exact bu_ rfl rfl aA_ gr_B) | refine ap_ ?_ | refine aF_ (id := 8) 12 [0, 1, 3, 0, 8, 31, 0, 64, 255, 511, 1023, 2047] [0, 1, 2, 3, 4, 5, 6, 7, 8, 9, 10, 11] (by kernel_rfl) (by kernel_rfl) rfl rfl ?_)
   exact rq1 rfl ⟨rfl, au_⟩
def smT (L a0 a1 a2 a3 a4 a5 : Int) : Nat → Int
 | 0 => L
 | 1 => L + a0
 | 2 => L + a0 + a1
 | 3 => L + a0 + a1 + a2
 | 4 => L + a0 + a1 + a2 + a3
 | 5 => L + a0 + a1 + a2 + a3 + a4
 | _ => L + a0 + a1 + a2 + a3 + a4 + a5
set_option maxHeartbeats 8000000 in
theorem c122 {L T a0 a1 a2 a3 a4 a5 : Int} (b0 : -1000000000000 ≤ a0 ∧ a0 ≤ 1000000000000) (b1 : -1000000000000 ≤ a1 ∧ a1 ≤ 1000000000000) (b2 : -1000000000000 ≤ a2 ∧ a2 ≤ 1000000000000) (b3 : -1000000000000 ≤ a3 ∧ a3 ≤ 1000000000000) (b4 : -1000000000000 ≤ a4 ∧ a4 ≤ 1000000000000) (b5 : -1000000000000 ≤ a5 ∧ a5 ≤ 1000000000000) (bL : -1000000000000 ≤ L ∧ L ≤ 1000000000000) (hw : Wf h) : Cf (mz G) (.func (.func 122) #[] #[]) [.agg ⟨[.int .i64 a0, .int .i64 a1, .int .i64 a2, .int .i64 a3, .int .i64 a4, .int .i64 a5, .int .i64 L, .int .i64 (T)]⟩] h fun r h' => r = .agg ⟨[.int .i64 a0, .int .i64 a1, .int .i64 a2, .int .i64 a3, .int .i64 a4, .int .i64 a5, .int .i64 L, .int .i64 (L + a0 + a1 + a2 + a3 + a4 + a5)]⟩ ∧ Grow h h' := by
 refine ak_ 20 [.cell 2 29] Tryz.func122 rfl rfl rfl rfl ?_
 repeat' (first | with_reducible refine ad_ ?_ | ((with_reducible refine ac_ ?_); first | ((with_reducible refine al_ ?_); first | refine aq_ (ae_ rfl ah_ Tryz.underlying3 rfl rfl) ?_ | refine aq_ (aj_ rfl ah_ Tryz.underlying22 rfl zs22 rfl rfl) ?_) | ((with_reducible refine ay_ ?_); refine bQ_ (op_st1 rfl rfl ah_ rfl zs3 rfl rfl rfl) ?_) | refine ao_ ?_) | refine ap_ ?_)
 refine bo_ (fun k => 6 - k) (fun k : Nat => [(1, .pointer (some ⟨h.nx, 0, some 0⟩)), (2, .pointer (some ⟨h.nx + 1, 0, some 0⟩)), (9, .agg ⟨[.int .i64 a0, .int .i64 a1, .int .i64 a2, .int .i64 a3, .int .i64 a4, .int .i64 a5]⟩), (10, .int .i64 k)]) (fun k h' => (Wf h' ∧ Grow h h') ∧ (k ≤ 6 ∧ h.nx + 1 < h'.nx) ∧ At h' h.nx (.cells [.int .i64 a0, .int .i64 a1, .int .i64 a2, .int .i64 a3, .int .i64 a4, .int .i64 a5, .int .i64 L, .int .i64 (smT L a0 a1 a2 a3 a4 a5 k)] 29 8 false) ∧ At h' (h.nx + 1) (.cells [.int .i64 0, .int .i64 0, .int .i64 0, .int .i64 0, .int .i64 0, .int .i64 0, .int .i64 0, .int .i64 0] 29 8 false)) 0 (af_ ⟨rfl, rfl, rfl, rfl, trivial⟩) ⟨⟨aA_, au_⟩, ⟨Nat.zero_le _, by simp only [H.nx_push, H.nx_set]; omega⟩, (show At _ h.nx (.cells [.int .i64 a0, .int .i64 a1, .int .i64 a2, .int .i64 a3, .int .i64 a4, .int .i64 a5, .int .i64 L, .int .i64 (L)] 29 8 false) from ah_), ah_⟩ ?_
 rintro k h1 ⟨⟨w1, g1⟩, ⟨hk, hn2⟩, aA, aB⟩
 have n1 := g1.nx
 by_cases hlt : k < 6
 · match k, hlt with
   | 0, _ =>
     have aA : At h1 h.nx (.cells [.int .i64 a0, .int .i64 a1, .int .i64 a2, .int .i64 a3, .int .i64 a4, .int .i64 a5, .int .i64 L, .int .i64 (L)] 29 8 false) := aA
     repeat' (first | with_reducible refine ad_ ?_ | ((with_reducible refine ac_ ?_); first | ((with_reducible refine bv_ ?_); refine aq_ (by_ (v := .int .i64 a0) rfl rfl Tryz.underlying22 zs3 (by decide) (by decide) rfl) ?_) | ((with_reducible refine al_ ?_); refine aq_ (ae_ (b := h.nx) (off := 7) rfl ah_ Tryz.underlying3 rfl rfl) ?_) | ((with_reducible refine ay_ ?_); refine bQ_ (bA_ (b := h.nx) (o := 7) (cs := [.int .i64 a0, .int .i64 a1, .int .i64 a2, .int .i64 a3, .int .i64 a4, .int .i64 a5, .int .i64 L, .int .i64 (L + a0)]) rfl rfl ah_ rfl zs3 (Nat.le_of_ble_eq_true rfl) rfl rfl) ?_) | refine ao_ ?_) | refine ap_ ?_)
     exact aI_ (0 + 1) (by omega) (af_ ⟨rfl, rfl, rfl, rfl, trivial⟩) ⟨⟨aA_, au_⟩, ⟨by omega, by simp only [H.nx_push, H.nx_set]; omega⟩, (show At _ h.nx (.cells [.int .i64 a0, .int .i64 a1, .int .i64 a2, .int .i64 a3, .int .i64 a4, .int .i64 a5, .int .i64 L, .int .i64 (L + a0)] 29 8 false) from ah_), ah_⟩
   | 1, _ =>
     have aA : At h1 h.nx (.cells [.int .i64 a0, .int .i64 a1, .int .i64 a2, .int .i64 a3, .int .i64 a4, .int .i64 a5, .int .i64 L, .int .i64 (L + a0)] 29 8 false) := aA
     repeat' (first | with_reducible refine ad_ ?_ | ((with_reducible refine ac_ ?_); first | ((with_reducible refine bv_ ?_); refine aq_ (by_ (v := .int .i64 a1) rfl rfl Tryz.underlying22 zs3 (by decide) (by decide) rfl) ?_) | ((with_reducible refine al_ ?_); refine aq_ (ae_ (b := h.nx) (off := 7) rfl ah_ Tryz.underlying3 rfl rfl) ?_) | ((with_reducible refine ay_ ?_); refine bQ_ (bA_ (b := h.nx) (o := 7) (cs := [.int .i64 a0, .int .i64 a1, .int .i64 a2, .int .i64 a3, .int .i64 a4, .int .i64 a5, .int .i64 L, .int .i64 (L + a0 + a1)]) rfl rfl ah_ rfl zs3 (Nat.le_of_ble_eq_true rfl) rfl rfl) ?_) | refine ao_ ?_) | refine ap_ ?_)
     exact aI_ (1 + 1) (by omega) (af_ ⟨rfl, rfl, rfl, rfl, trivial⟩) ⟨⟨aA_, au_⟩, ⟨by omega, by simp only [H.nx_push, H.nx_set]; omega⟩, (show At _ h.nx (.cells [.int .i64 a0, .int .i64 a1, .int .i64 a2, .int .i64 a3, .int .i64 a4, .int .i64 a5, .int .i64 L, .int .i64 (L + a0 + a1)] 29 8 false) from ah_), ah_⟩
   | 2, _ =>
     have aA : At h1 h.nx (.cells [.int .i64 a0, .int .i64 a1, .int .i64 a2, .int .i64 a3, .int .i64 a4, .int .i64 a5, .int .i64 L, .int .i64 (L + a0 + a1)] 29 8 false) := aA
     repeat' (first | with_reducible refine ad_ ?_ | ((with_reducible refine ac_ ?_); first | ((with_reducible refine bv_ ?_); refine aq_ (by_ (v := .int .i64 a2) rfl rfl Tryz.underlying22 zs3 (by decide) (by decide) rfl) ?_) | ((with_reducible refine al_ ?_); refine aq_ (ae_ (b := h.nx) (off := 7) rfl ah_ Tryz.underlying3 rfl rfl) ?_) | ((with_reducible refine ay_ ?_); refine bQ_ (bA_ (b := h.nx) (o := 7) (cs := [.int .i64 a0, .int .i64 a1, .int .i64 a2, .int .i64 a3, .int .i64 a4, .int .i64 a5, .int .i64 L, .int .i64 (L + a0 + a1 + a2)]) rfl rfl ah_ rfl zs3 (Nat.le_of_ble_eq_true rfl) rfl rfl) ?_) | refine ao_ ?_) | refine ap_ ?_)
     exact aI_ (2 + 1) (by omega) (af_ ⟨rfl, rfl, rfl, rfl, trivial⟩) ⟨⟨aA_, au_⟩, ⟨by omega, by simp only [H.nx_push, H.nx_set]; omega⟩, (show At _ h.nx (.cells [.int .i64 a0, .int .i64 a1, .int .i64 a2, .int .i64 a3, .int .i64 a4, .int .i64 a5, .int .i64 L, .int .i64 (L + a0 + a1 + a2)] 29 8 false) from ah_), ah_⟩
   | 3, _ =>
     have aA : At h1 h.nx (.cells [.int .i64 a0, .int .i64 a1, .int .i64 a2, .int .i64 a3, .int .i64 a4, .int .i64 a5, .int .i64 L, .int .i64 (L + a0 + a1 + a2)] 29 8 false) := aA
     repeat' (first | with_reducible refine ad_ ?_ | ((with_reducible refine ac_ ?_); first | ((with_reducible refine bv_ ?_); refine aq_ (by_ (v := .int .i64 a3) rfl rfl Tryz.underlying22 zs3 (by decide) (by decide) rfl) ?_) | ((with_reducible refine al_ ?_); refine aq_ (ae_ (b := h.nx) (off := 7) rfl ah_ Tryz.underlying3 rfl rfl) ?_) | ((with_reducible refine ay_ ?_); refine bQ_ (bA_ (b := h.nx) (o := 7) (cs := [.int .i64 a0, .int .i64 a1, .int .i64 a2, .int .i64 a3, .int .i64 a4, .int .i64 a5, .int .i64 L, .int .i64 (L + a0 + a1 + a2 + a3)]) rfl rfl ah_ rfl zs3 (Nat.le_of_ble_eq_true rfl) rfl rfl) ?_) | refine ao_ ?_) | refine ap_ ?_)
     exact aI_ (3 + 1) (by omega) (af_ ⟨rfl, rfl, rfl, rfl, trivial⟩) ⟨⟨aA_, au_⟩, ⟨by omega, by simp only [H.nx_push, H.nx_set]; omega⟩, (show At _ h.nx (.cells [.int .i64 a0, .int .i64 a1, .int .i64 a2, .int .i64 a3, .int .i64 a4, .int .i64 a5, .int .i64 L, .int .i64 (L + a0 + a1 + a2 + a3)] 29 8 false) from ah_), ah_⟩
   | 4, _ =>
     have aA : At h1 h.nx (.cells [.int .i64 a0, .int .i64 a1, .int .i64 a2, .int .i64 a3, .int .i64 a4, .int .i64 a5, .int .i64 L, .int .i64 (L + a0 + a1 + a2 + a3)] 29 8 false) := aA
     repeat' (first | with_reducible refine ad_ ?_ | ((with_reducible refine ac_ ?_); first | ((with_reducible refine bv_ ?_); refine aq_ (by_ (v := .int .i64 a4) rfl rfl Tryz.underlying22 zs3 (by decide) (by decide) rfl) ?_) | ((with_reducible refine al_ ?_); refine aq_ (ae_ (b := h.nx) (off := 7) rfl ah_ Tryz.underlying3 rfl rfl) ?_) | ((with_reducible refine ay_ ?_); refine bQ_ (bA_ (b := h.nx) (o := 7) (cs := [.int .i64 a0, .int .i64 a1, .int .i64 a2, .int .i64 a3, .int .i64 a4, .int .i64 a5, .int .i64 L, .int .i64 (L + a0 + a1 + a2 + a3 + a4)]) rfl rfl ah_ rfl zs3 (Nat.le_of_ble_eq_true rfl) rfl rfl) ?_) | refine ao_ ?_) | refine ap_ ?_)
     exact aI_ (4 + 1) (by omega) (af_ ⟨rfl, rfl, rfl, rfl, trivial⟩) ⟨⟨aA_, au_⟩, ⟨by omega, by simp only [H.nx_push, H.nx_set]; omega⟩, (show At _ h.nx (.cells [.int .i64 a0, .int .i64 a1, .int .i64 a2, .int .i64 a3, .int .i64 a4, .int .i64 a5, .int .i64 L, .int .i64 (L + a0 + a1 + a2 + a3 + a4)] 29 8 false) from ah_), ah_⟩
   | 5, _ =>
     have aA : At h1 h.nx (.cells [.int .i64 a0, .int .i64 a1, .int .i64 a2, .int .i64 a3, .int .i64 a4, .int .i64 a5, .int .i64 L, .int .i64 (L + a0 + a1 + a2 + a3 + a4)] 29 8 false) := aA
     repeat' (first | with_reducible refine ad_ ?_ | ((with_reducible refine ac_ ?_); first | ((with_reducible refine bv_ ?_); refine aq_ (by_ (v := .int .i64 a5) rfl rfl Tryz.underlying22 zs3 (by decide) (by decide) rfl) ?_) | ((with_reducible refine al_ ?_); refine aq_ (ae_ (b := h.nx) (off := 7) rfl ah_ Tryz.underlying3 rfl rfl) ?_) | ((with_reducible refine ay_ ?_); refine bQ_ (bA_ (b := h.nx) (o := 7) (cs := [.int .i64 a0, .int .i64 a1, .int .i64 a2, .int .i64 a3, .int .i64 a4, .int .i64 a5, .int .i64 L, .int .i64 (L + a0 + a1 + a2 + a3 + a4 + a5)]) rfl rfl ah_ rfl zs3 (Nat.le_of_ble_eq_true rfl) rfl rfl) ?_) | refine ao_ ?_) | refine ap_ ?_)
     exact aI_ (5 + 1) (by omega) (af_ ⟨rfl, rfl, rfl, rfl, trivial⟩) ⟨⟨aA_, au_⟩, ⟨by omega, by simp only [H.nx_push, H.nx_set]; omega⟩, (show At _ h.nx (.cells [.int .i64 a0, .int .i64 a1, .int .i64 a2, .int .i64 a3, .int .i64 a4, .int .i64 a5, .int .i64 L, .int .i64 (L + a0 + a1 + a2 + a3 + a4 + a5)] 29 8 false) from ah_), ah_⟩
 · have : k = 6 := by omega
   subst this
   have aA : At h1 h.nx (.cells [.int .i64 a0, .int .i64 a1, .int .i64 a2, .int .i64 a3, .int .i64 a4, .int .i64 a5, .int .i64 L, .int .i64 (L + a0 + a1 + a2 + a3 + a4 + a5)] 29 8 false) := aA
   repeat' (first | with_reducible refine ad_ ?_ | ((with_reducible refine ac_ ?_); first | ((with_reducible refine al_ ?_); refine aq_ (aj_ rfl ah_ Tryz.underlying29 rfl zs29 rfl rfl) ?_) | ((with_reducible refine ay_ ?_); refine bQ_ (aB_ rfl rfl ah_ zs29 rfl rfl rfl rfl) ?_) | refine ao_ ?_) | refine ap_ ?_)
   exact rqc1 rfl (ldAgg ah_ Tryz.underlying29 rfl zs29 rfl rfl) ⟨rfl, au_⟩
end Go.Proofs.YtlioomhcdlicmaaGreatDoor
