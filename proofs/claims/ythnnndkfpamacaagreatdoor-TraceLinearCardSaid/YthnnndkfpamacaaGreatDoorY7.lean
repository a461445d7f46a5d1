/- TraceLinear: sums of a shot with itself and with its opposite. -/
import Derived.Test.YthnnndkfpamacaaGreatDoorY6
set_option linter.all false
/- TraceLinear: sums of a shot with itself and with its opposite. -/
namespace Go.Proofs.YthnnndkfpamacaaGreatDoor
open Go Go.Ab Go.Fl
attribute [local irreducible] SeqQ BlkQ LpQ RetQ Wc Wo WD WX Op1 Op1q Op1a Cf Cl From
attribute [local irreducible] Ieee.Format.order Ieee.Format.read Ieee.Format.nearest Ieee.Format.write Ieee.Format.mul Ieee.Format.div Ieee.Datum.order Ieee.Datum.integral smpE smp smpW K J U trE hdrE lchk firstNZ isNameB wid mism shE offs shortB anyLarge smallB SlK chTs repTs repK stkL stkC alkE lsAt HeardR
set_option maxRecDepth 10000
variable {G : Base} {h : H}
set_option maxHeartbeats 4000000 in
theorem c11b {nm : ByteArray} {a oa : Option Addr} {c on oc : Nat} {ts : List Trc} {ls : List Lst} {z : Int} (s : SlT G h (.slice a on c) on ts) (so : LsOk G h (.slice oa on oc) on ls) (v : Val nm ts) (hG : ∀ a v, laidBase a = some v → G a = some v) (hz : -128 ≤ z ∧ z ≤ 127) (hin : InL ts ls ts.length) (sb : SmB ts) {h1 : H} {b7 b11 b13 b15 B c11 c13 c15 : Nat} {a11 a13 a15 : Option Addr} (w : Wf h1) (g : Grow h h1) (x0 : At h1 h.nx (.cells (shC nm a on c) 43 2 false)) (t7 : At h1 b7 (.cells (shC nmO (some ⟨B, 0, some 0⟩) on on) 43 2 false)) (s7 : SlK G h1 (.slice (some ⟨B, 0, some 0⟩) on on) on (repTs ls ts)) (t11 : At h1 b11 (.cells (shC nm a11 on c11) 54 2 false)) (s11 : SlK G h1 (.slice a11 on c11) on (chTs (mrgF addF (repTs ls ts)) ts)) (t13 : At h1 b13 (.cells (shC nmO a13 on c13) 54 2 false)) (s13 : SlK G h1 (.slice a13 on c13) on (chTs (mrgF addF ts) (repTs ls ts))) (t15 : At h1 b15 (.cells (shC nm a15 on c15) 54 2 false)) (s15 : SlK G h1 (.slice a15 on c15) on (chTs (sclF (-1) 1) ts)) (n13 : h.nx < b13) (n11 : b11 ≠ b13) (n15 : b15 ≠ b13) : Wc (mz G) none (sfx 9 (Tryz.f11.body.getD .skip)) 489 [(1, .slice oa on oc), (2, .int .i8 z), (3, .pointer (some ⟨h.nx, 0, some 0⟩)), (7, .pointer (some ⟨b7, 0, some 0⟩)), (11, .pointer (some ⟨b11, 0, some 0⟩)), (13, .pointer (some ⟨b13, 0, some 0⟩)), (15, .pointer (some ⟨b15, 0, some 0⟩))] h1 (RetQ (mz G) [.tmp 6] fun r h' => r = .bool true ∧ Grow h h') := by
 have hlen := s.len
 have hmost := v.most
 have hn : on ≤ 65 := by omega
 have vn := v.n
 have kl := rep_like v hin
 have vU := rep_val (nm' := nmO) v hin nmO_name
 have sU := rep_smB v hin
 have f1 := fits_add v vU kl sb sU
 have vA := v.ch f1
 have tAB := sum_swap kl vA
 have fM := fits_neg sb
 have vM := v.ch fM
 have kM := v.like_ch fM
 have f3 := fits_add v vM kM sb (smB_neg sb)
 have f4 := fits_add v v (Like.refl ts) sb sb
 have vT := v.ch f4
 have tTD := twice_double vT
 have tS := scl_self v
 have sk := s.k
 have q31 := fun (h' : H) (st : SlK G h' (.slice a on c) on ts) (w : Wf h') => k31 (nm := nm) st hn vn w
 have q49d := fun (h' : H) (a1 : Option Addr) (c1 : Nat) (st : SlK G h' (.slice a1 on c1) on ts) (w : Wf h') => k49 (nm := nm) (x := 2) (y := 1) st v (by decide) (by decide) (fits_two sb) w hG
 have q49s := fun (h' : H) (a1 : Option Addr) (c1 : Nat) (st : SlK G h' (.slice a1 on c1) on ts) (w : Wf h') => k49 (nm := nm) (x := 7) (y := 7) st v (by decide) (by decide) (fits_sev sb) w hG
 have q48n := fun (h' : H) (a1 a2 : Option Addr) (c1 c2 : Nat) (st : SlK G h' (.slice a1 on c1) on ts) (st' : SlK G h' (.slice a2 on c2) on (chTs (sclF (-1) 1) ts)) (w : Wf h') => k48 st st' v vM kM f3 w hG
 have q48t := fun (h' : H) (a1 a2 : Option Addr) (c1 c2 : Nat) (st : SlK G h' (.slice a1 on c1) on ts) (st' : SlK G h' (.slice a2 on c2) on ts) (w : Wf h') => k48 (nm := nm) (nm' := nm) st st' v v (Like.refl ts) f4 w hG
 have q81 := fun (h' : H) (nm' : ByteArray) (us : List Trc) (a' : Option Addr) (c' : Nat) (st : SlK G h' (.slice a' on c') on us) (w : Wf h') => k81 (nm := nm') st hn w
 have q31M := fun (h' : H) (a' : Option Addr) (c' : Nat) (st : SlK G h' (.slice a' on c') on (chTs (sclF (-1) 1) ts)) (w : Wf h') => k31 (nm := nm) st hn vM.n w
 have q82A := fun (h' : H) (a1 a2 : Option Addr) (c1 c2 : Nat) (st : SlK G h' (.slice a1 on c1) on (chTs (mrgF addF (repTs ls ts)) ts)) (st' : SlK G h' (.slice a2 on c2) on (chTs (mrgF addF ts) (repTs ls ts))) (w : Wf h') => k82 (nm := nm) st st' hn vA.n tAB w
 have q82T := fun (h' : H) (a1 a2 : Option Addr) (c1 c2 : Nat) (st : SlK G h' (.slice a1 on c1) on (chTs (mrgF addF ts) ts)) (st' : SlK G h' (.slice a2 on c2) on (chTs (sclF 2 1) ts)) (w : Wf h') => k82 (nm := nm) st st' hn vT.n tTD w
 have q82S := fun (h' : H) (a1 a2 : Option Addr) (c1 c2 : Nat) (st : SlK G h' (.slice a1 on c1) on (chTs (sclF 7 7) ts)) (st' : SlK G h' (.slice a2 on c2) on ts) (w : Wf h') => k82 (nm := nm) st st' hn (v.ch (fits_sev sb)).n tS w
 have hNf : ∀ i (q : i < ts.length) (q' : i < (chTs (mrgF addF (chTs (sclF (-1) 1) ts)) ts).length), (chTs (mrgF addF (chTs (sclF (-1) 1) ts)) ts)[i] = if (ts[i]).hole = true then ⟨(ts[i]).hd, true, none, 0, 0, []⟩ else ⟨(ts[i]).hd, false, none, (ts[i]).n, 0, List.replicate (ts[i]).n (smpW 0)⟩ := fun i q q' => by
   rw [chTs_get]
   cases hh : (ts[i]).hole with
   | true => rw [if_pos rfl]; exact chT_dead hh
   | false => rw [if_neg (by simp)]; exact none_at v sb q hh
 have hNl : (chTs (mrgF addF (chTs (sclF (-1) 1) ts)) ts).length = ts.length := chTs_len
 clear f1 f3 f4 fM kM vA vM vT tAB tTD tS kl vU sU
 have q31p := fun (h' : H) (a1 : Option Addr) (c1 : Nat) (st : SlK G h' (.slice a on c) on ts) (k : SlK G h' (.slice a1 on c1) on ts) (w : Wf h') => k31p (nm := nm) st k hn vn w
 have l7 := t7.lt
 have l11 := t11.lt
 have l13 := t13.lt
 have l15 := t15.lt
 have l0 := x0.lt
 have gn := g.nx
 refine bU_ (ι := Unit) (fun i => [(1, .slice oa on oc), (2, .int .i8 z), (3, .pointer (some ⟨h.nx, 0, some 0⟩)), (11, .pointer (some ⟨b11, 0, some 0⟩)), (13, .pointer (some ⟨b13, 0, some 0⟩)), (15, .pointer (some ⟨b15, 0, some 0⟩))]) (fun i h' => (Wf h' ∧ Grow h h' ∧ At h' h.nx (.cells (shC nm a on c) 43 2 false)) ∧ At h' b11 (.cells (shC nm a11 on c11) 54 2 false) ∧ SlK G h' (.slice a11 on c11) on (chTs (mrgF addF (repTs ls ts)) ts) ∧ At h' b13 (.cells (shC nm a13 on c13) 54 2 false) ∧ SlK G h' (.slice a13 on c13) on (chTs (mrgF addF ts) (repTs ls ts)) ∧ At h' b15 (.cells (shC nm a15 on c15) 54 2 false) ∧ SlK G h' (.slice a15 on c15) on (chTs (sclF (-1) 1) ts)) ?_ ?_
 · repeat' (first | with_reducible refine am_ ?_ | ((with_reducible refine al_ ?_); first | ((with_reducible refine au_ ?_); refine ac_ (aq_ rfl an_ Tryz.underlying9 rfl rfl) ?_) | ((with_reducible refine ap_ ?_); first | refine ac_ (aa_ (o := 0) rfl Tryz.underlying43 rfl zs9 rfl) ?_ | refine ac_ (aa_ (o := 0) rfl Tryz.underlying54 rfl zs9 rfl) ?_) | ((with_reducible refine aG_ ?_); refine ci_ (cn_ rfl rfl an_ rfl zs9 rfl rfl rfl) ?_)) | with_reducible refine ab_ ?_)
   exact ⟨rfl, (), ai_ ⟨rfl, rfl, rfl, rfl, rfl, rfl, trivial⟩, ⟨aZ_, aD_, an_⟩, an_, SlK.setF s11 (Free.at t13) _, an_, SlK.setF s13 (Free.at t13) _, an_, SlK.setF s15 (Free.at t13) _⟩
 clear w g x0 l0 gn t7 s7 l7 t11 s11 l11 t13 s13 l13 t15 s15 l15 h1 n13 n11 n15
 rintro _ ha ⟨⟨w, g, x0⟩, t11, s11, t13, s13, t15, s15⟩
 have l11 := t11.lt
 have l13 := t13.lt
 have l15 := t15.lt
 have l0 := x0.lt
 have gn := g.nx
 refine bU_ (ι := Option Addr × Nat × Nat) (fun i => [(1, .slice oa on oc), (2, .int .i8 z), (3, .pointer (some ⟨h.nx, 0, some 0⟩)), (11, .pointer (some ⟨b11, 0, some 0⟩)), (13, .pointer (some ⟨b13, 0, some 0⟩)), (15, .pointer (some ⟨b15, 0, some 0⟩)), (17, .pointer (some ⟨i.2.2, 0, some 0⟩)), (18, .int .i64 0)]) (fun i h' => (Wf h' ∧ Grow h h' ∧ At h' h.nx (.cells (shC nm a on c) 43 2 false)) ∧ At h' b11 (.cells (shC nm a11 on c11) 54 2 false) ∧ SlK G h' (.slice a11 on c11) on (chTs (mrgF addF (repTs ls ts)) ts) ∧ At h' b13 (.cells (shC nm a13 on c13) 54 2 false) ∧ SlK G h' (.slice a13 on c13) on (chTs (mrgF addF ts) (repTs ls ts)) ∧ At h' b15 (.cells (shC nm a15 on c15) 54 2 false) ∧ SlK G h' (.slice a15 on c15) on (chTs (sclF (-1) 1) ts) ∧ At h' i.2.2 (.cells (shC nm i.1 on i.2.1) 54 2 false) ∧ SlK G h' (.slice i.1 on i.2.1) on (chTs (mrgF addF (chTs (sclF (-1) 1) ts)) ts)) ?_ ?_
 · repeat' (first | ((with_reducible refine bL_ ?_); first | ((with_reducible refine bK_ ?_); first | ((with_reducible refine bI_ ?_); refine bn_ (af_ rfl) rfl rfl (aE_ rfl (ag_ rfl)) rfl rfl rfl ?_) | ((with_reducible refine by_ ?_); first | refine bp_ (af_ rfl) rfl (aE_ rfl (ay_ rfl an_ Tryz.underlying43 rfl ce_ rfl rfl)) rfl rfl rfl ?_ | refine bp_ (af_ rfl) rfl (aE_ rfl (ay_ rfl an_ Tryz.underlying54 rfl cc_ rfl rfl)) rfl rfl rfl ?_) | ((with_reducible refine xk_alloc ?_); refine wx_a0 (af_ rfl) rfl (oa_alloc zz43 ce_ rfl rfl rfl) rfl rfl ?_) | ((with_reducible refine xk_extract ?_); refine bn_ (af_ rfl) rfl rfl (aE_ rfl (bD_ rfl rfl)) rfl rfl rfl ?_) | ((with_reducible refine bH_ ?_); first | (refine aV_ (af_ rfl) rfl rfl rfl rfl (q31 _ (sk.grow aD_) aZ_) rfl rfl ?_; rintro _ _ ⟨⟨y1, y2, rfl, su⟩, hq⟩; all_goals ((try (have hqn := hq.nx)); (try simp only [bG_] at hqn))) | (refine aV_ (af_ rfl) rfl rfl rfl rfl (q81 _ nm (chTs (sclF (-1) 1) ts) _ _ (s15.grow aD_) aZ_) rfl rfl ?_; rintro _ _ ⟨⟨u1, u2, rfl, sv⟩, hq⟩; all_goals ((try (have hqn := hq.nx)); (try simp only [bG_] at hqn))) | (refine aV_ (af_ rfl) rfl rfl rfl rfl (q31M _ _ _ (sv.grow aD_) aZ_) rfl rfl ?_; rintro _ _ ⟨⟨u3, u4, rfl, sw⟩, hq⟩; all_goals ((try (have hqn := hq.nx)); (try simp only [bG_] at hqn))) | (refine aV_ (af_ rfl) rfl rfl rfl rfl (q48n _ _ _ _ _ (su.grow aD_) (sw.grow aD_) aZ_) rfl rfl ?_; rintro _ _ ⟨⟨aR, cR, rfl, sR⟩, hq⟩; all_goals ((try (have hqn := hq.nx)); (try simp only [bG_] at hqn))))) | ((with_reducible refine ck_ ?_); refine bn_ (af_ rfl) rfl rfl (aE_ rfl (ad_ rfl)) rfl rfl rfl ?_) | ((with_reducible refine cf_ ?_); ((with_reducible refine xk_as1 ?_); refine wx_e01 (af_ rfl) rfl rfl rfl (aM_ rfl rfl an_ ce_ rfl rfl rfl rfl) rfl ?_)) | refine wx_niln ?_ ?_ rfl rfl ?_) | with_reducible exact bA_ | with_reducible refine bk_ ?_ ?_ | ((with_reducible refine bM_ ?_); first | exact bz_ | refine bx_ rfl ?_ | refine aB_ rfl rfl (aE_ rfl (ay_ rfl an_ Tryz.underlying43 rfl ce_ (by rfl) rfl)) ?_ | refine aB_ rfl rfl (aE_ rfl (ay_ rfl an_ Tryz.underlying54 rfl cc_ (by rfl) rfl)) ?_) | with_reducible exact stk_nil | with_reducible refine cK_ ?_ ?_ | ((with_reducible refine ik_stk ?_); first | exact stk_abs rfl rfl | exact cI_ rfl rfl aZ_ gr_B) | refine br_ (id := 25) 12 [0, 1, 0, 7, 15, 31, 63, 127, 127, 0, 767, 2047] [0, 1, 2, 3, 4, 5, 6, 7, 8, 9, 10, 11] (by kernel_rfl) (by kernel_rfl) rfl rfl ?_)
   exact ⟨rfl, (_, _, _), ai_ ⟨rfl, rfl, rfl, rfl, rfl, rfl, rfl, rfl, trivial⟩, ⟨aZ_, aD_, an_⟩, an_, s11.grow aD_, an_, s13.grow aD_, an_, s15.grow aD_, an_, (sR.setF (Free.new (i := 9) w aD_ (by omega)) _).setF (Free.at (c := zShot) (e := 54) (s := false) an_) _⟩
 clear w g x0 l0 gn t11 s11 l11 t13 s13 l13 t15 s15 l15 q48n q31M ha
 rintro ⟨a17, c17, b17⟩ hx ⟨⟨w, g, x0⟩, t11, s11, t13, s13, t15, s15, t17, s17⟩
 simp only at t17 s17
 have l11 := t11.lt
 have l13 := t13.lt
 have l15 := t15.lt
 have l17 := t17.lt
 have l0 := x0.lt
 have gn := g.nx
 refine bU_ (ι := Option Addr × Nat × Nat) (fun i => [(1, .slice oa on oc), (2, .int .i8 z), (3, .pointer (some ⟨h.nx, 0, some 0⟩)), (11, .pointer (some ⟨b11, 0, some 0⟩)), (13, .pointer (some ⟨b13, 0, some 0⟩)), (15, .pointer (some ⟨b15, 0, some 0⟩)), (17, .pointer (some ⟨b17, 0, some 0⟩)), (19, .pointer (some ⟨i.2.2, 0, some 0⟩)), (18, .int .i64 0), (20, .int .i64 0)]) (fun i h' => (Wf h' ∧ Grow h h' ∧ At h' h.nx (.cells (shC nm a on c) 43 2 false)) ∧ At h' b11 (.cells (shC nm a11 on c11) 54 2 false) ∧ SlK G h' (.slice a11 on c11) on (chTs (mrgF addF (repTs ls ts)) ts) ∧ At h' b13 (.cells (shC nm a13 on c13) 54 2 false) ∧ SlK G h' (.slice a13 on c13) on (chTs (mrgF addF ts) (repTs ls ts)) ∧ At h' b15 (.cells (shC nm a15 on c15) 54 2 false) ∧ SlK G h' (.slice a15 on c15) on (chTs (sclF (-1) 1) ts) ∧ At h' b17 (.cells (shC nm a17 on c17) 54 2 false) ∧ SlK G h' (.slice a17 on c17) on (chTs (mrgF addF (chTs (sclF (-1) 1) ts)) ts) ∧ At h' i.2.2 (.cells (shC nm i.1 on i.2.1) 54 2 false) ∧ SlK G h' (.slice i.1 on i.2.1) on (chTs (mrgF addF ts) ts)) ?_ ?_
 · repeat' (first | ((with_reducible refine bL_ ?_); first | ((with_reducible refine bK_ ?_); first | ((with_reducible refine bI_ ?_); refine bn_ (af_ rfl) rfl rfl (aE_ rfl (ag_ rfl)) rfl rfl rfl ?_) | ((with_reducible refine by_ ?_); refine bp_ (af_ rfl) rfl (aE_ rfl (ay_ rfl an_ Tryz.underlying43 rfl ce_ rfl rfl)) rfl rfl rfl ?_) | ((with_reducible refine xk_alloc ?_); refine wx_a0 (af_ rfl) rfl (oa_alloc zz43 ce_ rfl rfl rfl) rfl rfl ?_) | ((with_reducible refine xk_extract ?_); refine bn_ (af_ rfl) rfl rfl (aE_ rfl (bD_ rfl rfl)) rfl rfl rfl ?_) | ((with_reducible refine bH_ ?_); first | (refine aV_ (af_ rfl) rfl rfl rfl rfl (q31p _ _ _ (sk.grow aD_) (su.grow aD_) aZ_) rfl rfl ?_; rintro _ _ ⟨⟨u1, u2, rfl, sv', sv⟩, hq⟩; all_goals ((try (have hqn := hq.nx)); (try simp only [bG_] at hqn))) | (refine aV_ (af_ rfl) rfl rfl rfl rfl (q31 _ (sk.grow aD_) aZ_) rfl rfl ?_; rintro _ _ ⟨⟨y1, y2, rfl, su⟩, hq⟩; all_goals ((try (have hqn := hq.nx)); (try simp only [bG_] at hqn))) | (refine aV_ (af_ rfl) rfl rfl rfl rfl (q48t _ _ _ _ _ (sv'.grow aD_) (sv.grow aD_) aZ_) rfl rfl ?_; rintro _ _ ⟨⟨aR, cR, rfl, sR⟩, hq⟩; all_goals ((try (have hqn := hq.nx)); (try simp only [bG_] at hqn))))) | ((with_reducible refine ck_ ?_); refine bn_ (af_ rfl) rfl rfl (aE_ rfl (ad_ rfl)) rfl rfl rfl ?_) | ((with_reducible refine cf_ ?_); ((with_reducible refine xk_as1 ?_); refine wx_e01 (af_ rfl) rfl rfl rfl (aM_ rfl rfl an_ ce_ rfl rfl rfl rfl) rfl ?_)) | refine wx_niln ?_ ?_ rfl rfl ?_) | with_reducible exact bA_ | with_reducible refine bk_ ?_ ?_ | ((with_reducible refine bM_ ?_); first | exact bz_ | refine bx_ rfl ?_ | refine aB_ rfl rfl (aE_ rfl (ay_ rfl an_ Tryz.underlying43 rfl ce_ (by rfl) rfl)) ?_) | with_reducible exact stk_nil | with_reducible refine cK_ ?_ ?_ | ((with_reducible refine ik_stk ?_); first | exact stk_abs rfl rfl | exact cI_ rfl rfl aZ_ gr_B) | refine br_ (id := 26) 11 [0, 1, 0, 7, 15, 31, 63, 63, 0, 383, 1023] [0, 1, 2, 3, 4, 5, 6, 7, 8, 9, 10] (by kernel_rfl) (by kernel_rfl) rfl rfl ?_)
   exact ⟨rfl, (_, _, _), ai_ ⟨rfl, rfl, rfl, rfl, rfl, rfl, rfl, rfl, rfl, rfl, trivial⟩, ⟨aZ_, aD_, an_⟩, an_, s11.grow aD_, an_, s13.grow aD_, an_, s15.grow aD_, an_, s17.grow aD_, an_, (sR.setF (Free.new (i := 8) w aD_ (by omega)) _).setF (Free.at (c := zShot) (e := 54) (s := false) an_) _⟩
 clear w g x0 l0 gn t11 s11 l11 t13 s13 l13 t15 s15 l15 t17 s17 l17 q48t hx
 rintro ⟨a19, c19, b19⟩ ha ⟨⟨w, g, x0⟩, t11, s11, t13, s13, t15, s15, t17, s17, t19, s19⟩
 simp only at t19 s19
 have l11 := t11.lt
 have l13 := t13.lt
 have l15 := t15.lt
 have l17 := t17.lt
 have l19 := t19.lt
 have l0 := x0.lt
 have gn := g.nx
 refine bU_ (ι := Option Addr × Nat × Nat) (fun i => [(1, .slice oa on oc), (2, .int .i8 z), (3, .pointer (some ⟨h.nx, 0, some 0⟩)), (11, .pointer (some ⟨b11, 0, some 0⟩)), (13, .pointer (some ⟨b13, 0, some 0⟩)), (15, .pointer (some ⟨b15, 0, some 0⟩)), (17, .pointer (some ⟨b17, 0, some 0⟩)), (19, .pointer (some ⟨b19, 0, some 0⟩)), (21, .pointer (some ⟨i.2.2, 0, some 0⟩)), (18, .int .i64 0), (20, .int .i64 0), (22, .int .i64 0)]) (fun i h' => (Wf h' ∧ Grow h h' ∧ At h' h.nx (.cells (shC nm a on c) 43 2 false)) ∧ At h' b11 (.cells (shC nm a11 on c11) 54 2 false) ∧ SlK G h' (.slice a11 on c11) on (chTs (mrgF addF (repTs ls ts)) ts) ∧ At h' b13 (.cells (shC nm a13 on c13) 54 2 false) ∧ SlK G h' (.slice a13 on c13) on (chTs (mrgF addF ts) (repTs ls ts)) ∧ At h' b15 (.cells (shC nm a15 on c15) 54 2 false) ∧ SlK G h' (.slice a15 on c15) on (chTs (sclF (-1) 1) ts) ∧ At h' b17 (.cells (shC nm a17 on c17) 54 2 false) ∧ SlK G h' (.slice a17 on c17) on (chTs (mrgF addF (chTs (sclF (-1) 1) ts)) ts) ∧ At h' b19 (.cells (shC nm a19 on c19) 54 2 false) ∧ SlK G h' (.slice a19 on c19) on (chTs (mrgF addF ts) ts) ∧ At h' i.2.2 (.cells (shC nm i.1 on i.2.1) 54 2 false) ∧ SlK G h' (.slice i.1 on i.2.1) on (chTs (sclF 2 1) ts)) ?_ ?_
 · repeat' (first | with_reducible refine am_ ?_ | ((with_reducible refine al_ ?_); first | ((with_reducible refine ak_ ?_); refine ac_ (ag_ rfl) ?_) | ((with_reducible refine ae_ ?_); refine ac_ (ad_ rfl) ?_) | ((with_reducible refine au_ ?_); refine ac_ (ay_ rfl an_ Tryz.underlying43 rfl ce_ rfl rfl) ?_) | ((with_reducible refine aU_ ?_); refine ac_ (aQ_ zz43 ce_ rfl rfl rfl) ?_) | ((with_reducible refine aG_ ?_); refine ci_ (aM_ rfl rfl an_ ce_ rfl rfl rfl rfl) ?_) | ((with_reducible refine bR_ ?_); refine ac_ (bD_ rfl rfl) ?_) | ((with_reducible refine aN_ ?_); first | (refine aW_ rfl rfl rfl rfl (q31 _ (sk.grow aD_) aZ_) rfl rfl ?_; rintro _ _ ⟨⟨y1, y2, rfl, su⟩, hq⟩; all_goals ((try (have hqn := hq.nx)); (try simp only [bG_] at hqn))) | (refine aW_ rfl rfl rfl rfl (q49d _ _ _ (su.grow aD_) aZ_) rfl rfl ?_; rintro _ _ ⟨⟨aR, cR, rfl, sR⟩, hq⟩; all_goals ((try (have hqn := hq.nx)); (try simp only [bG_] at hqn))))) | with_reducible refine ab_ ?_)
   exact ⟨rfl, (_, _, _), ai_ ⟨rfl, rfl, rfl, rfl, rfl, rfl, rfl, rfl, rfl, rfl, rfl, rfl, trivial⟩, ⟨aZ_, aD_, an_⟩, an_, s11.grow aD_, an_, s13.grow aD_, an_, s15.grow aD_, an_, s17.grow aD_, an_, s19.grow aD_, an_, sR.grow aD_⟩
 clear w g x0 l0 gn t11 s11 l11 t13 s13 l13 t15 s15 l15 t17 s17 l17 t19 s19 l19 q49d ha
 rintro ⟨a21, c21, b21⟩ hx ⟨⟨w, g, x0⟩, t11, s11, t13, s13, t15, s15, t17, s17, t19, s19, t21, s21⟩
 simp only at t21 s21
 have l11 := t11.lt
 have l13 := t13.lt
 have l15 := t15.lt
 have l17 := t17.lt
 have l19 := t19.lt
 have l21 := t21.lt
 have l0 := x0.lt
 have gn := g.nx
 refine bU_ (ι := Option Addr × Nat × Nat) (fun i => [(1, .slice oa on oc), (2, .int .i8 z), (3, .pointer (some ⟨h.nx, 0, some 0⟩)), (11, .pointer (some ⟨b11, 0, some 0⟩)), (13, .pointer (some ⟨b13, 0, some 0⟩)), (15, .pointer (some ⟨b15, 0, some 0⟩)), (17, .pointer (some ⟨b17, 0, some 0⟩)), (19, .pointer (some ⟨b19, 0, some 0⟩)), (21, .pointer (some ⟨b21, 0, some 0⟩)), (23, .pointer (some ⟨i.2.2, 0, some 0⟩)), (18, .int .i64 0), (20, .int .i64 0), (22, .int .i64 0), (24, .int .i64 0)]) (fun i h' => (Wf h' ∧ Grow h h' ∧ At h' h.nx (.cells (shC nm a on c) 43 2 false)) ∧ At h' b11 (.cells (shC nm a11 on c11) 54 2 false) ∧ SlK G h' (.slice a11 on c11) on (chTs (mrgF addF (repTs ls ts)) ts) ∧ At h' b13 (.cells (shC nm a13 on c13) 54 2 false) ∧ SlK G h' (.slice a13 on c13) on (chTs (mrgF addF ts) (repTs ls ts)) ∧ At h' b15 (.cells (shC nm a15 on c15) 54 2 false) ∧ SlK G h' (.slice a15 on c15) on (chTs (sclF (-1) 1) ts) ∧ At h' b17 (.cells (shC nm a17 on c17) 54 2 false) ∧ SlK G h' (.slice a17 on c17) on (chTs (mrgF addF (chTs (sclF (-1) 1) ts)) ts) ∧ At h' b19 (.cells (shC nm a19 on c19) 54 2 false) ∧ SlK G h' (.slice a19 on c19) on (chTs (mrgF addF ts) ts) ∧ At h' b21 (.cells (shC nm a21 on c21) 54 2 false) ∧ SlK G h' (.slice a21 on c21) on (chTs (sclF 2 1) ts) ∧ At h' i.2.2 (.cells (shC nm i.1 on i.2.1) 54 2 false) ∧ SlK G h' (.slice i.1 on i.2.1) on (chTs (sclF 7 7) ts)) ?_ ?_
 · repeat' (first | with_reducible refine am_ ?_ | ((with_reducible refine al_ ?_); first | ((with_reducible refine ak_ ?_); refine ac_ (ag_ rfl) ?_) | ((with_reducible refine ae_ ?_); refine ac_ (ad_ rfl) ?_) | ((with_reducible refine au_ ?_); refine ac_ (ay_ rfl an_ Tryz.underlying43 rfl ce_ rfl rfl) ?_) | ((with_reducible refine aU_ ?_); refine ac_ (aQ_ zz43 ce_ rfl rfl rfl) ?_) | ((with_reducible refine aG_ ?_); refine ci_ (aM_ rfl rfl an_ ce_ rfl rfl rfl rfl) ?_) | ((with_reducible refine bR_ ?_); refine ac_ (bD_ rfl rfl) ?_) | ((with_reducible refine aN_ ?_); first | (refine aW_ rfl rfl rfl rfl (q31 _ (sk.grow aD_) aZ_) rfl rfl ?_; rintro _ _ ⟨⟨y1, y2, rfl, su⟩, hq⟩; all_goals ((try (have hqn := hq.nx)); (try simp only [bG_] at hqn))) | (refine aW_ rfl rfl rfl rfl (q49s _ _ _ (su.grow aD_) aZ_) rfl rfl ?_; rintro _ _ ⟨⟨aR, cR, rfl, sR⟩, hq⟩; all_goals ((try (have hqn := hq.nx)); (try simp only [bG_] at hqn))))) | with_reducible refine ab_ ?_)
   exact ⟨rfl, (_, _, _), ai_ ⟨rfl, rfl, rfl, rfl, rfl, rfl, rfl, rfl, rfl, rfl, rfl, rfl, rfl, rfl, trivial⟩, ⟨aZ_, aD_, an_⟩, an_, s11.grow aD_, an_, s13.grow aD_, an_, s15.grow aD_, an_, s17.grow aD_, an_, s19.grow aD_, an_, s21.grow aD_, an_, sR.grow aD_⟩
 clear w g x0 l0 gn t11 s11 l11 t13 s13 l13 t15 s15 l15 t17 s17 l17 t19 s19 l19 t21 s21 l21 q49s hx
 rintro ⟨a23, c23, b23⟩ ha ⟨⟨w, g, x0⟩, t11, s11, t13, s13, t15, s15, t17, s17, t19, s19, t21, s21, t23, s23⟩
 simp only at t23 s23
 have l11 := t11.lt
 have l13 := t13.lt
 have l15 := t15.lt
 have l17 := t17.lt
 have l19 := t19.lt
 have l21 := t21.lt
 have l23 := t23.lt
 have l0 := x0.lt
 have gn := g.nx
 refine bU_ (ι := Unit) (fun i => [(1, .slice oa on oc), (2, .int .i8 z), (3, .pointer (some ⟨h.nx, 0, some 0⟩)), (17, .pointer (some ⟨b17, 0, some 0⟩))]) (fun i h' => (Wf h' ∧ Grow h h' ∧ At h' h.nx (.cells (shC nm a on c) 43 2 false)) ∧ At h' b17 (.cells (shC nm a17 on c17) 54 2 false) ∧ SlK G h' (.slice a17 on c17) on (chTs (mrgF addF (chTs (sclF (-1) 1) ts)) ts)) ?_ ?_
 · repeat' (first | ((with_reducible refine bL_ ?_); ((with_reducible refine bK_ ?_); first | ((with_reducible refine bI_ ?_); refine bn_ (af_ rfl) rfl rfl (aE_ rfl (ag_ rfl)) rfl rfl rfl ?_) | ((with_reducible refine xk_bin ?_); first | refine bn_ (af_ rfl) rfl rfl (aE_ rfl (bm_ rfl rfl)) rfl rfl rfl ?_ | refine bn_ (af_ rfl) rfl rfl (aE_ rfl (aR_ rfl rfl (w64 (by omega) (by omega)))) rfl rfl rfl ?_) | ((with_reducible refine xk_pick ?_); refine bn_ (af_ rfl) rfl rfl (aE_ rfl (aO_ rfl rfl)) rfl rfl rfl ?_) | ((with_reducible refine xk_g ?_); first | ((with_reducible refine xg_load ?_); first | refine bp_ (bl_ rfl rfl rfl) rfl (aE_ rfl (ay_ rfl an_ Tryz.underlying43 rfl ce_ rfl rfl)) rfl rfl rfl ?_ | refine bp_ (bl_ rfl rfl rfl) rfl (aE_ rfl (aq_ rfl an_ Tryz.underlying41 rfl rfl)) rfl rfl rfl ?_ | refine bp_ (bl_ rfl rfl rfl) rfl (aE_ rfl (ay_ rfl an_ Tryz.underlying54 rfl cc_ rfl rfl)) rfl rfl rfl ?_ | refine bp_ (bl_ rfl rfl rfl) rfl (aE_ rfl (aq_ rfl an_ Tryz.underlying52 rfl rfl)) rfl rfl rfl ?_) | ((with_reducible refine xg_un ?_); refine bn_ (bl_ rfl rfl rfl) rfl rfl (aE_ rfl (bv_ rfl)) rfl rfl rfl ?_) | ((with_reducible refine xg_callb ?_); first | refine bn_ (bl_ rfl rfl rfl) rfl rfl (aE_ rfl (ax_ rfl Tryz.underlying41)) rfl rfl rfl ?_ | refine bn_ (bl_ rfl rfl rfl) rfl rfl (aE_ rfl (ax_ rfl Tryz.underlying52)) rfl rfl rfl ?_) | ((with_reducible refine xg_fieldAddr ?_); first | refine bn_ (bl_ rfl rfl rfl) rfl rfl (aE_ rfl (aa_ (o := 1) rfl Tryz.underlying43 rfl cL_ rfl)) rfl rfl rfl ?_ | refine bn_ (bl_ rfl rfl rfl) rfl rfl (aE_ rfl (aa_ (o := 1) rfl Tryz.underlying54 rfl zs52 rfl)) rfl rfl rfl ?_) | ((with_reducible refine xg_bin ?_); refine bn_ (bl_ rfl rfl rfl) rfl rfl (aE_ rfl (bm_ rfl rfl)) rfl rfl rfl ?_) | ((with_reducible refine xg_callv ?_); first | (refine aV_ (bl_ rfl rfl rfl) rfl rfl rfl rfl (q81 _ nm (chTs (mrgF addF (repTs ls ts)) ts) _ _ (s11.grow aD_) aZ_) rfl rfl ?_; rintro _ _ ⟨⟨y1, y2, rfl, sy⟩, hq⟩; all_goals ((try (have hqn := hq.nx)); (try simp only [bG_] at hqn))) | (refine aV_ (bl_ rfl rfl rfl) rfl rfl rfl rfl (q81 _ nm (chTs (mrgF addF ts) (repTs ls ts)) _ _ (s13.grow aD_) aZ_) rfl rfl ?_; rintro _ _ ⟨⟨z1, z2, rfl, sz⟩, hq⟩; all_goals ((try (have hqn := hq.nx)); (try simp only [bG_] at hqn))) | (refine aV_ (bl_ rfl rfl rfl) rfl rfl rfl rfl (q82A _ _ _ _ _ (sy.grow aD_) (sz.grow aD_) aZ_) rfl rfl ?_; rintro _ _ ⟨rfl, hq⟩; all_goals ((try (have hqn := hq.nx)); (try simp only [bG_] at hqn))) | (refine aV_ (bl_ rfl rfl rfl) rfl rfl rfl rfl (q81 _ nm (chTs (mrgF addF ts) ts) _ _ (s19.grow aD_) aZ_) rfl rfl ?_; rintro _ _ ⟨⟨y3, y4, rfl, sy3⟩, hq⟩; all_goals ((try (have hqn := hq.nx)); (try simp only [bG_] at hqn))) | (refine aV_ (bl_ rfl rfl rfl) rfl rfl rfl rfl (q81 _ nm (chTs (sclF 2 1) ts) _ _ (s21.grow aD_) aZ_) rfl rfl ?_; rintro _ _ ⟨⟨z3, z4, rfl, sz3⟩, hq⟩; all_goals ((try (have hqn := hq.nx)); (try simp only [bG_] at hqn))) | (refine aV_ (bl_ rfl rfl rfl) rfl rfl rfl rfl (q82T _ _ _ _ _ (sy3.grow aD_) (sz3.grow aD_) aZ_) rfl rfl ?_; rintro _ _ ⟨rfl, hq⟩; all_goals ((try (have hqn := hq.nx)); (try simp only [bG_] at hqn))) | (refine aV_ (bl_ rfl rfl rfl) rfl rfl rfl rfl (q81 _ nm (chTs (sclF 7 7) ts) _ _ (s23.grow aD_) aZ_) rfl rfl ?_; rintro _ _ ⟨⟨y5, y6, rfl, sy5⟩, hq⟩; all_goals ((try (have hqn := hq.nx)); (try simp only [bG_] at hqn))) | (refine aV_ (bl_ rfl rfl rfl) rfl rfl rfl rfl (q82S _ _ _ _ _ (sy5.grow aD_) (sk.grow aD_) aZ_) rfl rfl ?_; rintro _ _ ⟨rfl, hq⟩; all_goals ((try (have hqn := hq.nx)); (try simp only [bG_] at hqn))))) | with_reducible refine bN_ ?_ ?_)) | with_reducible exact bA_ | with_reducible refine bk_ ?_ ?_ | ((with_reducible refine bM_ ?_); first | exact bz_ | refine bx_ rfl ?_ | refine aB_ rfl rfl (aE_ rfl (ay_ rfl an_ Tryz.underlying43 rfl ce_ (by rfl) rfl)) ?_ | refine aB_ rfl rfl (aE_ rfl (aq_ rfl an_ Tryz.underlying41 rfl (by rfl))) ?_ | refine aB_ rfl rfl (aE_ rfl (ay_ rfl an_ Tryz.underlying54 rfl cc_ (by rfl) rfl)) ?_ | refine aB_ rfl rfl (aE_ rfl (aq_ rfl an_ Tryz.underlying52 rfl (by rfl))) ?_) | (with_reducible first | refine ah_ ?_ | refine ao_ ?_ | refine az_ ?_) | (refine aK_ rfl (fun hb => (of_decide_eq_true hb rfl).elim) (fun hb => ?_); (try simp only [bj_, reduceCtorEq] at hb)) | refine br_ (id := 29) 40 [0, 0, 3, 0, 15, 0, 63, 127, 255, 511, 1023, 511, 4095, 8191, 16383, 32767, 65535, 131071, 262143, 131071, 1048575, 2097151, 4194303, 8388607, 16777215, 33554431, 67108863, 33554431, 268435455, 536870911, 1073741823, 2147483647, 4294967295, 8589934591, 17179869183, 4294967295, 38654705663, 107374182399, 274877906943, 549755813887] [0, 1, 2, 3, 4, 5, 6, 7, 8, 9, 10, 11, 12, 13, 14, 15, 16, 17, 18, 19, 20, 21, 22, 23, 24, 25, 26, 27, 28, 29, 30, 31, 32, 33, 34, 35, 36, 37, 38, 39] (by kernel_rfl) (by kernel_rfl) rfl rfl ?_)
   exact ⟨rfl, (), ai_ ⟨rfl, rfl, rfl, rfl, trivial⟩, ⟨aZ_, aD_, an_⟩, an_, s17.grow aD_⟩
 clear w g x0 l0 gn t11 s11 l11 t13 s13 l13 t15 s15 l15 t17 s17 l17 t19 s19 l19 t21 s21 l21 t23 s23 l23 q82A q82T q82S ha
 rintro _ hx ⟨⟨w, g, x0⟩, t17, s17⟩
 refine bU_ (ι := Unit) (fun i => [(1, .slice oa on oc), (2, .int .i8 z), (3, .pointer (some ⟨h.nx, 0, some 0⟩))]) (fun i h' => Wf h' ∧ Grow h h' ∧ At h' h.nx (.cells (shC nm a on c) 43 2 false)) ?_ ?_
 · obtain ⟨us, st, hky⟩ := slk_un s17
   have hul := st.len
   have hall : ∀ i (q : i < us.length) (p : i < ts.length), (us[i]).hole = (ts[i]).hole ∧ (us[i]).n = (ts[i]).n ∧ ∀ x ∈ (us[i]).l, x = smpW 0 := fun i q p => by
     obtain ⟨e1, e2, e3, e4⟩ := cD_ (keys_at hky q (by omega))
     have e := hNf i p (by omega)
     have hm := v.tr _ (List.getElem_mem p)
     cases h0 : (ts[i]).hole with
     | true =>
       rw [h0, if_pos rfl] at e
       rw [e] at e2 e3 e4
       exact ⟨e2, by rw [e3]; exact (hm.2.1 h0).symm, fun x hx => by rw [e4] at hx; cases hx⟩
     | false =>
       rw [h0, if_neg (by simp)] at e
       rw [e] at e2 e3 e4
       exact ⟨e2, e3, fun x hx => by rw [e4] at hx; exact (List.mem_replicate.1 hx).2⟩
   clear hNf hNl hky s17
   have l17 := t17.lt
   have lx := x0.lt
   have gan := g.nx
   repeat' (first | with_reducible refine am_ ?_ | ((with_reducible refine al_ ?_); first | ((with_reducible refine ak_ ?_); refine ac_ (ag_ rfl) ?_) | ((with_reducible refine au_ ?_); refine ac_ (aq_ rfl an_ Tryz.underlying52 rfl rfl) ?_) | ((with_reducible refine aC_ ?_); refine ac_ (ax_ rfl Tryz.underlying52) ?_) | ((with_reducible refine ap_ ?_); refine ac_ (aa_ (o := 1) rfl Tryz.underlying54 rfl zs52 rfl) ?_)) | (with_reducible first | refine ah_ ?_ | refine ao_ ?_ | refine ab_ ?_ | refine at_ ?_))
   refine bq_ (fun k : Nat => on - k) (fun k => [(1, .slice oa on oc), (2, .int .i8 z), (3, .pointer (some ⟨h.nx, 0, some 0⟩)), (258, .slice a17 on c17), (259, .int .i64 on), (260, .int .i64 k)]) (fun k h' => (Wf h' ∧ Grow h h' ∧ At h' h.nx (.cells (shC nm a on c) 43 2 false)) ∧ Grow hx h' ∧ k ≤ on) 0 (ai_ ⟨rfl, rfl, rfl, rfl, rfl, rfl, trivial⟩) ⟨⟨aZ_, aD_, an_⟩, aD_, Nat.zero_le _⟩ ?_
   clear w g x0 t17 l17 lx gan b17
   rintro k hc ⟨⟨wc, gc, xc⟩, gx, hk⟩
   have lx := xc.lt
   have gcn := gc.nx
   have gxn := gx.nx
   by_cases hkn : k < on
   · have p : k < ts.length := by omega
     obtain ⟨ad, k1, k3⟩ := cA_ (st.grow gx) Tryz.underlying52 ch_ (i := (k : Int)) hkn rfl
     obtain ⟨ae, m1, m3⟩ := cA_ (s.grow gc) Tryz.underlying41 cw_ (i := (k : Int)) hkn rfl
     obtain ⟨e2, e3, e4⟩ := hall k (by omega) p
     have ou := (st.ok _ (List.getElem_mem (show k < us.length by omega)))
     have hm := (v.tr _ (List.getElem_mem p)).2.2.2.1
     obtain ⟨t, ht⟩ : ∃ t, us[k]'(by omega) = t := ⟨_, rfl⟩
     obtain ⟨t0, ht0⟩ : ∃ t, ts[k]'(by omega) = t := ⟨_, rfl⟩
     rw [ht] at k3 e2 e3 e4 ou
     rw [ht0] at m3 e2 e3 hm
     clear ht ht0
     obtain ⟨hd, hole, sa', tn, tc, tl⟩ := t
     obtain ⟨hd0, hole0, sa0, tn0, tc0, tl0⟩ := t0
     have qf := k3.all
     simp only at e2 e3 e4 hm
     subst e2 e3
     have sou := ou.sl
     simp only at sou
     dsimp only [Trc.cells] at qf
     repeat' (first | with_reducible refine am_ ?_ | ((with_reducible refine al_ ?_); first | ((with_reducible refine ak_ ?_); refine ac_ (ag_ rfl) ?_) | ((with_reducible refine ae_ ?_); refine ac_ (ad_ rfl) ?_) | ((with_reducible refine aw_ ?_); refine ac_ (as_ rfl rfl k1) ?_) | ((with_reducible refine au_ ?_); first | refine ac_ (bJ_ rfl Tryz.underlying58 rfl ch_ qf) ?_ | refine ac_ (bc_ (o := 9) rfl an_ Tryz.underlying45 rfl (by rfl)) ?_) | ((with_reducible refine av_ ?_); refine ac_ (aF_ rfl rfl) ?_) | ((with_reducible refine aC_ ?_); refine ac_ (ax_ rfl Tryz.underlying45) ?_) | ((with_reducible refine ap_ ?_); refine ac_ (aa_ (o := 9) rfl Tryz.underlying47 rfl zs45 rfl) ?_) | ((with_reducible refine aU_ ?_); refine ac_ (aQ_ zz58 ch_ rfl rfl rfl) ?_) | ((with_reducible refine aG_ ?_); refine ci_ (aM_ rfl rfl an_ ch_ rfl rfl rfl rfl) ?_)) | ((with_reducible refine bL_ ?_); ((with_reducible refine bK_ ?_); first | ((with_reducible refine bI_ ?_); refine bn_ (af_ rfl) rfl rfl (aE_ rfl (ag_ rfl)) rfl rfl rfl ?_) | ((with_reducible refine bo_ ?_); refine bn_ (af_ rfl) rfl rfl (aE_ rfl (as_ rfl rfl m1)) rfl rfl rfl ?_) | ((with_reducible refine by_ ?_); first | refine bp_ (af_ rfl) rfl (aE_ rfl (bc_ (o := 8) rfl an_ Tryz.underlying4 rfl (by rfl))) rfl rfl rfl ?_ | refine bp_ (af_ rfl) rfl (aE_ rfl (aI_ rfl Tryz.underlying4 rfl ((m3.grow aD_).get 8 _ rfl))) rfl rfl rfl ?_ | refine bp_ (af_ rfl) rfl (aE_ rfl (aq_ rfl an_ Tryz.underlying41 rfl rfl)) rfl rfl rfl ?_) | ((with_reducible refine xk_bin ?_); refine bn_ (af_ rfl) rfl rfl (aE_ rfl (op_bneqS rfl rfl Tryz.underlying4 rfl)) rfl rfl rfl ?_) | ((with_reducible refine bh_ ?_); first | refine bn_ (af_ rfl) rfl rfl (aE_ rfl (aa_ (o := 1) rfl Tryz.underlying43 rfl cL_ rfl)) rfl rfl rfl ?_ | refine bn_ (af_ rfl) rfl rfl (aE_ rfl (aa_ (o := 8) rfl Tryz.underlying47 rfl zs4 rfl)) rfl rfl rfl ?_) | ((with_reducible refine xk_pick ?_); refine bn_ (af_ rfl) rfl rfl (aE_ rfl (aO_ rfl rfl)) rfl rfl rfl ?_) | ((with_reducible refine xk_g ?_); first | ((with_reducible refine xg_move ?_); refine bn_ (bl_ rfl rfl rfl) rfl rfl (aE_ rfl (ag_ rfl)) rfl rfl rfl ?_) | ((with_reducible refine xg_indexAddr ?_); refine bn_ (bl_ rfl rfl rfl) rfl rfl (aE_ rfl (as_ rfl rfl m1)) rfl rfl rfl ?_) | ((with_reducible refine xg_load ?_); first | refine bp_ (bl_ rfl rfl rfl) rfl (aE_ rfl (bc_ (o := 9) rfl an_ Tryz.underlying45 rfl (by rfl))) rfl rfl rfl ?_ | refine bp_ (bl_ rfl rfl rfl) rfl (aE_ rfl (aI_ rfl Tryz.underlying45 rfl ((m3.grow aD_).get 9 _ rfl))) rfl rfl rfl ?_ | refine bp_ (bl_ rfl rfl rfl) rfl (aE_ rfl (aq_ rfl an_ Tryz.underlying41 rfl rfl)) rfl rfl rfl ?_) | ((with_reducible refine xg_bin ?_); refine bn_ (bl_ rfl rfl rfl) rfl rfl (aE_ rfl (bm_ rfl rfl)) rfl rfl rfl ?_) | ((with_reducible refine xg_callb ?_); refine bn_ (bl_ rfl rfl rfl) rfl rfl (aE_ rfl (ax_ rfl Tryz.underlying45)) rfl rfl rfl ?_) | ((with_reducible refine xg_fieldAddr ?_); first | refine bn_ (bl_ rfl rfl rfl) rfl rfl (aE_ rfl (aa_ (o := 1) rfl Tryz.underlying43 rfl cL_ rfl)) rfl rfl rfl ?_ | refine bn_ (bl_ rfl rfl rfl) rfl rfl (aE_ rfl (aa_ (o := 9) rfl Tryz.underlying47 rfl zs45 rfl)) rfl rfl rfl ?_)) | with_reducible refine bN_ ?_ ?_)) | with_reducible exact bA_ | with_reducible refine bk_ ?_ ?_ | ((with_reducible refine bM_ ?_); first | exact bz_ | refine aB_ rfl rfl (aE_ rfl (bc_ (o := 8) rfl an_ Tryz.underlying4 rfl (by rfl))) ?_ | refine aB_ rfl rfl (aE_ rfl (bc_ (o := 9) rfl an_ Tryz.underlying45 rfl (by rfl))) ?_ | refine aB_ rfl rfl (aE_ rfl (aI_ rfl Tryz.underlying45 rfl ((m3.grow aD_).get 9 _ rfl))) ?_ | refine aB_ rfl rfl (aE_ rfl (aI_ rfl Tryz.underlying4 rfl ((m3.grow aD_).get 8 _ rfl))) ?_ | refine aB_ rfl rfl (aE_ rfl (aq_ rfl an_ Tryz.underlying41 rfl (by rfl))) ?_) | (with_reducible first | refine ah_ ?_ | refine ao_ ?_ | refine ab_ ?_ | refine az_ ?_ | refine at_ ?_) | (refine aK_ rfl (fun hb => ?_) (fun hb => aH_ hb); (try simp only [bj_, reduceCtorEq] at hb)) | (refine aK_ rfl (fun hb => (of_decide_eq_true hb rfl).elim) (fun hb => ?_); (try simp only [bj_, reduceCtorEq] at hb)) | refine br_ (id := 34) 22 [0, 1, 0, 4, 0, 28, 60, 124, 255, 511, 1023, 2047, 4095, 1023, 9215, 1023, 58367, 123903, 254975, 517119, 1048575, 2097151] [0, 1, 2, 3, 4, 5, 6, 7, 8, 9, 10, 11, 12, 13, 14, 15, 16, 17, 18, 19, 20, 21] (by kernel_rfl) (by kernel_rfl) rfl rfl ?_)
     all_goals
       refine bq_ (fun j : Nat => tn - j) (fun j => [(1, .slice oa on oc), (2, .int .i8 z), (3, .pointer (some ⟨h.nx, 0, some 0⟩)), (258, .slice a17 on c17), (259, .int .i64 on), (260, .int .i64 k), (288, .slice sa' tn tc), (289, .int .i64 tn), (290, .int .i64 j)]) (fun j h' => (Wf h' ∧ Grow h h' ∧ At h' h.nx (.cells (shC nm a on c) 43 2 false)) ∧ Grow hx h' ∧ j ≤ tn) 0 (ai_ ⟨rfl, rfl, rfl, rfl, rfl, rfl, rfl, rfl, rfl, trivial⟩) ⟨⟨aZ_, aD_, an_⟩, aD_, Nat.zero_le _⟩ ?_
       clear wc gc xc lx gcn k1 k3 qf m1 m3
       rintro j hd2 ⟨⟨wd, gd, xd⟩, gx2, hj⟩
       by_cases hjn : j < tn
       · obtain ⟨bd, n1, n3⟩ := sl_at (sou.grow gx2) (i := (j : Int)) hjn rfl
         rw [e4 _ (List.getElem_mem _)] at n3
         have o2 := smpW_feq smpE0
         rw [smp0] at o2
         repeat' (first | with_reducible refine am_ ?_ | ((with_reducible refine al_ ?_); first | ((with_reducible refine ak_ ?_); refine ac_ (ag_ rfl) ?_) | ((with_reducible refine ae_ ?_); refine ac_ (ad_ rfl) ?_) | ((with_reducible refine aw_ ?_); refine ac_ (as_ rfl rfl n1) ?_) | ((with_reducible refine au_ ?_); refine ac_ (aI_ rfl Tryz.underlying23 rfl n3) ?_) | ((with_reducible refine av_ ?_); first | refine ac_ (op_fneq rfl rfl o2) ?_ | refine ac_ (aF_ rfl rfl) ?_ | refine ac_ (aR_ rfl rfl (w64 (by omega) (by omega))) ?_)) | (with_reducible first | refine ah_ ?_ | refine ao_ ?_ | refine ab_ ?_ | refine az_ ?_ | refine at_ ?_ | refine aP_ ?_) | refine bs_ rfl ?_ | (refine aK_ rfl (fun hb => ?_) (fun hb => aH_ hb); (try simp only [bj_, reduceCtorEq] at hb)))
         all_goals exact aX_ (j + 1) (by omega) (ai_ ⟨rfl, rfl, rfl, rfl, rfl, rfl, rfl, rfl, rfl, trivial⟩) ⟨⟨aZ_, aD_, an_⟩, aD_, by omega⟩
       · repeat' (first | with_reducible refine am_ ?_ | ((with_reducible refine al_ ?_); first | ((with_reducible refine ak_ ?_); refine ac_ (ag_ rfl) ?_) | ((with_reducible refine av_ ?_); first | refine ac_ (aF_ rfl rfl) ?_ | refine ac_ (aR_ rfl rfl (w64 (by omega) (by omega))) ?_)) | (with_reducible first | refine ah_ ?_ | refine ao_ ?_ | refine ab_ ?_ | refine be_ ?_ | refine aP_ ?_ | refine bf_ ?_ | refine bi_ ?_) | refine bS_ rfl ?_ | (refine aK_ rfl (fun hb => aH_ hb) (fun hb => ?_); (try simp only [bj_, reduceCtorEq] at hb)))
         all_goals exact aX_ (k + 1) (by omega) (ai_ ⟨rfl, rfl, rfl, rfl, rfl, rfl, trivial⟩) ⟨⟨aZ_, aD_, an_⟩, aD_, by omega⟩
   · repeat' (first | with_reducible refine am_ ?_ | ((with_reducible refine al_ ?_); ((with_reducible refine av_ ?_); refine ac_ (aF_ rfl rfl) ?_)) | (with_reducible first | refine ah_ ?_ | refine ao_ ?_ | refine ab_ ?_ | refine be_ ?_ | refine bf_ ?_ | refine bi_ ?_) | refine bS_ rfl ?_ | (refine aK_ rfl (fun hb => aH_ hb) (fun hb => ?_); (try simp only [bj_, reduceCtorEq] at hb)))
     exact ⟨rfl, (), ai_ ⟨rfl, rfl, rfl, trivial⟩, aZ_, aD_, an_⟩
 clear w g x0 t17 s17 hx
 rintro _ ha ⟨w, g, x0⟩
 exact c11c s so v hG hz hin w g x0
end Go.Proofs.YthnnndkfpamacaaGreatDoor
