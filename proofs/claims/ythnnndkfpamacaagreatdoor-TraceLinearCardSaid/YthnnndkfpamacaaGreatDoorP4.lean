/- Shots stacked; what is made, told of copies. -/
import Derived.Test.YthnnndkfpamacaaGreatDoorP2
import Derived.Test.YthnnndkfpamacaaGreatDoorM4
import Derived.Test.YthnnndkfpamacaaGreatDoorP3
import Derived.Test.YthnnndkfpamacaaGreatDoorM6
set_option linter.all false
/- Shots stacked by the reference. -/
namespace Go.Proofs.YthnnndkfpamacaaGreatDoor
open Go Go.Ab Go.Fl
attribute [local irreducible] SeqQ BlkQ LpQ RetQ Wc Wo WD WX Op1 Op1q Op1a Cf Cl From
attribute [local irreducible] Ieee.Format.order Ieee.Format.read Ieee.Format.nearest Ieee.Format.write Ieee.Format.mul Ieee.Format.div Ieee.Datum.order Ieee.Datum.integral smpE smp smpW K J U trE hdrE lchk firstNZ isNameB wid mism shE offs shortB anyLarge spanE folE rngE
set_option maxRecDepth 10000
variable {G : Base} {h : H}
def cntN : List Trc → Nat
 | [] => 0
 | t :: ts => (if t.hole then 0 else 1) + cntN ts
def sumI (i : Nat) : List Trc → Int
 | [] => 0
 | t :: ts => (if t.hole then 0 else (t.l.map smp).getD i 0) + sumI i ts
theorem cntN_app (ts us : List Trc) : cntN (ts ++ us) = cntN ts + cntN us := by
 induction ts with
 | nil => simp [cntN]
 | cons t ts ih => simp only [List.cons_append, cntN, ih]; omega
theorem sumI_app (i : Nat) (ts us : List Trc) : sumI i (ts ++ us) = sumI i ts + sumI i us := by
 induction ts with
 | nil => simp [sumI]
 | cons t ts ih => simp only [List.cons_append, sumI, ih]; omega
theorem cntN_step {ts : List Trc} {k : Nat} (hk : k < ts.length) : cntN (ts.take (k + 1)) = cntN (ts.take k) + if (ts[k]).hole then 0 else 1 := by
 rw [List.take_succ_eq_append_getElem hk, cntN_app]; simp [cntN]
theorem sumI_step {i : Nat} {ts : List Trc} {k : Nat} (hk : k < ts.length) : sumI i (ts.take (k + 1)) = sumI i (ts.take k) + if (ts[k]).hole then 0 else ((ts[k]).l.map smp).getD i 0 := by
 rw [List.take_succ_eq_append_getElem hk, sumI_app]; simp [sumI]
theorem cntN_le (ts : List Trc) : cntN ts ≤ ts.length := by
 induction ts with
 | nil => simp [cntN]
 | cons t ts ih => simp only [cntN, List.length_cons]; split <;> omega
theorem cntN_any (ts : List Trc) : anyW ts = decide (0 < cntN ts) := by
 induction ts with
 | nil => rfl
 | cons t ts ih =>
   unfold anyW cntN
   cases t.hole with
   | true => simp [ih]
   | false => simp; omega
theorem sumI_le {ts : List Trc} {i : Nat} (hv : ∀ t ∈ ts, ∀ x ∈ t.l, smpE x = 0) : (sumI i ts).natAbs ≤ 16384 * cntN ts := by
 induction ts with
 | nil => simp [sumI]
 | cons t ts ih =>
   have := ih fun t ht => hv t (List.mem_cons_of_mem _ ht)
   unfold sumI cntN
   cases t.hole with
   | true => simp; omega
   | false =>
     have hb := getD_bound (l := t.l.map smp) (A := 16384) (fun z hz => by
       obtain ⟨u, hu, rfl⟩ := List.mem_map.1 hz
       exact smp_le (hv t List.mem_cons_self u hu)) i
     simp only [Bool.false_eq_true, if_false]
     omega
theorem rnd_in {a b M : Int} (hb : 0 < b) (h1 : a ≤ M * b) (h2 : -(M * b) ≤ a) : -M ≤ rnd a b ∧ rnd a b ≤ M := by
 unfold rnd
 constructor
 · rw [Int.le_ediv_iff_mul_le (by omega)]
   have : -M * (2 * b) = -(2 * (M * b)) := by rw [Int.neg_mul, Int.mul_left_comm]
   omega
 · have : (2 * a + b) / (2 * b) < M + 1 := by
     rw [Int.ediv_lt_iff_lt_mul (by omega)]
     have : (M + 1) * (2 * b) = 2 * (M * b) + 2 * b := by rw [Int.add_mul, Int.one_mul, Int.mul_left_comm]
     omega
   omega
def stkV (ts : List Trc) (i : Nat) : Int := rnd (sumI i ts) (cntN ts : Nat)
theorem stkV_le {ts : List Trc} {i : Nat} (hv : ∀ t ∈ ts, ∀ x ∈ t.l, smpE x = 0) (hc : 0 < cntN ts) : (stkV ts i).natAbs ≤ 16384 := by
 have h1 := sumI_le (i := i) hv
 have := rnd_in (a := sumI i ts) (b := (cntN ts : Nat)) (M := 16384) (by omega) (by omega) (by omega)
 unfold stkV
 omega
def stkL (ts : List Trc) (W : Nat) : List Int := (List.range W).map (stkV ts)
/- Shots stacked by the program. -/
structure Upd (g : H) (N : Nat) (g' : H) : Prop where
 nx : g.nx ≤ g'.nx
 get : ∀ m, m < g.nx → m ≠ N → g'.get m = g.get m
 wf : Wf g → Wf g'
theorem Upd.refl {g : H} {N : Nat} : Upd g N g := ⟨Nat.le_refl _, fun _ _ _ => rfl, id⟩
theorem Upd.grow {g g' g'' : H} {N : Nat} (u : Upd g N g') (gg : Grow g' g'') : Upd g N g'' := ⟨Nat.le_trans u.nx gg.nx, fun m hm hn => (gg.get m (Nat.lt_of_lt_of_le hm u.nx)).trans (u.get m hm hn), fun w => gg.wf (u.wf w)⟩
theorem Upd.set {g g' : H} {N : Nat} (u : Upd g N g') (hN : N < g'.nx) (o : AObj) : Upd g N (g'.set N o) := ⟨u.nx, fun m hm hn => by rw [H.get_set, if_neg hn]; exact u.get m hm hn, fun w => (u.wf w).set hN o⟩
theorem Upd.at {g g' : H} {N m : Nat} {o : AObj} (u : Upd g N g') (a : At g m o) (hn : m ≠ N) : At g' m o := ⟨Nat.lt_of_lt_of_le a.lt u.nx, (u.get m a.lt hn).trans a.get⟩
theorem Upd.gr {g g' : H} {N : Nat} (u : Upd g N g') (gg : Grow h g) (hN : h.nx ≤ N) : Grow h g' := ⟨Nat.le_trans gg.nx u.nx, fun m hm => (u.get m (Nat.lt_of_lt_of_le hm gg.nx) (by omega)).trans (gg.get m hm), fun w => u.wf (gg.wf w)⟩
theorem wc_name {M : Mc} {ro : Option Nat} {c : Code} {sz : Nat} {l : KL} {g : H} {Q : X → KL → H → Prop} (w : ∀ g1, g1 = g → Wc M ro c sz l g1 Q) : Wc M ro c sz l g Q := w g rfl
def stkC (nm : ByteArray) (ts : List Trc) : Int := if shE nm ts ≠ 0 then shE nm ts else if anyW ts then 0 else 7
def sumT (ts : List Trc) (W k : Nat) : List Int := (List.range W).map fun i => sumI i (ts.take k)
theorem sumT_add {ts : List Trc} {W k : Nat} (hk : k < ts.length) (hh : (ts[k]).hole = false) (hl : (ts[k]).l.length = W) : addF (sumT ts W k) ((ts[k]).l.map smp) = sumT ts W (k + 1) := by
 refine List.ext_getElem (by simp [addF, sumT, hl]) fun i h1 h2 => ?_
 have hi : i < W := by simpa [sumT] using h2
 have e := sumI_step (i := i) hk
 rw [hh, map_getD (show i < (ts[k]).l.length by omega)] at e
 simp [addF, sumT, e]
theorem sumT_hole {ts : List Trc} {W k : Nat} (hk : k < ts.length) (hh : (ts[k]).hole = true) : sumT ts W (k + 1) = sumT ts W k := by
 unfold sumT
 refine List.map_congr_left fun i _ => ?_
 rw [sumI_step hk, hh]
 simp
set_option maxHeartbeats 4000000 in
theorem rnd_each {y : Int} {B1 : Nat} (hy : 0 < y) (hy2 : y ≤ 1024) (a1 : At h B1 (.cells [.int .i64 y] 3 1 false)) : EachOk G h (.func (.func 128) #[] #[.pointer (some ⟨B1, 0, some 0⟩)]) (fun z => z.natAbs ≤ 100000000) (fun z => rnd z y) := by
 intro g z gg hz
 have b1 := a1.grow gg
 have q123 := fun (h' : H) => c124 (G := G) (h := h') (a := z) (b := y) hy (by omega) (by omega)
 refine cf_enter (sz := 7) (rs := [.tmp 3]) (all := [.int .i64 z, .pointer (some ⟨B1, 0, some 0⟩)]) Tryz.func128 rfl rfl rfl rfl rfl ?_
 repeat' (first | with_reducible refine am_ ?_ | ((with_reducible refine al_ ?_); first | ((with_reducible refine ak_ ?_); refine ac_ (ag_ rfl) ?_) | ((with_reducible refine ae_ ?_); refine ac_ (ad_ rfl) ?_) | ((with_reducible refine au_ ?_); refine ac_ (aq_ rfl an_ Tryz.underlying3 rfl rfl) ?_) | ((with_reducible refine aN_ ?_); refine ac_ (aJ_ rfl rfl (q123 _)) ?_)) | (with_reducible first | refine ah_ ?_ | refine ao_ ?_ | refine ab_ ?_ | refine aA_ ?_))
 all_goals exact rq1 rfl ⟨rfl, aD_⟩
set_option maxHeartbeats 4000000 in
theorem c51 {nm : ByteArray} {a : Option Addr} {n c : Nat} {ts : List Trc} (s : SlT G h (.slice a n c) n ts) (hn : n ≤ 65) (hl : ∀ t ∈ ts, t.n < 1000000) (hw : Wf h) (hG : ∀ a v, laidBase a = some v → G a = some v) :
   Cf (mz G) (.func (.func 51) #[] #[]) [.agg ⟨shC nm a n c⟩] h fun r h' => ((stkC nm ts ≠ 0 ∧ r = .tuple #[.slice none 0 0, .int .i64 (stkC nm ts)]) ∨ (stkC nm ts = 0 ∧ ∃ a' c', r = .tuple #[.slice a' (wid ts) c', .int .i64 0] ∧ Sl G h' 1 (.slice a' (wid ts) c') (wid ts) (((stkL ts (wid ts)).map smpW).map (.float .f32)))) ∧ Grow h h' := by
 have hlen := s.len
 have q41 := fun (h' : H) (g : Grow h h') (w : Wf h') => c41 (nm := nm) (s.grow g) (by omega) hl w hG
 have q103 := fun (h' : H) (g : Grow h h') (w : Wf h') => c103 (nm := nm) (s.grow g) (by omega) w
 have hz := fun (q : shE nm ts = 0) => And.intro (valid_facts s q) (shE_ok q)
 unfold stkC
 obtain ⟨E, hE⟩ : ∃ E, shE nm ts = E := ⟨_, rfl⟩
 rw [hE] at q41 hz ⊢
 by_cases hE0 : E ≠ 0
 · rw [if_pos hE0]
   refine ar_ 50 [.tmp 2, .tmp 3] Tryz.func51 rfl rfl rfl rfl ?_
   repeat' (first | with_reducible refine am_ ?_ | ((with_reducible refine al_ ?_); first | ((with_reducible refine ak_ ?_); refine ac_ (ag_ rfl) ?_) | ((with_reducible refine ae_ ?_); refine ac_ (ad_ rfl) ?_) | ((with_reducible refine bw_ ?_); refine ac_ (aL_ rfl cc_ rfl) ?_) | ((with_reducible refine au_ ?_); refine ac_ (ay_ rfl an_ Tryz.underlying54 rfl cc_ rfl rfl) ?_) | ((with_reducible refine av_ ?_); refine ac_ (bm_ rfl rfl) ?_) | ((with_reducible refine aN_ ?_); (refine aW_ rfl rfl rfl rfl (q41 _ aD_ aZ_) rfl rfl ?_; rintro _ _ ⟨rfl, hq⟩; all_goals ((try (have hqn := hq.nx)); (try simp only [bG_] at hqn))))) | (with_reducible first | refine ah_ ?_ | refine ao_ ?_ | refine ab_ ?_ | refine aA_ ?_ | refine bd_ ?_) | (refine aK_ rfl (fun hb => ?_) (fun hb => aH_ hb); (try simp only [bj_, reduceCtorEq] at hb)))
   all_goals exact rq2 rfl rfl ⟨.inl ⟨hE0, rfl⟩, aD_⟩
 have hE0 : E = 0 := by simpa using hE0
 subst hE0
 rw [if_neg (by simp)]
 obtain ⟨⟨v1, v2, v3, v4, v5⟩, k1, k2, k3, k4, k5⟩ := hz rfl
 have hWm := wid_le v3
 have hsv := fun (hc : 0 < cntN ts) (i : Nat) => stkV_le (ts := ts) (i := i) v4 hc
 have hcl := cntN_le ts
 rw [cntN_any ts]
 have hsb := fun (i k : Nat) => sumI_le (ts := ts.take k) (i := i) fun t ht => v4 t (List.mem_of_mem_take ht)
 have hcb := fun (k : Nat) => cntN_le (ts.take k)
 have hlt64 : ∀ k, (ts.take k).length ≤ 64 := fun k => by rw [List.length_take]; omega
 obtain ⟨W, hW⟩ : ∃ W, wid ts = W := ⟨_, rfl⟩
 rw [hW] at q103 k5 hWm ⊢
 clear hW hE
 refine ar_ 50 [.tmp 2, .tmp 3] Tryz.func51 rfl rfl rfl rfl ?_
 repeat' (first | with_reducible refine am_ ?_ | ((with_reducible refine al_ ?_); first | ((with_reducible refine ak_ ?_); refine ac_ (ag_ rfl) ?_) | ((with_reducible refine ae_ ?_); refine ac_ (ad_ rfl) ?_) | ((with_reducible refine cE_ ?_); refine ac_ (op_mkSl rfl rfl Tryz.underlying25 zs3 zb3 zz3 rfl (by omega) (by omega)) ?_) | ((with_reducible refine bw_ ?_); refine ac_ (aL_ rfl cc_ rfl) ?_) | ((with_reducible refine au_ ?_); refine ac_ (ay_ rfl an_ Tryz.underlying54 rfl cc_ rfl rfl) ?_) | ((with_reducible refine av_ ?_); refine ac_ (bm_ rfl rfl) ?_) | ((with_reducible refine aU_ ?_); first | refine ac_ (aQ_ zz25 zs25 rfl rfl rfl) ?_ | refine ac_ (aQ_ zz3 zs3 rfl rfl rfl) ?_) | ((with_reducible refine aG_ ?_); refine ci_ (cn_ rfl rfl an_ rfl zs25 rfl rfl rfl) ?_) | ((with_reducible refine aN_ ?_); first | (refine aW_ rfl rfl rfl rfl (q41 _ aD_ aZ_) rfl rfl ?_; rintro _ _ ⟨rfl, hq⟩; all_goals ((try (have hqn := hq.nx)); (try simp only [bG_] at hqn))) | (refine aW_ rfl rfl rfl rfl (q103 _ aD_ aZ_) rfl rfl ?_; rintro _ _ ⟨rfl, hq⟩; all_goals ((try (have hqn := hq.nx)); (try simp only [bG_] at hqn)))) | ((with_reducible refine ba_ (f := 109) ?_); (refine aW_ rfl rfl rfl rfl (c109) rfl rfl ?_; rintro _ _ ⟨rfl, rfl⟩; all_goals ((try (have hqn := hq.nx)); (try simp only [bG_] at hqn))))) | (with_reducible first | refine ah_ ?_ | refine ao_ ?_ | refine ab_ ?_ | refine az_ ?_ | refine at_ ?_) | refine bs_ rfl ?_)
 refine wc_cut (ι := H) (fun H0 => [(18, .slice (some ⟨H0.nx, 0, some 0⟩) W W), (2, .slice none 0 0), (3, .int .i64 0), (5, .pointer (some ⟨H0.nx + 1, 0, some 0⟩)), (6, .pointer (some ⟨H0.nx + 2, 0, some 0⟩)), (20, whF (H0.nx + 3))])
   (fun H0 h1 => Wf h1 ∧ Grow h h1 ∧ h.nx ≤ H0.nx ∧ H0.nx + 3 < h1.nx ∧ At h1 (H0.nx + 1) (.cells [.slice (some ⟨H0.nx, 0, some 0⟩) W W] 25 1 false) ∧ At h1 (H0.nx + 2) (.cells [.int .i64 0] 3 1 false) ∧ At h1 (H0.nx + 3) (.cells (shC nm a n c) 54 2 false) ∧ At h1 H0.nx (.cells (List.replicate W (.int .i64 0)) 3 1 false)) _ (ai_ ⟨rfl, rfl, rfl, rfl, rfl, rfl, trivial⟩) ⟨aZ_, aD_, by omega, z6_A, (((At.lay lt_A).push _).set_ne ne_A _).push _, (At.lay lt_A).push _, At.new _ _, an_⟩ ?_
 clear hq hqn q41 q103
 rintro H0 h0 ⟨w0, g0, l1, l2, a5, a6, aB, aS⟩
 obtain ⟨N, hN⟩ : ∃ N, H0.nx = N := ⟨_, rfl⟩
 rw [hN] at l1 l2 a5 a6 aB aS ⊢
 clear hN
 have hrep : List.replicate W (Value.int .i64 0) = (sumT ts W 0).map (.int .i64) := by
   refine List.ext_getElem (by simp [sumT]) fun i h1 h2 => ?_
   simp [sumT, sumI]
 rw [hrep] at aS
 have a6 : At h0 (N + 2) (.cells [.int .i64 (cntN (ts.take 0) : Nat)] 3 1 false) := a6
 have hgn0 := g0.nx
 refine cP_ rfl fun ev lp he hlp => ?_
 refine (c160 (nm := nm) (a := a) (c := c) (ts := ts) (fun k g => Wf g ∧ Grow h g ∧ h0.nx + 1 ≤ g.nx ∧ At g (N + 1) (.cells [.slice (some ⟨N, 0, some 0⟩) W W] 25 1 false) ∧ At g (N + 2) (.cells [.int .i64 (cntN (ts.take k) : Nat)] 3 1 false) ∧ At g (N + 3) (.cells (shC nm a n c) 54 2 false) ∧ At g N (.cells ((sumT ts W k).map (.int .i64)) 3 1 false) ∧ At g h0.nx lp)
   (fun _ => False) (by omega) hlen ?_ ?_ ?_ ?_ ?_).mono ?_
 · rintro k g ⟨w, gr, _, _, _, b, _⟩
   exact ⟨b, s.grow gr, w⟩
 · rintro k g g' ⟨w, gr, nx, b1, b2, b3, b4, b5⟩ gg ww
   exact ⟨ww, gr.trans gg, Nat.le_trans nx gg.nx, b1.grow gg, b2.grow gg, b3.grow gg, b4.grow gg, b5.grow gg⟩
 · rintro k g hk ⟨w, gr, nx, b1, b2, b3, b4, b5⟩ hh
   rw [← sumT_hole hk hh] at b4
   have e := cntN_step hk
   rw [hh] at e
   have e : cntN (ts.take (k + 1)) = cntN (ts.take k) := by simpa using e
   rw [← e] at b2
   exact ⟨w, gr, nx, b1, b2, b3, b4, b5⟩
 · rintro k g hk ⟨w, gr, nx, b1, b2, b3, b4, b5⟩ hh
   have hm := List.getElem_mem hk
   have e1 := k5 _ hm hh
   have e2 := v2 _ hm
   have e4 := v4 _ hm
   have ot := s.ok _ hm
   have hst := sumT_add (W := W) hk hh (by omega)
   have e := cntN_step hk
   rw [hh] at e
   have e : cntN (ts.take (k + 1)) = cntN (ts.take k) + 1 := by simpa using e
   have cb := hcb k
   have tb := hlt64 k
   have sb := fun i => hsb i k
   obtain ⟨C, hC⟩ : ∃ C, cntN (ts.take k) = C := ⟨_, rfl⟩
   rw [hC] at b2 cb e
   simp only [hC] at sb
   obtain ⟨X, hX⟩ : ∃ X, sumT ts W k = X := ⟨_, rfl⟩
   have hXb : ∀ x ∈ X, x.natAbs ≤ 16384 * C := fun x hx => by
     rw [← hX] at hx
     obtain ⟨i, _, rfl⟩ := List.mem_map.1 hx
     exact sb i
   have hXl : X.length = W := by rw [← hX]; simp [sumT]
   rw [hX] at b4 hst
   obtain ⟨Y, hY⟩ : ∃ X, sumT ts W (k + 1) = X := ⟨_, rfl⟩
   rw [hY] at hst ⊢
   rw [e]
   clear hX hY hC sb
   obtain ⟨t, ht⟩ : ∃ t, ts[k] = t := ⟨_, rfl⟩
   rw [ht] at e1 e2 e4 ot hst ⊢
   clear hh ht hm
   obtain ⟨hd, hole, sa, tn, tc, tl⟩ := t
   dsimp only [Trc.cells] at e1 e2 e4 hst ⊢
   subst e1
   have osl := ot.sl
   simp only at osl
   have hgn := gr.nx
   have hCm : 16384 * C ≤ 16384 * 64 := Nat.mul_le_mul_left _ (by omega)
   subst hlp
   refine cf_round b5.get he rfl rfl ?_
   repeat' (first | with_reducible refine am_ ?_ | ((with_reducible refine al_ ?_); first | ((with_reducible refine aU_ ?_); refine ac_ (aQ_ zz58 ch_ rfl rfl rfl) ?_) | ((with_reducible refine aG_ ?_); refine ci_ (aM_ rfl rfl an_ ch_ rfl rfl rfl rfl) ?_)) | with_reducible refine ab_ ?_)
   refine ⟨rfl, _, _, _, _, _, At.get (b := h0.nx) (o := .loop .ready none ev _ _ _) an_, ?_⟩
   repeat' (first | with_reducible refine am_ ?_ | ((with_reducible refine al_ ?_); first | ((with_reducible refine ak_ ?_); refine ac_ (ag_ rfl) ?_) | ((with_reducible refine au_ ?_); first | refine ac_ (aq_ rfl an_ Tryz.underlying3 rfl rfl) ?_ | refine ac_ (aq_ rfl an_ Tryz.underlying45 rfl rfl) ?_) | ((with_reducible refine av_ ?_); refine ac_ (aR_ rfl rfl (w64 (by omega) (by omega))) ?_) | ((with_reducible refine aG_ ?_); refine ci_ (cn_ rfl rfl an_ rfl zs25 rfl rfl rfl) ?_) | ((with_reducible refine ap_ ?_); refine ac_ (aa_ (o := 9) rfl Tryz.underlying58 rfl zs45 rfl) ?_) | ((with_reducible refine aC_ ?_); refine ac_ (ax_ rfl Tryz.underlying45) ?_)) | (with_reducible first | refine ah_ ?_ | refine ao_ ?_ | refine ab_ ?_ | refine at_ ?_))
   refine wc_name fun g1 hg1 => ?_
   have u1 : At g1 (N + 1) (.cells [.slice (some ⟨N, 0, some 0⟩) tn tn] 25 1 false) := by rw [hg1]; exact an_
   have u2 : At g1 (N + 2) (.cells [.int .i64 ((C : Int) + 1)] 3 1 false) := by rw [hg1]; exact an_
   have u3 : At g1 (N + 3) (.cells (shC nm a n c) 54 2 false) := by rw [hg1]; exact an_
   have u4 : At g1 N (.cells (X.map (.int .i64)) 3 1 false) := by rw [hg1]; exact an_
   have ug : Grow h g1 := by rw [hg1]; exact aD_
   have uw : Wf g1 := by rw [hg1]; exact aZ_
   have un : h0.nx + 1 ≤ g1.nx := by rw [hg1]; simp only [H.nx_push, H.nx_set]; omega
   have hyl : (tl.map smp).length = tn := by simpa using e2
   have hend := addP_end (l := X) (y := tl.map smp) (by rw [hXl, hyl])
   rw [hst, hXl] at hend
   have hyb : ∀ x ∈ tl.map smp, x.natAbs ≤ 16384 := fun x hx => by
     obtain ⟨y, hy, rfl⟩ := List.mem_map.1 hx
     exact smp_le (e4 y hy)
   refine bq_ (fun i => tn - i) (fun i : Nat => [(5, .pointer (some ⟨N + 1, 0, some 0⟩)), (26, .slice sa tn tc), (27, .int .i64 tn), (28, .int .i64 (i : Nat))]) (fun i g2 => Upd g1 N g2 ∧ At g2 N (.cells ((addP X (tl.map smp) i).map (.int .i64)) 3 1 false) ∧ i ≤ tn) 0 (ai_ ⟨rfl, rfl, rfl, rfl, trivial⟩) ⟨.refl, by rw [addP_zero]; exact u4, Nat.zero_le _⟩ ?_
   rintro i g2 ⟨up, hat, hi⟩
   have g2g := up.gr ug l1
   have g2n := up.nx
   have p1 := up.at u1 (by omega)
   have lN := hat.lt
   by_cases hlt : i < tn
   · have hil : i < tl.length := by omega
     obtain ⟨adz, z1, z2⟩ := osl.addr (M := mz G) Tryz.underlying45 (es := 1) zs23 (i := (i : Int)) (k := .i64) (by omega) (by omega)
     have qz := fun (g : H) (gg : Grow h g) => (z2.grow gg).get 0 (.float .f32 tl[i]) (by simp)
     have q1 := addP_get (l := X) (y := tl.map smp) (k := i) (by omega)
     have q2 := addP_step (l := X) (y := tl.map smp) (k := i) (by omega)
     have q3 := getD_bound hXb i
     have hz0 := e4 _ (List.getElem_mem hil)
     rw [map_getD hil] at q2
     obtain ⟨z, hz⟩ : ∃ z, tl[i] = z := ⟨_, rfl⟩
     rw [hz] at hz0 q2
     simp only [hz] at qz
     have bz := smp_le hz0
     obtain ⟨x, hx⟩ : ∃ x, X.getD i 0 = x := ⟨_, rfl⟩
     rw [hx] at q1 q2 q3
     have hlenP : ((addP X (tl.map smp) i).map (Value.int .i64)).length = tn := by simp [addP, hXl]
     have q125 := fun (h' : H) => c126 (G := G) (h := h') hz0
     have hadd : IntKind.wrap .i64 (x + smp z) = x + smp z := w64 (by omega) (by omega)
     repeat' (first | with_reducible refine am_ ?_ | ((with_reducible refine al_ ?_); first | ((with_reducible refine ak_ ?_); refine ac_ (ag_ rfl) ?_) | ((with_reducible refine ae_ ?_); refine ac_ (ad_ rfl) ?_) | ((with_reducible refine aw_ ?_); refine ac_ (as_ rfl rfl z1) ?_) | ((with_reducible refine au_ ?_); refine ac_ (aI_ rfl Tryz.underlying23 rfl (qz _ aD_)) ?_) | ((with_reducible refine av_ ?_); first | refine ac_ (aR_ rfl rfl (w64 (by omega) (by omega))) ?_ | refine ac_ (aF_ rfl rfl) ?_)) | ((with_reducible refine bL_ ?_); ((with_reducible refine bK_ ?_); first | ((with_reducible refine bI_ ?_); refine bn_ (af_ rfl) rfl rfl (aE_ rfl (ag_ rfl)) rfl rfl rfl ?_) | ((with_reducible refine bo_ ?_); refine bn_ (af_ rfl) rfl rfl (aE_ rfl (bF_ (b := N) (o := i) rfl rfl Tryz.underlying25 zs3 (by omega) (by omega) (by omega))) rfl rfl rfl ?_) | ((with_reducible refine by_ ?_); first | refine bp_ (af_ rfl) rfl (aE_ rfl (bc_ (b := N) rfl an_ Tryz.underlying3 rfl q1)) rfl rfl rfl ?_ | refine bp_ (af_ rfl) rfl (aE_ rfl (aq_ rfl an_ Tryz.underlying25 rfl rfl)) rfl rfl rfl ?_) | ((with_reducible refine xk_bin ?_); refine bn_ (af_ rfl) rfl rfl (aE_ rfl (aR_ rfl rfl hadd)) rfl rfl rfl ?_) | ((with_reducible refine cf_ ?_); refine wx_ee0 (af_ rfl) rfl rfl (cC_ (b := N) rfl rfl an_ rfl zs3 (by omega) rfl q2) rfl ?_) | ((with_reducible refine bH_ ?_); refine wx_ee (af_ rfl) rfl rfl (aJ_ rfl rfl (q125 _)) rfl rfl ?_) | with_reducible refine bN_ ?_ ?_)) | with_reducible exact bA_ | with_reducible refine bk_ ?_ ?_ | ((with_reducible refine bM_ ?_); first | exact bz_ | refine bx_ rfl ?_ | refine aB_ rfl rfl (aE_ rfl (bc_ (b := N) rfl an_ Tryz.underlying3 rfl q1)) ?_ | refine aB_ rfl rfl (aE_ rfl (aq_ rfl an_ Tryz.underlying25 rfl (by rfl))) ?_) | (with_reducible first | refine ah_ ?_ | refine ao_ ?_ | refine ab_ ?_ | refine az_ ?_ | refine at_ ?_ | refine aP_ ?_) | (refine aK_ rfl (fun hb => ?_) (fun hb => aH_ hb); (try simp only [bj_, reduceCtorEq] at hb)) | refine br_ (id := 12) 9 [0, 0, 3, 7, 0, 16, 63, 127, 255] [0, 1, 2, 3, 4, 5, 6, 7, 8] (by kernel_rfl) (by kernel_rfl) rfl rfl ?_)
     all_goals exact aX_ (i + 1) (by omega) (ai_ ⟨rfl, rfl, rfl, rfl, trivial⟩) ⟨(up.grow ((Grow.refl _).bumpB _)).set (by simp only [H.nx_bump]; omega) _, an_, by omega⟩
   · have hie : i = tn := by omega
     subst hie
     rw [hend] at hat
     have p2 := up.at u2 (by omega)
     have p3 := up.at u3 (by omega)
     have w2 := up.wf uw
     repeat' (first | with_reducible refine am_ ?_ | ((with_reducible refine al_ ?_); ((with_reducible refine av_ ?_); refine ac_ (aF_ rfl rfl) ?_)) | (with_reducible first | refine ah_ ?_ | refine ao_ ?_ | refine ab_ ?_ | refine be_ ?_ | refine aP_ ?_ | refine bf_ ?_ | refine bi_ ?_) | refine bS_ rfl ?_ | (refine aK_ rfl (fun hb => aH_ hb) (fun hb => ?_); (try simp only [bj_, reduceCtorEq] at hb)))
     have hC1 : ((C : Int) + 1) = ((C + 1 : Nat) : Int) := by omega
     rw [hC1] at p2
     exact ⟨_, _, _, _, _, _, At.get (b := h0.nx) (o := .loop .busy none ev _ _ _) (up.at (by rw [hg1]; exact an_) (by omega)), .inl ⟨rfl, aZ_, aD_, (by simp only [H.nx_set]; omega), an_, an_, an_, an_, an_⟩⟩
 · exact ⟨aZ_, aD_, (by simp only [H.nx_push]; omega), an_, an_, an_, an_, an_⟩
 · rintro _ g (⟨w, gr, nx, b1, b2, b3, b4, b5⟩ | hf)
   · subst hlp
     refine ⟨_, _, _, _, _, _, b5.get, by simp, ?_⟩
     rw [← hlen, List.take_length] at b2
     have hs4 : sumT ts W n = (List.range W).map fun i => sumI i ts := by unfold sumT; rw [← hlen, List.take_length]
     rw [hs4] at b4
     obtain ⟨L, hL⟩ : ∃ L, (List.range W).map (fun i => sumI i ts) = L := ⟨_, rfl⟩
     have hLl : L.length = W := by rw [← hL]; simp
     have sb := fun i => hsb i n
     rw [← hlen, List.take_length] at sb
     have hLb : ∀ x ∈ L, x.natAbs ≤ 100000000 := fun x hx => by
       rw [← hL] at hx
       obtain ⟨i, _, rfl⟩ := List.mem_map.1 hx
       have := sb i
       have : 16384 * cntN ts ≤ 16384 * 64 := Nat.mul_le_mul_left _ (by omega)
       omega
     have hLr : L.map (fun z => rnd z (cntN ts : Nat)) = stkL ts W := by rw [← hL, List.map_map]; rfl
     rw [hL] at b4
     by_cases hc : 0 < cntN ts
     · have hnl : ∀ x ∈ stkL ts W, x.natAbs ≤ 16384 := fun x hx => by
         obtain ⟨i, _, rfl⟩ := List.mem_map.1 hx
         exact hsv hc i
       have hSl : (stkL ts W).length = W := by simp [stkL]
       rw [decide_eq_true hc, if_pos rfl]
       have q121 := fun (g' : H) (p4 : At g' N (.cells (L.map (.int .i64)) 3 1 false)) (p2 : At g' (N + 2) (.cells [.int .i64 (cntN ts : Nat)] 3 1 false)) (w' : Wf g') => c122 (G := G) (l := L) (n := W) (v := .slice (some ⟨N, 0, some 0⟩) W W) (Sl.ofAt p4 (by simp [hLl]) (Nat.le_refl _)) (by omega) hLb (rnd_each (y := (cntN ts : Nat)) (by omega) (by omega) p2) w'
       simp only [hLr] at q121
       have q126 := fun (g' : H) (b : Nat) (at' : At g' b (.cells ((stkL ts W).map (.int .i64)) 3 1 false)) (w' : Wf g') => (c127o (G := G) (v := .slice (some ⟨b, 0, some 0⟩) W W) (Sl.ofAt at' (by simp [hSl]) (Nat.le_refl _)) (by omega) w' (fun x hx => by have := hnl x hx; omega)).mono
         (Q' := fun r h' => (r = .tuple #[.slice (some ⟨g'.nx, 0, some 0⟩) W W, .int .i64 0] ∧ At h' g'.nx (.cells (((stkL ts W).map smpW).map (.float .f32)) 23 1 false)) ∧ Grow g' h') fun r h' ⟨q, g⟩ => ⟨by
           rcases q with ⟨q, _⟩ | ⟨_, q⟩
           · rw [notLarge hnl] at q; cases q
           · exact q, g⟩
       have hci : (cntN ts : Int) ≠ 0 := by omega
       repeat' (first | with_reducible refine am_ ?_ | ((with_reducible refine al_ ?_); first | ((with_reducible refine ae_ ?_); refine ac_ (ad_ rfl) ?_) | ((with_reducible refine ik_makeFunc ?_); refine ac_ (op_makeFunc (fun _ q => by cases q) rfl rfl) ?_) | ((with_reducible refine au_ ?_); first | refine ac_ (aq_ rfl an_ Tryz.underlying3 rfl rfl) ?_ | refine ac_ (aq_ rfl an_ Tryz.underlying25 rfl rfl) ?_) | ((with_reducible refine av_ ?_); refine ac_ (cM_ rfl rfl) ?_) | ((with_reducible refine bR_ ?_); refine ac_ (bD_ rfl rfl) ?_) | ((with_reducible refine aN_ ?_); first | (refine aW_ rfl rfl rfl rfl (q121 _ an_ an_ aZ_) rfl rfl ?_; rintro _ _ ⟨⟨rfl, hatI⟩, hq⟩; all_goals ((try (have hqn := hq.nx)); (try simp only [bG_] at hqn))) | (refine aW_ rfl rfl rfl rfl (q126 _ _ hatI aZ_) rfl rfl ?_; rintro _ _ ⟨⟨rfl, hatJ⟩, hq⟩; all_goals ((try (have hqn := hq.nx)); (try simp only [bG_] at hqn))))) | (with_reducible first | refine ah_ ?_ | refine ao_ ?_ | refine ab_ ?_ | refine az_ ?_ | refine aA_ ?_ | refine aP_ ?_) | (refine aK_ rfl (fun hb => aH_ hb) (fun hb => ?_); (try simp only [bj_, reduceCtorEq] at hb)))
       all_goals exact rq2 rfl rfl ⟨.inr ⟨by first | rfl | trivial, _, _, rfl, Sl.ofAt hatJ (by simp [hSl]) (Nat.le_refl _)⟩, aD_⟩
     · have hc0 : cntN ts = 0 := by omega
       rw [hc0] at b2 ⊢
       repeat' (first | with_reducible refine am_ ?_ | ((with_reducible refine al_ ?_); first | ((with_reducible refine ae_ ?_); refine ac_ (ad_ rfl) ?_) | ((with_reducible refine au_ ?_); refine ac_ (aq_ rfl an_ Tryz.underlying3 rfl rfl) ?_) | ((with_reducible refine av_ ?_); refine ac_ (cM_ rfl rfl) ?_)) | (with_reducible first | refine ah_ ?_ | refine ao_ ?_ | refine ab_ ?_ | refine aA_ ?_ | refine aP_ ?_ | refine bd_ ?_) | refine bP_ rfl ?_)
       all_goals exact rq2 rfl rfl ⟨.inl ⟨by decide, rfl⟩, aD_⟩
   · exact hf.elim
end Go.Proofs.YthnnndkfpamacaaGreatDoor
/- What sums, scaled and delayed shots and stacks are, told of copies and of the reference. -/
namespace Go.Proofs.YthnnndkfpamacaaGreatDoor
open Go Go.Ab Go.Fl
variable {G : Base} {h : H}
attribute [local irreducible] smpE smp smpW isNameB rngE anyLarge Ieee.Format.order
open Classical in
noncomputable def chC (E : Int) (F : Nat → List Int → List Int) (ms : List Trc) : Int := if E ≠ 0 then E else if ChBad F ms then 4 else 0
theorem chC_E {E : Int} {F : Nat → List Int → List Int} {ms : List Trc} (h : E ≠ 0) : chC E F ms = E := by unfold chC; rw [if_pos h]
theorem chC_bad {F : Nat → List Int → List Int} {ms : List Trc} (h : ChBad F ms) : chC 0 F ms = 4 := by unfold chC; rw [if_neg (by simp), if_pos h]
theorem chC_ok {F : Nat → List Int → List Int} {ms : List Trc} (h : ¬ ChBad F ms) : chC 0 F ms = 0 := by unfold chC; rw [if_neg (by simp), if_neg h]
theorem chBad_keys {F : Nat → List Int → List Int} {us ms : List Trc} (q : us.map Trc.key = ms.map Trc.key) (b : ChBad F us) : ChBad F ms := by
 obtain ⟨i, h1, hh, hl⟩ := b
 have e : us.length = ms.length := by simpa using congrArg List.length q
 obtain ⟨_, e2, _, e4⟩ := cD_ (keys_at q h1 (by omega))
 exact ⟨i, by omega, by rw [← e2]; exact hh, by rw [← e4]; exact hl⟩
theorem chC_keys {E : Int} {F : Nat → List Int → List Int} {us ms : List Trc} (q : us.map Trc.key = ms.map Trc.key) : chC E F us = chC E F ms := by
 by_cases h1 : E = 0
 · subst h1
   by_cases b : ChBad F us
   · rw [chC_bad b, chC_bad (chBad_keys q b)]
   · rw [chC_ok b, chC_ok fun b' => b (chBad_keys q.symm b')]
 · rw [chC_E h1, chC_E h1]
abbrev ZK (F : Nat → List Int → List Int) (ms : List Trc) : List Trc → Prop := fun vs => KeyAll vs ms (chKey F)
theorem chR_made {h' : H} {nm : ByteArray} {n : Nat} {E : Int} {F : Nat → List Int → List Int} {ms us : List Trc} {r : Value} (q : ChR h nm n E F us r h') (hk : us.map Trc.key = ms.map Trc.key) (hl : E = 0 → ms.length = n) : ∃ nmR aR nR cR, r = .tuple #[.agg ⟨shC nmR aR nR cR⟩, .int .i64 (chC E F ms)] ∧ MadeR G h' (chC E F ms) nm n (ZK F ms) nmR aR nR cR := by
 rw [← chC_keys hk]
 rcases q with ⟨h1, rfl⟩ | ⟨rfl, b, rfl⟩ | ⟨rfl, b, B, vs, rfl, _, hat, hvs, ka⟩
 · rw [chC_E h1]
   exact ⟨.empty, none, 0, 0, rfl, .inl ⟨h1, rfl, rfl, rfl, rfl⟩⟩
 · rw [chC_bad b]
   exact ⟨.empty, none, 0, 0, rfl, .inl ⟨by decide, rfl, rfl, rfl, rfl⟩⟩
 · rw [chC_ok b]
   have e : us.length = ms.length := by simpa using congrArg List.length hk
   have hvl : vs.length = n := by rw [keyAll_len ka, e, hl rfl]
   exact ⟨nm, some ⟨B, 0, some 0⟩, n, n, rfl, .inr ⟨rfl, rfl, rfl, vs, ⟨Sl.ofAt hat (by rw [bY_, hvl]) (Nat.le_refl _), hvl, fun t ht => (hvs t ht).ok⟩, keyAll_keys hk (fun i t u e => chKey_key _ i t u e) ka⟩⟩
theorem keys_anyW : ∀ {ts us : List Trc}, us.map Trc.key = ts.map Trc.key → anyW us = anyW ts
 | [], [], _ => rfl
 | t :: ts, u :: us, q => by
   obtain ⟨q1, q2⟩ := keys_cons q
   unfold anyW
   rw [(cD_ q1).2.1, keys_anyW q2]
 | [], _ :: _, q => by simp at q
 | _ :: _, [], q => by simp at q
theorem keys_hdM : ∀ {ts us ts' us' : List Trc}, us.map Trc.key = ts.map Trc.key → us'.map Trc.key = ts'.map Trc.key → hdM us us' = hdM ts ts'
 | [], [], _, _, _, _ => by unfold hdM; rfl
 | t :: ts, u :: us, [], [], _, _ => by unfold hdM; rfl
 | t :: ts, u :: us, t' :: ts', u' :: us', q, q' => by
   obtain ⟨q1, q2⟩ := keys_cons q
   obtain ⟨q3, q4⟩ := keys_cons q'
   unfold hdM
   rw [(cD_ q1).1, (cD_ q3).1, keys_hdM q2 q4]
 | [], _ :: _, _, _, q, _ => by simp at q
 | _ :: _, [], _, _, q, _ => by simp at q
 | _ :: _, _ :: _, [], _ :: _, _, q => by simp at q
 | _ :: _, _ :: _, _ :: _, [], _, q => by simp at q
theorem keys_alkE {ts us ts' us' : List Trc} (q : us.map Trc.key = ts.map Trc.key) (q' : us'.map Trc.key = ts'.map Trc.key) : alkE us us' = alkE ts ts' := by
 have hl : us.length = ts.length := by simpa using congrArg List.length q
 have hl' : us'.length = ts'.length := by simpa using congrArg List.length q'
 unfold alkE
 rw [hl, hl', keys_anyW q, keys_anyW q', keys_wid q, keys_wid q', keys_hdM q q']
theorem mrgF_keys {f : List Int → List Int → List Int} {us ts : List Trc} (q : us.map Trc.key = ts.map Trc.key) : mrgF f us = mrgF f ts := by
 funext i l
 unfold mrgF
 rw [keys_getL q]
theorem c48m {nm nm' : ByteArray} {a a' : Option Addr} {n m c c' : Nat} {ts us ts' us' : List Trc} (st : SlT G h (.slice a n c) n us) (st' : SlT G h (.slice a' m c') m us') (q : us.map Trc.key = ts.map Trc.key) (q' : us'.map Trc.key = ts'.map Trc.key) (hn : n ≤ 65) (hm : m ≤ 65) (hl : ∀ t ∈ ts, t.n < 1000000) (hl' : ∀ t ∈ ts', t.n < 1000000) (hw : Wf h) (hG : ∀ a v, laidBase a = some v → G a = some v) :
   Cf (mz G) (.func (.func 48) #[] #[]) [.agg ⟨shC nm a n c⟩, .agg ⟨shC nm' a' m c'⟩] h fun r h' => (∃ nmR aR nR cR, r = .tuple #[.agg ⟨shC nmR aR nR cR⟩, .int .i64 (chC (sumC nm ts nm' ts') (mrgF addF ts') (mskL ts ts'))] ∧ MadeR G h' (chC (sumC nm ts nm' ts') (mrgF addF ts') (mskL ts ts')) nm n (ZK (mrgF addF ts') (mskL ts ts')) nmR aR nR cR) ∧ Grow h h' := by
 refine (c48 (nm := nm) (nm' := nm') st st' hn hm (keys_n q hl) (keys_n q' hl') hw hG).mono fun r h' ⟨p, g⟩ => ⟨?_, g⟩
 have hs : sumC nm us nm' us' = sumC nm ts nm' ts' := by unfold sumC; rw [keys_shE q, keys_shE q', keys_alkE q q']
 rw [hs, mrgF_keys q'] at p
 refine chR_made p (keys_msk q q') fun e => ?_
 have hz := (first3_zero e).2.2
 have e1 := (alkE_ok hz).1
 have hu : us.length = ts.length := by simpa using congrArg List.length q
 rw [mskL_len e1, ← hu, st.len]
theorem c49m {nm : ByteArray} {a : Option Addr} {n c : Nat} {ts us : List Trc} {x y : Int} (st : SlT G h (.slice a n c) n us) (q : us.map Trc.key = ts.map Trc.key) (hn : n ≤ 65) (hl : ∀ t ∈ ts, t.n < 1000000) (hw : Wf h) (hG : ∀ a v, laidBase a = some v → G a = some v) :
   Cf (mz G) (.func (.func 49) #[] #[]) [.agg ⟨shC nm a n c⟩, .int .i64 x, .int .i64 y] h fun r h' => (∃ nmR aR nR cR, r = .tuple #[.agg ⟨shC nmR aR nR cR⟩, .int .i64 (chC (sclC nm ts x y) (sclF x y) ts)] ∧ MadeR G h' (chC (sclC nm ts x y) (sclF x y) ts) nm n (ZK (sclF x y) ts) nmR aR nR cR) ∧ Grow h h' := by
 refine (c49 (nm := nm) (x := x) (y := y) st hn (keys_n q hl) hw hG).mono fun r h' ⟨p, g⟩ => ⟨?_, g⟩
 have hs : sclC nm us x y = sclC nm ts x y := by unfold sclC; rw [keys_shE q]
 rw [hs] at p
 have hu : us.length = ts.length := by simpa using congrArg List.length q
 exact chR_made p q fun _ => by rw [← hu, st.len]
theorem c50m {nm : ByteArray} {a : Option Addr} {n c : Nat} {ts us : List Trc} {x : Int} (st : SlT G h (.slice a n c) n us) (q : us.map Trc.key = ts.map Trc.key) (hn : n ≤ 65) (hl : ∀ t ∈ ts, t.n < 1000000) (hw : Wf h) (hG : ∀ a v, laidBase a = some v → G a = some v) :
   Cf (mz G) (.func (.func 50) #[] #[]) [.agg ⟨shC nm a n c⟩, .int .i64 x] h fun r h' => (∃ nmR aR nR cR, r = .tuple #[.agg ⟨shC nmR aR nR cR⟩, .int .i64 (chC (dlyC nm ts x) (dlyF x) ts)] ∧ MadeR G h' (chC (dlyC nm ts x) (dlyF x) ts) nm n (ZK (dlyF x) ts) nmR aR nR cR) ∧ Grow h h' := by
 refine (c50 (nm := nm) (x := x) st hn (keys_n q hl) hw hG).mono fun r h' ⟨p, g⟩ => ⟨?_, g⟩
 have hs : dlyC nm us x = dlyC nm ts x := by unfold dlyC; rw [keys_shE q]
 rw [hs] at p
 have hu : us.length = ts.length := by simpa using congrArg List.length q
 exact chR_made p q fun _ => by rw [← hu, st.len]
theorem sumI_keys {i : Nat} : ∀ {ts us : List Trc}, us.map Trc.key = ts.map Trc.key → sumI i us = sumI i ts
 | [], [], _ => rfl
 | t :: ts, u :: us, q => by
   obtain ⟨q1, q2⟩ := keys_cons q
   obtain ⟨_, e2, _, e4⟩ := cD_ q1
   unfold sumI
   rw [e2, e4, sumI_keys q2]
 | [], _ :: _, q => by simp at q
 | _ :: _, [], q => by simp at q
theorem cntN_keys : ∀ {ts us : List Trc}, us.map Trc.key = ts.map Trc.key → cntN us = cntN ts
 | [], [], _ => rfl
 | t :: ts, u :: us, q => by
   obtain ⟨q1, q2⟩ := keys_cons q
   unfold cntN
   rw [(cD_ q1).2.1, cntN_keys q2]
 | [], _ :: _, q => by simp at q
 | _ :: _, [], q => by simp at q
def HeardR (G : Base) (h : H) (C : Int) (l : List Nat) (v : Value) : Prop := (C ≠ 0 ∧ v = .slice none 0 0) ∨ (C = 0 ∧ Sl G h 1 v l.length (l.map (.float .f32)))
theorem HeardR.grow {h' : H} {C : Int} {l : List Nat} {v : Value} (m : HeardR G h C l v) (g : Grow h h') : HeardR G h' C l v := m.imp id fun ⟨e, s⟩ => ⟨e, s.grow g⟩
theorem HeardR.setF {B : Nat} {C : Int} {l : List Nat} {v : Value} (m : HeardR G h C l v) (hf : Free h B) (o : AObj) : HeardR G (h.set B o) C l v := m.imp id fun ⟨e, s⟩ => ⟨e, Sl.setF s hf (by decide) o⟩
theorem HeardR.form {C : Int} {l : List Nat} {v : Value} (m : HeardR G h C l v) : ∃ a n c, v = .slice a n c := by
 rcases m with ⟨_, rfl⟩ | ⟨_, s⟩
 · exact ⟨_, _, _, rfl⟩
 · obtain ⟨a, c, e⟩ := s.form; exact ⟨a, _, c, e⟩
theorem c51m {nm : ByteArray} {a : Option Addr} {n c : Nat} {ts us : List Trc} (st : SlT G h (.slice a n c) n us) (q : us.map Trc.key = ts.map Trc.key) (hn : n ≤ 65) (hl : ∀ t ∈ ts, t.n < 1000000) (hw : Wf h) (hG : ∀ a v, laidBase a = some v → G a = some v) :
   Cf (mz G) (.func (.func 51) #[] #[]) [.agg ⟨shC nm a n c⟩] h fun r h' => (∃ a' n' c', r = .tuple #[.slice a' n' c', .int .i64 (stkC nm ts)] ∧ HeardR G h' (stkC nm ts) ((stkL ts (wid ts)).map smpW) (.slice a' n' c')) ∧ Grow h h' := by
 refine (c51 (nm := nm) st hn (keys_n q hl) hw hG).mono fun r h' ⟨p, g⟩ => ⟨?_, g⟩
 have hs : stkC nm us = stkC nm ts := by unfold stkC; rw [keys_shE q, keys_anyW q]
 have hL : stkL us (wid us) = stkL ts (wid ts) := by
   unfold stkL
   rw [keys_wid q]
   refine List.map_congr_left fun i _ => ?_
   unfold stkV
   rw [sumI_keys q, cntN_keys q]
 rw [hs, hL, keys_wid q] at p
 rcases p with ⟨h1, rfl⟩ | ⟨h1, a', c', rfl, sl⟩
 · exact ⟨none, 0, 0, rfl, .inl ⟨h1, rfl⟩⟩
 · exact ⟨a', _, c', by rw [h1], .inr ⟨h1, by rw [show ((stkL ts (wid ts)).map smpW).length = wid ts by simp [stkL]]; exact sl⟩⟩
end Go.Proofs.YthnnndkfpamacaaGreatDoor
