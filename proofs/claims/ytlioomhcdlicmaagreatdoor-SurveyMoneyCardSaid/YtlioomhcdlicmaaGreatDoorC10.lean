/- Survey: the diary by the program; what entries are. -/
import Derived.Test.YtlioomhcdlicmaaGreatDoorC9
set_option linter.all false
/- Survey: the diary by the program. -/
namespace Go.Proofs.YtlioomhcdlicmaaGreatDoor
open Go Go.Ab Go.Fl
attribute [local irreducible] SeqQ BlkQ LpQ RetQ Wc Wo WD WX Op1 Op1q Op1a Cf Cl From
attribute [local irreducible] Ieee.Format.order Ieee.Format.read Ieee.Format.nearest Ieee.Format.write Ieee.Format.mul Ieee.Format.div Ieee.Format.sqrt Ieee.Datum.order Ieee.Datum.integral K U rngE errN ptE firstNZ vesE watE sgE sgsE allE hitB sqD insB qsL lvl rn rl altB cauS
set_option maxRecDepth 10000
variable {G : Base} {h : H}
attribute [local irreducible] fl silN insN levN inL leL
structure En where
 f : Int
 t : Int
 c : ByteArray
@[reducible] def En.cells (p : En) : List Value := [.int .i64 p.f, .int .i64 p.t, .string p.c]
theorem En.len (p : En) : p.cells.length = 3 := rfl
theorem En.flat {l : List En} : (l.flatMap En.cells).length = l.length * 3 := flat_len En.len l
def cawB (cl so : Int) (I : Nat → Bool) (L M : List Spn) (k : Nat) : ByteArray := cauS (M.any (inP (k : Int))) (L.any (inP (k : Int))) (decide (lvl cl so (qt I (k + 1) : Int) = 0))
def enW (W : Nat → ByteArray) (s : Spn) : En := ⟨s.f, s.t, W s.f.toNat⟩
def diL (W : Nat → ByteArray) (T : Nat) : List En := (rl (altB W) T).map (enW W)
def diaL (E : Int) (D : List En) : List En := if E ≠ 0 then [] else if 64 < D.length then [] else D
def diaE (E : Int) (D : List En) : Int := if E ≠ 0 then E else if 64 < D.length then 5 else 0
set_option maxHeartbeats 4000000 in
theorem c139 {A b T : Nat} {W : Nat → ByteArray} {s : Spn} (hf : 0 ≤ s.f ∧ s.f < T) (hT : T < 1000000) (hA : At h A (.cells [.slice (some ⟨b, 0, some 0⟩) T T] 25 1 false)) (hb : At h b (.cells (((List.range T).map W).map Value.string) 9 1 false)) (hw : Wf h) :
   Cf (mz G) (.func (.func 139) #[] #[.pointer (some ⟨A, 0, some 0⟩)]) [.agg ⟨s.cells⟩] h fun r h' => r = .agg ⟨(enW W s).cells⟩ ∧ Grow h h' := by
 obtain ⟨f, t⟩ := s
 obtain ⟨n, rfl⟩ : ∃ n : Nat, f = n := ⟨f.toNat, by simp only at hf; omega⟩
 simp only at hf
 have e : (enW W ⟨(n : Nat), t⟩).cells = [.int .i64 (n : Nat), .int .i64 t, .string (W n)] := by unfold enW; simp
 rw [e]
 obtain ⟨id, i1, i3⟩ := in_atV Value.string .empty (Sl.ofAt (G := G) hb (by simp) (Nat.le_refl T)) Tryz.underlying25 zs9 (i := (n : Int)) (q := n) (by omega) rfl
 rw [wL_get (by omega)] at i3
 generalize W n = x at i3
 dsimp only [Spn.cells]
 have lA := hA.lt
 clear hb e
 refine ch_ (sz := 11) (rs := [.cell 3 133]) (all := [.agg ⟨[.int .i64 (n : Nat), .int .i64 t]⟩, .pointer (some ⟨A, 0, some 0⟩)]) Tryz.func139 rfl rfl rfl rfl rfl ?_
 repeat' (first | with_reducible refine ad_ ?_ | ((with_reducible refine ac_ ?_); refine ao_ ?_) | ((with_reducible refine bb_ ?_); ((with_reducible refine bd_ ?_); first | ((with_reducible refine aT_ ?_); refine aH_ (aa_ rfl) rfl rfl (ar_ rfl (ag_ rfl rfl i1)) rfl rfl rfl ?_) | ((with_reducible refine aZ_ ?_); first | refine aO_ (aa_ rfl) rfl (ar_ rfl (az_ rfl Tryz.underlying9 rfl (i3 _ au_))) rfl rfl rfl ?_ | refine aO_ (aa_ rfl) rfl (ar_ rfl (aj_ rfl ah_ Tryz.underlying79 rfl zs79 rfl rfl)) rfl rfl rfl ?_ | refine aO_ (aa_ rfl) rfl (ar_ rfl (ae_ rfl ah_ Tryz.underlying25 rfl rfl)) rfl rfl rfl ?_ | refine aO_ (aa_ rfl) rfl (ar_ rfl (ae_ rfl ah_ Tryz.underlying3 rfl rfl)) rfl rfl rfl ?_) | ((with_reducible refine aC_ ?_); refine aH_ (aa_ rfl) rfl rfl (ar_ rfl (ab_ (o := 0) rfl Tryz.underlying79 rfl zs3 rfl)) rfl rfl rfl ?_) | ((with_reducible refine xk_build ?_); refine aH_ (aa_ rfl) rfl rfl (ar_ rfl (op_buildT rfl zz133 zp133 rfl rfl)) rfl rfl rfl ?_) | ((with_reducible refine bN_ ?_); refine wx_ee0 (aa_ rfl) rfl rfl (aB_ rfl rfl ah_ bt_ rfl rfl rfl rfl) rfl ?_) | with_reducible refine bj_ ?_ ?_)) | with_reducible exact aP_ | with_reducible refine aJ_ ?_ ?_ | ((with_reducible refine bi_ ?_); first | exact aS_ | refine aQ_ rfl ?_ | refine am_ rfl rfl (ar_ rfl (az_ rfl Tryz.underlying9 rfl (i3 _ au_))) ?_ | refine am_ rfl rfl (ar_ rfl (aj_ rfl ah_ Tryz.underlying79 rfl zs79 (by rfl) rfl)) ?_ | refine am_ rfl rfl (ar_ rfl (ae_ rfl ah_ Tryz.underlying25 rfl (by rfl))) ?_ | refine am_ rfl rfl (ar_ rfl (ae_ rfl ah_ Tryz.underlying3 rfl (by rfl))) ?_) | refine ap_ ?_ | refine aF_ (id := 1) 8 [0, 0, 0, 4, 14, 30, 63, 127] [0, 1, 2, 3, 4, 5, 6, 7] (by kernel_rfl) (by kernel_rfl) rfl rfl ?_)
 exact rqc1 rfl (ldAgg ah_ Tryz.underlying133 rfl bt_ rfl rfl) ⟨rfl, au_⟩
set_option maxHeartbeats 4000000 in
theorem c137 {A : Nat} {v : Value} {n : Nat} {l : List Spn} (fE : Spn → En) (s : Sl G h 2 v n (l.flatMap Spn.cells)) (hl : l.length = n) (hn : n < 1000000) (hw : Wf h) (hq : ∀ h' x, Grow h h' → Wf h' → x ∈ l → Cf (mz G) (.func (.func 139) #[] #[.pointer (some ⟨A, 0, some 0⟩)]) [.agg ⟨x.cells⟩] h' fun r h2 => r = .agg ⟨(fE x).cells⟩ ∧ Grow h' h2) :
   Cf (mz G) (.func (.func 137) #[] #[]) [v, .func (.func 139) #[] #[.pointer (some ⟨A, 0, some 0⟩)]] h fun r h' => (∃ b, r = .slice (some ⟨b, 0, some 0⟩) n n ∧ At h' b (.cells ((l.map fE).flatMap En.cells) 133 3 false)) ∧ Grow h h' := by
 obtain ⟨a, c, rfl⟩ := s.form
 have hlm : (l.map fE).length = n := by rw [List.length_map]; exact hl
 refine ak_ 26 [.tmp 4] Tryz.func137 rfl rfl rfl rfl ?_
 repeat' (first | with_reducible refine ad_ ?_ | ((with_reducible refine ac_ ?_); first | ((with_reducible refine ik_makeSlice ?_); refine aq_ (op_mkAgg rfl rfl Tryz.underlying85 bt_ zb133 zz133 rfl (by omega) (by omega) rfl) ?_) | ((with_reducible refine av_ ?_); refine aq_ (ax_ rfl Tryz.underlying52) ?_) | refine ao_ ?_) | refine ap_ ?_)
 refine bo_ (fun k => n - k) (fun k : Nat => [(1, .func (.func 139) #[] #[.pointer (some ⟨A, 0, some 0⟩)]), (5, .slice (some ⟨h.nx, 0, some 0⟩) n n), (11, .slice a n c), (12, .int .i64 n), (13, .int .i64 k)]) (fun k h' => (Wf h' ∧ Grow h h') ∧ At h' h.nx (.cells (((l.map fE).take k).flatMap En.cells ++ repeatCells (n - k) [.int .i64 0, .int .i64 0, .string .empty]) 133 3 false) ∧ k ≤ n) 0 (af_ ⟨rfl, rfl, rfl, rfl, rfl, trivial⟩) ⟨⟨aA_, au_⟩, At.new h _, Nat.zero_le _⟩ ?_
 rintro k h1 ⟨⟨w1, g1⟩, hat, hk⟩
 have n1 := g1.nx
 have l1 := hat.lt
 by_cases hlt : k < n
 · obtain ⟨id, i1, i3⟩ := cw_ Spn.len ⟨0, 0⟩ (s.grow g1) hl Tryz.underlying52 zs79 (i := (k : Int)) hlt rfl
   have hm : l.getD k ⟨0, 0⟩ ∈ l := by simp [List.getD, List.getElem?_eq_getElem (show k < l.length by omega)]
   have hgd : (l.map fE).getD k ⟨0, 0, .empty⟩ = fE (l.getD k ⟨0, 0⟩) := by simp [List.getD, List.getElem?_eq_getElem (show k < l.length by omega)]
   have fr := fill_rec En.len ⟨0, 0, .empty⟩ (Z := [.int .i64 0, .int .i64 0, .string .empty]) rfl (l := l.map fE) (k := k) (v := (fE (l.getD k ⟨0, 0⟩)).cells) hlm hlt (by rw [hgd])
   have hlen : (((l.map fE).take k).flatMap En.cells ++ repeatCells (n - k) [.int .i64 0, .int .i64 0, .string .empty]).length = n * 3 := by
     rw [List.length_append, En.flat, rep_len, List.length_take, Nat.min_eq_left (by omega)]; simp only [List.length_cons, List.length_nil]; omega
   obtain ⟨x0, hx⟩ : ∃ x, l.getD k ⟨0, 0⟩ = x := ⟨_, rfl⟩
   rw [hx] at i3 fr hm
   have q1 := fun (h' : H) (g : Grow h1 h') (w' : Wf h') => hq h' x0 (g1.trans g) w' hm
   obtain ⟨L, hL⟩ : ∃ L, ((l.map fE).take k).flatMap En.cells ++ repeatCells (n - k) [.int .i64 0, .int .i64 0, .string .empty] = L := ⟨_, rfl⟩
   rw [hL] at hat fr hlen
   obtain ⟨L2, hL2⟩ : ∃ L, ((l.map fE).take (k + 1)).flatMap En.cells ++ repeatCells (n - (k + 1)) [.int .i64 0, .int .i64 0, .string .empty] = L := ⟨_, rfl⟩
   rw [hL2] at fr
   clear hL hx hm hgd hq
   generalize fE x0 = y0 at q1 fr
   obtain ⟨y1, y2, y3⟩ := y0
   obtain ⟨f, t⟩ := x0
   dsimp only [Spn.cells, En.cells] at i3 q1 fr
   repeat' (first | with_reducible refine ad_ ?_ | ((with_reducible refine ac_ ?_); first | ((with_reducible refine an_ ?_); first | refine aq_ (ag_ rfl rfl i1) ?_ | refine aq_ (op_idxSl (o := k * 3) rfl rfl Tryz.underlying85 bt_ (by omega) (by omega) (by omega)) ?_) | ((with_reducible refine al_ ?_); first | refine aq_ (aN_ rfl Tryz.underlying79 rfl zs79 (i3 _ au_).all) ?_ | refine aq_ (aj_ rfl ah_ Tryz.underlying79 rfl zs79 rfl rfl) ?_) | ((with_reducible refine ay_ ?_); first | refine bQ_ (op_stRec rfl rfl ah_ bt_ rfl (by omega) rfl fr) ?_ | refine bQ_ (aB_ rfl rfl ah_ zs79 rfl rfl rfl rfl) ?_) | ((with_reducible refine at_ ?_); (refine as_ rfl rfl rfl rfl (q1 _ au_ aA_) rfl rfl ?_; rintro _ _ ⟨rfl, hq⟩; all_goals (try (have hqn := hq.nx); try simp only [aU_] at hqn))) | refine ao_ ?_) | refine ap_ ?_ | (refine aG_ rfl (fun hb => ?_) (fun hb => aw_ hb); (try simp only [aX_, reduceCtorEq] at hb)))
   exact aI_ (k + 1) (by omega) (af_ ⟨rfl, rfl, rfl, rfl, rfl, trivial⟩) ⟨⟨aA_, au_⟩, by rw [hL2]; exact ah_, by omega⟩
 · have hkn : k = n := by omega
   subst hkn
   have fe : ((l.map fE).take k).flatMap En.cells ++ repeatCells (k - k) [.int .i64 0, .int .i64 0, .string .empty] = (l.map fE).flatMap En.cells := by
     rw [List.take_of_length_le (by omega), Nat.sub_self]; simp [repeatCells]
   rw [fe] at hat
   repeat' (first | with_reducible refine ad_ ?_ | ((with_reducible refine ac_ ?_); refine ao_ ?_) | refine ap_ ?_ | (refine aG_ rfl (fun hb => ?_) (fun hb => ?_) <;> (try simp only [aX_, reduceCtorEq] at hb) <;> (try (exfalso; omega))))
   exact rq1 rfl ⟨⟨_, rfl, ah_⟩, au_⟩
theorem rl_in {b : Nat → Bool} {T : Nat} {s : Spn} (hs : s ∈ rl b T) : 0 ≤ s.f ∧ s.f < T := by
 have := rl_mem hs; omega
set_option maxHeartbeats 16000000 in
theorem c67 {x y u v t r sp lo cl so : Int} {w vs vw : Value} {n m q : Nat} {l : List Sg} {L M : List Spn} (s : Sl G h 3 w n (l.flatMap Sg.cells)) (hl : l.length = n) (hn : n < 1000000) (p : Sl G h 2 vs m (L.flatMap Spn.cells)) (hL : L.length = m) (hm : m < 1000000) (pw : Sl G h 2 vw q (M.flatMap Spn.cells)) (hM : M.length = q) (hq0 : q < 1000000) (hw : Wf h) :
   Cf (mz G) (.func (.func 67) #[] #[]) [.agg ⟨[.int .i64 x, .int .i64 y, .int .i64 u, .int .i64 v, .int .i64 t]⟩, .agg ⟨[.int .i64 r, .int .i64 sp, .int .i64 lo, .int .i64 cl, .int .i64 so]⟩, w, vs, vw] h fun r' h' => (∃ a c, r' = .tuple #[.slice a (diaL (firstNZ [allE x y u v t r sp lo cl so l, spsE L, spsE M]) (diL (cawB cl so (insB x y u v r sp lo l) L M) t.toNat)).length c, .int .i64 (diaE (firstNZ [allE x y u v t r sp lo cl so l, spsE L, spsE M]) (diL (cawB cl so (insB x y u v r sp lo l) L M) t.toNat))] ∧ Sl G h' 3 (.slice a (diaL (firstNZ [allE x y u v t r sp lo cl so l, spsE L, spsE M]) (diL (cawB cl so (insB x y u v r sp lo l) L M) t.toNat)).length c) (diaL (firstNZ [allE x y u v t r sp lo cl so l, spsE L, spsE M]) (diL (cawB cl so (insB x y u v r sp lo l) L M) t.toNat)).length ((diaL (firstNZ [allE x y u v t r sp lo cl so l, spsE L, spsE M]) (diL (cawB cl so (insB x y u v r sp lo l) L M) t.toNat)).flatMap En.cells)) ∧ Grow h h' := by
 have q81 := fun (h' : H) (g : Grow h h') (w' : Wf h') => c81 (x := x) (y := y) (u := u) (v := v) (t := t) (r := r) (sp := sp) (lo := lo) (cl := cl) (so := so) (s.grow g) hl hn w'
 have qa := fun (h' : H) (g : Grow h h') (w' : Wf h') => c134 (p.grow g) hL hm w'
 have qb := fun (h' : H) (g : Grow h h') (w' : Wf h') => c134 (pw.grow g) hM hq0 w'
 have qf3 := fun (h' : H) (vv : Value) (s : Sl G h' 1 vv 3 ([allE x y u v t r sp lo cl so l, spsE L, spsE M].map (.int .i64))) => c93 s (by omega)
 by_cases hE : (firstNZ [allE x y u v t r sp lo cl so l, spsE L, spsE M]) = 0
 · have z := bX_ hE
   have he : allE x y u v t r sp lo cl so l = 0 := z _ (by simp)
   have hsp : spsE L = 0 := z _ (by simp)
   have hsw : spsE M = 0 := z _ (by simp)
   obtain ⟨⟨b1, b2⟩, ⟨b3, b4⟩, ⟨bt, bT⟩, hr, hs, hlo, hcl, hso, hlen, hall⟩ := all_ok he
   obtain ⟨T, rfl⟩ : ∃ T : Nat, t = T := ⟨t.toNat, by omega⟩
   have hT : T ≤ 4096 := by omega
   have hT1 : 0 < T := by omega
   have form := fun (v : Value) (q : Nat) (N : List Spn) (p : Sl G h 2 v q (N.flatMap Spn.cells)) (hN : N.length = q) (hq : q < 1000000) (h' : H) (g : Grow h h') (w' : Wf h') => (c135 (p.grow g) hN hq w').mono (Q' := fun r' h2 => (∃ b, r' = .slice (some ⟨b, 0, some 0⟩) q q ∧ b < h2.nx ∧ At h2 b (.cells (N.flatMap Spn.cells) 241 2 false)) ∧ Grow h' h2) (fun r' h2 ⟨⟨b, e1, e2⟩, e3⟩ => ⟨⟨b, e1, e2.lt, e2⟩, e3⟩)
   have q13 := form vs m L p hL hm
   have q14 := form vw q M pw hM hq0
   have q83 := fun (h' : H) (g : Grow h h') (w' : Wf h') => (c83 (cl := cl) (so := so) (T := T) (s.grow g) hl hn w' b1 b2 b3 b4 hT hr hs hlo hall).mono (Q' := fun r' h2 => (∃ b, r' = .slice (some ⟨b, 0, some 0⟩) T T ∧ b < h2.nx ∧ At h2 b (.cells ((qsL (insB x y u v r sp lo l) T).flatMap (stC r sp lo cl so)) 157 6 false)) ∧ Grow h' h2) (fun r' h2 ⟨⟨b, e1, e2⟩, e3⟩ => ⟨⟨b, e1, e2.lt, e2⟩, e3⟩)
   rw [hE] at qf3 ⊢
   rw [he] at q81 qf3
   rw [hsp] at qa qf3
   rw [hsw] at qb qf3
   rw [Int.toNat_natCast]
   have hW : ∀ k, (cawB cl so (insB x y u v r sp lo l) L M) k = cauS (M.any (inP (k : Int))) (L.any (inP (k : Int))) (decide (lvl cl so (qt (insB x y u v r sp lo l) (k + 1) : Int) = 0)) := fun k => rfl
   clear form he hsp hsw hE z hall hlen
   obtain ⟨I, hI⟩ : ∃ I, (insB x y u v r sp lo l) = I := ⟨_, rfl⟩
   rw [hI] at q83 hW ⊢
   clear hI
   generalize cawB cl so I L M = W at hW ⊢
   obtain ⟨a, c, rfl⟩ := s.form
   obtain ⟨pa, pc, rfl⟩ := p.form
   obtain ⟨wa, wc, rfl⟩ := pw.form
   refine ak_ 66 [.tmp 10, .tmp 11] Tryz.func67 rfl rfl rfl rfl ?_
   refine bq_ (ι := Unit) (fun _ => [(2, .slice a n c), (3, .slice pa m pc), (4, .slice wa q wc), (5, .pointer (some ⟨h.nx, 0, some 0⟩)), (6, .pointer (some ⟨h.nx + 1, 0, some 0⟩))]) (fun _ h' => (Wf h' ∧ Grow h h') ∧ At h' h.nx (.cells [.int .i64 x, .int .i64 y, .int .i64 u, .int .i64 v, .int .i64 (T : Nat)] 45 5 false) ∧ At h' (h.nx + 1) (.cells [.int .i64 r, .int .i64 sp, .int .i64 lo, .int .i64 cl, .int .i64 so] 46 5 false)) ?_ ?_
   · repeat' (first | with_reducible refine ad_ ?_ | ((with_reducible refine ac_ ?_); refine ao_ ?_) | with_reducible refine bk_ ?_)
     exact ⟨rfl, (), af_ ⟨rfl, rfl, rfl, rfl, rfl, trivial⟩, ⟨aA_, au_⟩, ah_, ah_⟩
   rintro _ h1 ⟨⟨w1, g1⟩, aV, aW⟩
   have n1 := g1.nx
   have lW := aW.lt
   refine bq_ (ι := Unit) (fun _ => [(2, .slice a n c), (3, .slice pa m pc), (4, .slice wa q wc), (5, .pointer (some ⟨h.nx, 0, some 0⟩)), (6, .pointer (some ⟨h.nx + 1, 0, some 0⟩))]) (fun _ h' => Wf h' ∧ Grow h1 h') ?_ ?_
   · repeat' (first | with_reducible refine ad_ ?_ | ((with_reducible refine ac_ ?_); first | ((with_reducible refine al_ ?_); first | refine aq_ (aj_ rfl ah_ Tryz.underlying45 rfl zs45 rfl rfl) ?_ | refine aq_ (aj_ rfl ah_ Tryz.underlying46 rfl zs46 rfl rfl) ?_) | ((with_reducible refine aE_ ?_); refine aq_ (aR_ rfl Tryz.underlying238 zs26 zz26 rfl rfl) ?_) | ((with_reducible refine at_ ?_); first | refine aq_ (aK_ rfl rfl (qf3 _ _ (Sl.ofAt (show At _ _ (.cells [.int .i64 0, .int .i64 0, .int .i64 0] 26 1 false) from ah_) rfl (Nat.le_refl _)))) ?_ | (refine as_ rfl rfl rfl rfl (q81 _ (g1.trans au_) aA_) rfl rfl ?_; rintro _ _ ⟨rfl, hq⟩; all_goals (try (have hqn := hq.nx); try simp only [aU_] at hqn)) | (refine as_ rfl rfl rfl rfl (qa _ (g1.trans au_) aA_) rfl rfl ?_; rintro _ _ ⟨rfl, hq⟩; all_goals (try (have hqn := hq.nx); try simp only [aU_] at hqn)) | (refine as_ rfl rfl rfl rfl (qb _ (g1.trans au_) aA_) rfl rfl ?_; rintro _ _ ⟨rfl, hq⟩; all_goals (try (have hqn := hq.nx); try simp only [aU_] at hqn))) | refine ao_ ?_) | refine ap_ ?_)
     exact ⟨rfl, (), af_ ⟨rfl, rfl, rfl, rfl, rfl, trivial⟩, aA_, au_⟩
   clear w1 q81 qa qb qf3
   rintro _ h2 ⟨w1, g2⟩
   have n2 := g2.nx
   refine bq_ (ι := Nat × Nat) (fun z => [(2, .slice a n c), (3, .slice pa m pc), (4, .slice wa q wc), (5, .pointer (some ⟨h.nx, 0, some 0⟩)), (6, .pointer (some ⟨h.nx + 1, 0, some 0⟩)), (13, .slice (some ⟨z.1, 0, some 0⟩) m m), (14, .slice (some ⟨z.2, 0, some 0⟩) q q)]) (fun z h' => (Wf h' ∧ Grow h2 h') ∧ At h' z.1 (.cells (L.flatMap Spn.cells) 241 2 false) ∧ At h' z.2 (.cells (M.flatMap Spn.cells) 241 2 false)) ?_ ?_
   · have gg := g1.trans g2
     clear q83
     repeat' (first | with_reducible refine ad_ ?_ | ((with_reducible refine ac_ ?_); first | ((with_reducible refine at_ ?_); first | (refine as_ rfl rfl rfl rfl (q13 _ (gg.trans au_) aA_) rfl rfl ?_; rintro _ _ ⟨⟨b13, rfl, lt13, at13⟩, hq⟩; all_goals (try (have hqn := hq.nx); try simp only [aU_] at hqn)) | (refine as_ rfl rfl rfl rfl (q14 _ (gg.trans au_) aA_) rfl rfl ?_; rintro _ _ ⟨⟨b14, rfl, lt14, at14⟩, hq⟩; all_goals (try (have hqn := hq.nx); try simp only [aU_] at hqn))) | refine ao_ ?_) | with_reducible refine bk_ ?_)
     exact ⟨rfl, (b13, b14), af_ ⟨rfl, rfl, rfl, rfl, rfl, rfl, rfl, trivial⟩, ⟨aA_, au_⟩, ah_, ah_⟩
   clear w1 q13 q14
   rintro ⟨b13, b14⟩ h3 ⟨⟨w1, g3⟩, at13, at14⟩
   dsimp only at at13 at14 ⊢
   have n3 := g3.nx
   refine bq_ (ι := Nat) (fun z => [(2, .slice a n c), (5, .pointer (some ⟨h.nx, 0, some 0⟩)), (6, .pointer (some ⟨h.nx + 1, 0, some 0⟩)), (13, .slice (some ⟨b13, 0, some 0⟩) m m), (14, .slice (some ⟨b14, 0, some 0⟩) q q), (15, .pointer (some ⟨z + 1, 0, some 0⟩))]) (fun z h' => (Wf h' ∧ Grow h3 h') ∧ h3.nx ≤ z ∧ At h' z (.cells (List.replicate T (.string .empty)) 9 1 false) ∧ At h' (z + 1) (.cells [.slice (some ⟨z, 0, some 0⟩) T T] 25 1 false)) ?_ ?_
   · have aV3 := aV.grow (g2.trans g3)
     clear q83
     repeat' (first | with_reducible refine ad_ ?_ | ((with_reducible refine ac_ ?_); first | ((with_reducible refine ik_makeSlice ?_); refine aq_ (op_mkSl rfl rfl Tryz.underlying25 zs9 zb9 zz9 rfl (by omega) (by omega)) ?_) | ((with_reducible refine al_ ?_); refine aq_ (ae_ rfl ah_ Tryz.underlying3 rfl rfl) ?_) | ((with_reducible refine ay_ ?_); refine bQ_ (op_st1 rfl rfl ah_ rfl zs25 rfl rfl rfl) ?_) | refine ao_ ?_) | with_reducible refine bk_ ?_)
     exact ⟨rfl, h3.nx, af_ ⟨rfl, rfl, rfl, rfl, rfl, rfl, trivial⟩, ⟨aA_, au_⟩, Nat.le_refl _, ah_, (show At _ (H.nx (h3.push (.cells (List.replicate T (.string .empty)) 9 1 false))) _ from ah_)⟩
   clear w1
   rintro bw h4 ⟨⟨w1, g4⟩, hbw, atw, atp⟩
   have n4 := g4.nx
   have x1 : b13 < bw := by have := at13.lt; omega
   have x2 : b14 < bw := by have := at14.lt; omega
   have hbw2 : h.nx ≤ bw := by omega
   have gA := g1.trans (g2.trans (g3.trans g4))
   have aV := aV.grow (g2.trans (g3.trans g4))
   have aW := aW.grow (g2.trans (g3.trans g4))
   have at13 := at13.grow g4
   have at14 := at14.grow g4
   have lw := atw.lt
   have lp := atp.lt
   have lW := aW.lt
   have l13 := at13.lt
   have l14 := at14.lt
   clear g2 g3 g4 n2 n3 n4 n1 g1 lW
   have n1 := gA.nx
   refine bq_ (ι := Unit) (fun _ => [(15, .pointer (some ⟨bw + 1, 0, some 0⟩))]) (fun _ h' => (Wf h' ∧ Grow h h') ∧ At h' bw (.cells (((List.range T).map W).map Value.string) 9 1 false) ∧ At h' (bw + 1) (.cells [.slice (some ⟨bw, 0, some 0⟩) T T] 25 1 false)) ?_ ?_
   · refine bq_ (ι := Nat) (fun b42 => [(13, .slice (some ⟨b13, 0, some 0⟩) m m), (14, .slice (some ⟨b14, 0, some 0⟩) q q), (15, .pointer (some ⟨bw + 1, 0, some 0⟩)), (42, .slice (some ⟨b42, 0, some 0⟩) T T), (43, .int .i64 (T : Nat)), (44, .int .i64 0)]) (fun b42 h' => (Wf h' ∧ Grow h4 h') ∧ At h' b42 (.cells ((qsL I T).flatMap (stC r sp lo cl so)) 157 6 false)) ?_ ?_
     · repeat' (first | with_reducible refine ad_ ?_ | ((with_reducible refine ac_ ?_); first | ((with_reducible refine al_ ?_); first | refine aq_ (aj_ rfl ah_ Tryz.underlying45 rfl zs45 rfl rfl) ?_ | refine aq_ (aj_ rfl ah_ Tryz.underlying46 rfl zs46 rfl rfl) ?_) | ((with_reducible refine av_ ?_); refine aq_ (ax_ rfl Tryz.underlying158) ?_) | ((with_reducible refine at_ ?_); (refine as_ rfl rfl rfl rfl (q83 _ (gA.trans au_) aA_) rfl rfl ?_; rintro _ _ ⟨⟨b42, rfl, lt42, at42⟩, hq⟩; all_goals (try (have hqn := hq.nx); try simp only [aU_] at hqn))) | refine ao_ ?_) | with_reducible refine bk_ ?_)
       exact ⟨rfl, b42, af_ ⟨rfl, rfl, rfl, rfl, rfl, rfl, trivial⟩, ⟨aA_, au_⟩, ah_⟩
     clear w1 q83
     rintro b42 h5 ⟨⟨w1, g5⟩, at42⟩
     have n5 := g5.nx
     have at13 := at13.grow g5
     have at14 := at14.grow g5
     have atw := atw.grow g5
     have atp := atp.grow g5
     have l42 := at42.lt
     have gB := gA.trans g5
     have n6 := gB.nx
     have h42 : b42 ≠ bw := fun e => by
       have z := at42.get
       rw [e, atw.get] at z
       injection (Option.some.inj z) with z1 z2 z3
       exact absurd z3 (by decide)
     clear aV aW
     refine wc_block ?_
     refine bo_ (fun k => T - k) (fun k : Nat => [(13, .slice (some ⟨b13, 0, some 0⟩) m m), (14, .slice (some ⟨b14, 0, some 0⟩) q q), (15, .pointer (some ⟨bw + 1, 0, some 0⟩)), (42, .slice (some ⟨b42, 0, some 0⟩) T T), (43, .int .i64 (T : Nat)), (44, .int .i64 (k : Nat))]) (fun k h' => (Wf h' ∧ Grow h h') ∧ k ≤ T ∧ At h' bw (.cells ((((List.range T).map W).take k).map Value.string ++ List.replicate (T - k) (Value.string .empty)) 9 1 false) ∧ At h' (bw + 1) (.cells [.slice (some ⟨bw, 0, some 0⟩) T T] 25 1 false) ∧ At h' b42 (.cells ((qsL I T).flatMap (stC r sp lo cl so)) 157 6 false) ∧ At h' b13 (.cells (L.flatMap Spn.cells) 241 2 false) ∧ At h' b14 (.cells (M.flatMap Spn.cells) 241 2 false)) 0 (af_ ⟨rfl, rfl, rfl, rfl, rfl, rfl, trivial⟩) ⟨⟨w1, gB⟩, Nat.zero_le _, by simpa using atw, atp, at42, at13, at14⟩ ?_
     clear w1 at13 at14 atw atp at42 g5 gB gA n1 n5 n6 lw lp l13 l14 l42
     rintro k h6 ⟨⟨w1, g6⟩, hk, atw, atp, at42, at13, at14⟩
     have n6 := g6.nx
     have lw := atw.lt
     have lp := atp.lt
     have l42 := at42.lt
     by_cases hlt : k < T
     · obtain ⟨id, i1, i3⟩ := cw_ (stC_len r sp lo cl so) 0 (Sl.ofAt (G := G) at42 (by rw [flat_len (stC_len r sp lo cl so), qsL_len]) (Nat.le_refl T)) qsL_len Tryz.underlying158 zs157 (i := (k : Int)) (q := k) hlt rfl
       rw [qsL_get hlt] at i3
       have hqb := qt_le I (k + 1)
       have qc := fun (h' : H) (g' : Grow h6 h') (w' : Wf h') => c136 (r := r) (sp := sp) (lo := lo) (k := k) (Sl.ofAt (G := G) (at13.grow g') (by rw [Spn.flat, hL]) (Nat.le_refl m)) hL hm (Sl.ofAt (G := G) (at14.grow g') (by rw [Spn.flat, hM]) (Nat.le_refl q)) hM hq0 (q := (qt I (k + 1) : Int)) (by omega) hcl hso w'
       rw [← hW k] at qc
       have fs := fill_step (f := Value.string) (z := .string .empty) (u := .string (W k)) (l := ((List.range T).map W)) (k := k) (n := T) (by simp) hlt (by simp)
       have hlen : ((((List.range T).map W).take k).map Value.string ++ List.replicate (T - k) (Value.string .empty)).length = T := by simp; omega
       generalize (qt I (k + 1) : Int) = Q at i3 qc
       generalize W k = x0 at qc fs
       obtain ⟨L1, hL1⟩ : ∃ L, (((List.range T).map W).take k).map Value.string ++ List.replicate (T - k) (Value.string .empty) = L := ⟨_, rfl⟩
       rw [hL1] at atw fs hlen
       obtain ⟨L2, hL2⟩ : ∃ L, (((List.range T).map W).take (k + 1)).map Value.string ++ List.replicate (T - (k + 1)) (Value.string .empty) = L := ⟨_, rfl⟩
       rw [hL2] at fs
       clear hL1 hW
       dsimp only [stC] at i3 qc
       repeat' (first | with_reducible refine ad_ ?_ | ((with_reducible refine ac_ ?_); first | ((with_reducible refine an_ ?_); refine aq_ (ag_ rfl rfl i1) ?_) | ((with_reducible refine al_ ?_); refine aq_ (aN_ rfl Tryz.underlying157 rfl zs157 (i3 _ au_).all) ?_) | ((with_reducible refine ay_ ?_); refine bQ_ (aB_ rfl rfl ah_ zs157 rfl rfl rfl rfl) ?_) | refine ao_ ?_) | ((with_reducible refine bb_ ?_); ((with_reducible refine bd_ ?_); first | ((with_reducible refine ba_ ?_); refine aH_ (aa_ rfl) rfl rfl (ar_ rfl (aD_ rfl)) rfl rfl rfl ?_) | ((with_reducible refine aT_ ?_); refine aH_ (aa_ rfl) rfl rfl (ar_ rfl (op_idxSl (o := k) rfl rfl Tryz.underlying25 zs9 (by omega) (by omega) (by omega))) rfl rfl rfl ?_) | ((with_reducible refine aZ_ ?_); first | refine aO_ (aa_ rfl) rfl (ar_ rfl (aj_ rfl ah_ Tryz.underlying157 rfl zs157 rfl rfl)) rfl rfl rfl ?_ | refine aO_ (aa_ rfl) rfl (ar_ rfl (ae_ rfl ah_ Tryz.underlying25 rfl rfl)) rfl rfl rfl ?_) | ((with_reducible refine bN_ ?_); refine wx_ee0 (aa_ rfl) rfl rfl (bA_ rfl rfl ah_ rfl zs9 (by omega) rfl fs) rfl ?_) | ((with_reducible refine aV_ ?_); (refine aM_ (aa_ rfl) rfl rfl rfl rfl (qc _ au_ aA_) rfl rfl ?_; rintro _ _ ⟨rfl, hq⟩; all_goals (try (have hqn := hq.nx); try simp only [aU_] at hqn))) | with_reducible refine bj_ ?_ ?_)) | with_reducible exact aP_ | with_reducible refine aJ_ ?_ ?_ | ((with_reducible refine bi_ ?_); first | exact aS_ | refine aQ_ rfl ?_ | refine am_ rfl rfl (ar_ rfl (aj_ rfl ah_ Tryz.underlying157 rfl zs157 (by rfl) rfl)) ?_ | refine am_ rfl rfl (ar_ rfl (ae_ rfl ah_ Tryz.underlying25 rfl (by rfl))) ?_) | refine ap_ ?_ | (refine aG_ rfl (fun hb => ?_) (fun hb => aw_ hb); (try simp only [aX_, reduceCtorEq] at hb)) | refine aF_ (id := 9) 9 [0, 0, 0, 0, 0, 0, 60, 127, 255] [0, 1, 2, 3, 4, 5, 6, 7, 8] (by kernel_rfl) (by kernel_rfl) rfl rfl ?_)
       exact aI_ (k + 1) (by omega) (af_ ⟨rfl, rfl, rfl, rfl, rfl, rfl, trivial⟩) ⟨⟨aA_, au_⟩, by omega, by rw [hL2]; exact ah_, ah_, ah_, ah_, ah_⟩
     · have hkn : k = T := by omega
       subst hkn
       have fe := fill_end (f := Value.string) (z := .string .empty) (l := ((List.range k).map W)) (n := k) (by simp)
       rw [fe] at atw
       repeat' (first | with_reducible refine ad_ ?_ | ((with_reducible refine ac_ ?_); ((with_reducible refine bG_ ?_); refine aq_ (cI_ rfl rfl) ?_)) | refine ap_ ?_ | (refine aG_ rfl (fun hb => aw_ hb) (fun hb => ?_); (try simp only [aX_, reduceCtorEq] at hb)))
       exact ⟨rfl, (), af_ ⟨rfl, trivial⟩, ⟨w1, g6⟩, atw, atp⟩
   clear w1 at13 at14 atw atp aV aW gA q83 hW lw lp l13 l14 n1
   rintro _ h5 ⟨⟨w1, g5⟩, atw, atp⟩
   have n5 := g5.nx
   have lp := atp.lt
   have hKT := rl_len (b := altB W) T
   obtain ⟨K, hK⟩ : ∃ K, (rl (altB W) T).length = K := ⟨_, rfl⟩
   rw [hK] at hKT
   have q138 := fun (h' : H) (g : Grow h5 h') (w' : Wf h') => (c138 (W := W) (Sl.ofAt (G := G) (atw.grow g) (by simp) (Nat.le_refl T)) (by omega) w').mono (Q' := fun r' h2 => (∃ a c, r' = .slice a K c ∧ Sl G h2 2 (.slice a K c) K ((rl (altB W) T).flatMap Spn.cells)) ∧ Grow h' h2) (fun r' h2 ⟨e1, e2⟩ => by
     have s := e1.sl (G := G) (by rw [Spn.flat])
     rw [hK] at s
     obtain ⟨a, c, rfl⟩ := s.form
     exact ⟨⟨a, c, rfl, s⟩, e2⟩)
   have q137 := fun (h' : H) (v : Value) (s1 : Sl G h' 2 v K ((rl (altB W) T).flatMap Spn.cells)) (g : Grow h5 h') (w' : Wf h') => (c137 (A := bw + 1) (enW W) s1 hK (by omega) w' (fun h2 x g2 w2 mm => c139 (by have := rl_in mm; omega) (by omega) (atp.grow (g.trans g2)) (atw.grow (g.trans g2)) w2)).mono (Q' := fun r' h2 => (∃ b, r' = .slice (some ⟨b, 0, some 0⟩) K K ∧ b < h2.nx ∧ At h2 b (.cells ((diL W T).flatMap En.cells) 133 3 false)) ∧ Grow h' h2) (fun r' h2 ⟨⟨b, e1, e2⟩, e3⟩ => ⟨⟨b, e1, e2.lt, e2⟩, e3⟩)
   have hD : (diL W T).length = K := by unfold diL; rw [List.length_map]; exact hK
   have hdl : diaL 0 (diL W T) = if 64 < K then [] else diL W T := by unfold diaL; rw [if_neg (by decide), hD]
   have hde : diaE 0 (diL W T) = if 64 < K then 5 else 0 := by unfold diaE; rw [if_neg (by decide), hD]
   rw [hdl, hde]
   clear hdl hde hK
   obtain ⟨D, hDD⟩ : ∃ D, diL W T = D := ⟨_, rfl⟩
   rw [hDD] at q137 hD ⊢
   clear hDD
   by_cases h6 : 64 < K
   · rw [if_pos h6, if_pos h6]
     repeat' (first | with_reducible refine ad_ ?_ | ((with_reducible refine ac_ ?_); first | ((with_reducible refine cE_ ?_); refine aq_ (co_ (fun _ q => by cases q) rfl rfl) ?_) | ((with_reducible refine al_ ?_); refine aq_ (ae_ rfl ah_ Tryz.underlying25 rfl rfl) ?_) | ((with_reducible refine av_ ?_); refine aq_ (ax_ rfl Tryz.underlying85) ?_) | ((with_reducible refine at_ ?_); first | (refine as_ rfl rfl rfl rfl (q138 _ au_ aA_) rfl rfl ?_; rintro _ _ ⟨⟨ra, rc, rfl, sr⟩, hq⟩; all_goals (try (have hqn := hq.nx); try simp only [aU_] at hqn)) | (refine as_ rfl rfl rfl rfl (q137 _ _ (sr.grow au_) au_ aA_) rfl rfl ?_; rintro _ _ ⟨⟨b, rfl, ltb, atb⟩, hq⟩; all_goals (try (have hqn := hq.nx); try simp only [aU_] at hqn))) | refine ao_ ?_) | refine ap_ ?_ | (refine aG_ rfl (fun hb => ?_) (fun hb => aw_ hb); (try simp only [aX_, reduceCtorEq] at hb)))
     exact rq2 rfl rfl ⟨⟨none, 0, rfl, .nil⟩, au_⟩
   · rw [if_neg h6, if_neg h6]
     repeat' (first | with_reducible refine ad_ ?_ | ((with_reducible refine ac_ ?_); first | ((with_reducible refine cE_ ?_); refine aq_ (co_ (fun _ q => by cases q) rfl rfl) ?_) | ((with_reducible refine al_ ?_); refine aq_ (ae_ rfl ah_ Tryz.underlying25 rfl rfl) ?_) | ((with_reducible refine av_ ?_); refine aq_ (ax_ rfl Tryz.underlying85) ?_) | ((with_reducible refine at_ ?_); first | (refine as_ rfl rfl rfl rfl (q138 _ au_ aA_) rfl rfl ?_; rintro _ _ ⟨⟨ra, rc, rfl, sr⟩, hq⟩; all_goals (try (have hqn := hq.nx); try simp only [aU_] at hqn)) | (refine as_ rfl rfl rfl rfl (q137 _ _ (sr.grow au_) au_ aA_) rfl rfl ?_; rintro _ _ ⟨⟨b, rfl, ltb, atb⟩, hq⟩; all_goals (try (have hqn := hq.nx); try simp only [aU_] at hqn))) | refine ao_ ?_) | refine ap_ ?_ | (refine aG_ rfl (fun hb => aw_ hb) (fun hb => ?_); (try simp only [aX_, reduceCtorEq] at hb)))
     subst hD
     exact rq2 rfl rfl ⟨⟨_, _, rfl, Sl.ofAt ah_ (by rw [En.flat]) (Nat.le_refl _)⟩, au_⟩
 · have hD : (diaL (firstNZ [allE x y u v t r sp lo cl so l, spsE L, spsE M]) (diL (cawB cl so (insB x y u v r sp lo l) L M) t.toNat)) = [] := by unfold diaL; rw [if_pos hE]
   have hE2 : (diaE (firstNZ [allE x y u v t r sp lo cl so l, spsE L, spsE M]) (diL (cawB cl so (insB x y u v r sp lo l) L M) t.toNat)) = (firstNZ [allE x y u v t r sp lo cl so l, spsE L, spsE M]) := by unfold diaE; rw [if_pos hE]
   rw [hD, hE2]
   obtain ⟨E, hE'⟩ : ∃ E, (firstNZ [allE x y u v t r sp lo cl so l, spsE L, spsE M]) = E := ⟨_, rfl⟩
   rw [hE'] at qf3 hE ⊢
   generalize allE x y u v t r sp lo cl so l = E1 at q81 qf3
   generalize spsE L = E2 at qa qf3
   generalize spsE M = E3 at qb qf3
   clear hE' hD hE2
   obtain ⟨a, c, rfl⟩ := s.form
   obtain ⟨pa, pc, rfl⟩ := p.form
   obtain ⟨wa, wc, rfl⟩ := pw.form
   refine ak_ 66 [.tmp 10, .tmp 11] Tryz.func67 rfl rfl rfl rfl ?_
   repeat' (first | with_reducible refine ad_ ?_ | ((with_reducible refine ac_ ?_); first | ((with_reducible refine al_ ?_); first | refine aq_ (aj_ rfl ah_ Tryz.underlying45 rfl zs45 rfl rfl) ?_ | refine aq_ (aj_ rfl ah_ Tryz.underlying46 rfl zs46 rfl rfl) ?_) | ((with_reducible refine aE_ ?_); refine aq_ (aR_ rfl Tryz.underlying238 zs26 zz26 rfl rfl) ?_) | ((with_reducible refine at_ ?_); first | refine aq_ (aK_ rfl rfl (qf3 _ _ (Sl.ofAt (show At _ _ (.cells [.int .i64 E1, .int .i64 E2, .int .i64 E3] 26 1 false) from ah_) rfl (Nat.le_refl _)))) ?_ | (refine as_ rfl rfl rfl rfl (q81 _ au_ aA_) rfl rfl ?_; rintro _ _ ⟨rfl, hq⟩; all_goals (try (have hqn := hq.nx); try simp only [aU_] at hqn)) | (refine as_ rfl rfl rfl rfl (qa _ au_ aA_) rfl rfl ?_; rintro _ _ ⟨rfl, hq⟩; all_goals (try (have hqn := hq.nx); try simp only [aU_] at hqn)) | (refine as_ rfl rfl rfl rfl (qb _ au_ aA_) rfl rfl ?_; rintro _ _ ⟨rfl, hq⟩; all_goals (try (have hqn := hq.nx); try simp only [aU_] at hqn))) | refine ao_ ?_) | refine ap_ ?_ | (refine aG_ rfl (fun hb => ?_) (fun hb => aw_ hb); (try simp only [aX_, reduceCtorEq] at hb)))
   exact rq2 rfl rfl ⟨⟨none, 0, rfl, .nil⟩, au_⟩
end Go.Proofs.YtlioomhcdlicmaaGreatDoor
/- Survey: entries by the reference. -/
namespace Go.Proofs.YtlioomhcdlicmaaGreatDoor
open Go Go.Ab Go.Fl
attribute [local irreducible] SeqQ BlkQ LpQ RetQ Wc Wo WD WX Op1 Op1q Op1a Cf Cl From
attribute [local irreducible] Ieee.Format.order Ieee.Format.read Ieee.Format.nearest Ieee.Format.write Ieee.Format.mul Ieee.Format.div Ieee.Format.sqrt Ieee.Datum.order Ieee.Datum.integral K U rngE errN ptE firstNZ vesE watE sgE sgsE allE hitB sqD insB qsL lvl
set_option maxRecDepth 10000
variable {G : Base} {h : H}
attribute [local irreducible] fl silN insN levN inL leL cauS
theorem op_seqE {M : Mc} {l : KL} {h : H} {t ty : TypeId} {x y : Operand} {a b : ByteArray} (hx : val l x = some (.string a)) (hy : val l y = some (.string b)) (hab : a = b) : Op1 M (.binOp .eql t x y ty) l h (.bool true) h := by
 have := op_seq (M := M) (h := h) (t := t) (ty := ty) hx hy
 rwa [decide_eq_true hab] at this
theorem op_seqN {M : Mc} {l : KL} {h : H} {t ty : TypeId} {x y : Operand} {a b : ByteArray} (hx : val l x = some (.string a)) (hy : val l y = some (.string b)) (hab : ¬a = b) : Op1 M (.binOp .eql t x y ty) l h (.bool false) h := by
 have := op_seq (M := M) (h := h) (t := t) (ty := ty) hx hy
 rwa [decide_eq_false hab] at this
set_option maxHeartbeats 4000000 in
theorem c51 {v : Value} {n : Nat} {l : List En} (s : Sl G h 3 v n (l.flatMap En.cells)) (hl : l.length = n) (hn : n < 1000000) (hw : Wf h) : Cf (mz G) (.func (.func 51) #[] #[]) [v] h fun r h' => Sl G h' 3 r n (l.flatMap En.cells) ∧ Grow h h' := by
 obtain ⟨a, c, rfl⟩ := s.form
 refine ak_ 18 [.tmp 2] Tryz.func51 rfl rfl rfl rfl ?_
 repeat' (first | with_reducible refine ad_ ?_ | ((with_reducible refine ac_ ?_); first | ((with_reducible refine av_ ?_); refine aq_ (ax_ rfl Tryz.underlying85) ?_) | refine ao_ ?_) | refine ap_ ?_)
 refine bo_ (fun p : Nat × Value => n - p.1) (fun p => [(3, p.2), (6, .slice a n c), (7, .int .i64 n), (8, .int .i64 (p.1 : Nat))]) (fun p h' => (Wf h' ∧ Grow h h') ∧ p.1 ≤ n ∧ ((p.2 = .slice none 0 0 ∧ p.1 = 0) ∨ ∃ e, h.nx ≤ e ∧ p.2 = .slice (some ⟨e, 0, some 0⟩) p.1 p.1 ∧ At h' e (.cells ((l.take p.1).flatMap En.cells) 184 3 true))) (0, .slice none 0 0) (af_ ⟨rfl, rfl, rfl, rfl, trivial⟩) ⟨⟨aA_, au_⟩, Nat.zero_le _, .inl ⟨rfl, rfl⟩⟩ ?_
 rintro ⟨k, v⟩ h1 ⟨⟨w1, g1⟩, hk, hv⟩
 simp only at hk hv ⊢
 have n1 := g1.nx
 by_cases hlt : k < n
 · obtain ⟨id, i1, i3⟩ := cw_ En.len ⟨0, 0, .empty⟩ (s.grow g1) hl Tryz.underlying85 bt_ (i := (k : Int)) hlt rfl
   obtain ⟨p, hp⟩ : ∃ p, l.getD k ⟨0, 0, .empty⟩ = p := ⟨_, rfl⟩
   have e1 : (l.take (k + 1)).flatMap En.cells = (l.take k).flatMap En.cells ++ p.cells := by
     rw [cf_ ⟨0, 0, .empty⟩ (by omega), hp, List.flatMap_append]; simp
   rw [hp] at i3
   obtain ⟨f, t, cz⟩ := p
   dsimp only [En.cells] at i3
   rcases hv with ⟨rfl, rfl⟩ | ⟨e, hb, rfl, hat⟩
   · repeat' (first | with_reducible refine ad_ ?_ | ((with_reducible refine ac_ ?_); first | ((with_reducible refine an_ ?_); refine aq_ (ag_ rfl rfl i1) ?_) | ((with_reducible refine al_ ?_); first | refine aq_ (aN_ rfl Tryz.underlying133 rfl bt_ (i3 _ au_).all) ?_ | refine aq_ (aj_ rfl ah_ Tryz.underlying133 rfl bt_ rfl rfl) ?_) | ((with_reducible refine av_ ?_); refine aq_ (bl_ rfl rfl (bz_ (M := mz G) (st := 83) (xt := 83) (m := 1) Tryz.underlying83 Tryz.underlying83 rfl zs184 zb184 zz184 rfl (Sl.ofAt ah_ rfl (Nat.le_refl _)) rfl (by omega) (by omega))) ?_) | ((with_reducible refine ay_ ?_); refine bQ_ (aB_ rfl rfl ah_ bt_ rfl rfl rfl rfl) ?_) | ((with_reducible refine aE_ ?_); refine aq_ (aR_ rfl Tryz.underlying83 zs184 zz184 rfl rfl) ?_) | refine ao_ ?_) | refine ap_ ?_ | (refine aG_ rfl (fun hb => ?_) (fun hb => aw_ hb); (try simp only [aX_, reduceCtorEq] at hb)))
     exact aI_ (0 + 1, .slice (some ⟨_, 0, some 0⟩) (0 + 1) (0 + 1)) (by simp only; omega) (af_ ⟨rfl, rfl, rfl, rfl, trivial⟩) ⟨⟨aA_, au_⟩, by simp only; omega, .inr ⟨_, by simp only [H.nx_push, H.nx_set, H.nx_bump, H.nx_kill]; omega, rfl, by simp only; rw [e1]; exact ah_⟩⟩
   · have l1 := hat.lt
     repeat' (first | with_reducible refine ad_ ?_ | ((with_reducible refine ac_ ?_); first | ((with_reducible refine an_ ?_); refine aq_ (ag_ rfl rfl i1) ?_) | ((with_reducible refine al_ ?_); first | refine aq_ (aN_ rfl Tryz.underlying133 rfl bt_ (i3 _ au_).all) ?_ | refine aq_ (aj_ rfl ah_ Tryz.underlying133 rfl bt_ rfl rfl) ?_) | ((with_reducible refine av_ ?_); refine aq_ (bl_ rfl rfl (br_ (M := mz G) (st := 83) (xt := 83) (m := 1) Tryz.underlying83 Tryz.underlying83 rfl zs184 zb184 zz184 rfl (Sl.ofAt ah_ rfl (Nat.le_refl _)) rfl (b := e) (c := (l.take k).flatMap En.cells) ah_ (by rw [En.flat, List.length_take]; omega) (by omega) (by omega))) ?_) | ((with_reducible refine ay_ ?_); refine bQ_ (aB_ rfl rfl ah_ bt_ rfl rfl rfl rfl) ?_) | ((with_reducible refine aE_ ?_); refine aq_ (aR_ rfl Tryz.underlying83 zs184 zz184 rfl rfl) ?_) | refine ao_ ?_) | refine ap_ ?_ | (refine aG_ rfl (fun hb => ?_) (fun hb => aw_ hb); (try simp only [aX_, reduceCtorEq] at hb)))
     exact aI_ (k + 1, .slice (some ⟨_, 0, some 0⟩) (k + 1) (k + 1)) (by simp only; omega) (af_ ⟨rfl, rfl, rfl, rfl, trivial⟩) ⟨⟨aA_, au_⟩, by simp only; omega, .inr ⟨_, by simp only [H.nx_push, H.nx_set, H.nx_bump, H.nx_kill]; omega, rfl, by simp only; rw [e1]; exact ah_⟩⟩
 · have hkn : k = n := by omega
   subst hkn
   rw [show l.take k = l by rw [List.take_of_length_le (by omega)]] at hv
   repeat' (first | with_reducible refine ad_ ?_ | ((with_reducible refine ac_ ?_); refine ao_ ?_) | refine ap_ ?_ | (refine aG_ rfl (fun hb => ?_) (fun hb => ?_) <;> (try simp only [aX_, reduceCtorEq] at hb) <;> (try (exfalso; omega))))
   refine rq1 rfl ⟨?_, au_⟩
   rcases hv with ⟨rfl, rfl⟩ | ⟨e, hb, rfl, hat⟩
   · have htn : l = [] := by simpa using hl
     subst htn
     exact .nil
   · exact Sl.ofAt hat (by rw [En.flat, hl]) (Nat.le_refl _)
theorem run_word {W : Nat → ByteArray} : ∀ k, 0 < k → W (rn (altB W) k).2 = W (k - 1)
 | 0, hk => by omega
 | k + 1, _ => by
   rw [Nat.add_sub_cancel, rn]
   by_cases h0 : k = 0
   · subst h0; simp
   · rw [if_neg h0]
     by_cases q : altB W k = altB W (k - 1)
     · rw [if_pos q]
       show W (rn (altB W) k).2 = W k
       rw [run_word (W := W) k (by omega)]
       exact ((altB_iff (by omega)).1 q).symm
     · rw [if_neg q]
theorem diL_old {W : Nat → ByteArray} {k : Nat} (hk : 0 < k) : ∃ (D : List En) (f : Nat), diL W k = D ++ [⟨(f : Nat), (k : Nat), W (k - 1)⟩] ∧ f < k ∧ (W k = W (k - 1) → diL W (k + 1) = D ++ [⟨(f : Nat), ((k + 1 : Nat) : Int), W (k - 1)⟩]) := by
 have hw := run_word (W := W) k hk
 have h1 : rl (altB W) k = (rn (altB W) k).1 ++ [⟨((rn (altB W) k).2 : Nat), (k : Nat)⟩] := by unfold rl; rw [if_neg (by omega)]
 have hf := (rn_inv (b := altB W) k hk).2.1
 refine ⟨((rn (altB W) k).1).map (enW W), (rn (altB W) k).2, ?_, hf, fun q => ?_⟩
 · unfold diL
   rw [h1, List.map_append, List.map_singleton]
   unfold enW
   simp only [Int.toNat_natCast, hw]
 · have h2 : rl (altB W) (k + 1) = (rn (altB W) k).1 ++ [⟨((rn (altB W) k).2 : Nat), ((k + 1 : Nat) : Int)⟩] := by
     unfold rl
     rw [if_neg (by omega), rn, if_neg (by omega), if_pos ((altB_iff hk).2 q)]
   unfold diL
   rw [h2, List.map_append, List.map_singleton]
   unfold enW
   simp only [Int.toNat_natCast, hw]
theorem diL_new {W : Nat → ByteArray} {k : Nat} (hk : k = 0 ∨ ¬W k = W (k - 1)) : diL W (k + 1) = diL W k ++ [⟨(k : Nat), ((k + 1 : Nat) : Int), W k⟩] := by
 have h := rl_new (b := altB W) (k := k) (by
   rcases hk with rfl | q
   · exact .inl rfl
   · by_cases h0 : k = 0
     · exact .inl h0
     · exact .inr fun z => q ((altB_iff (by omega)).1 z))
 unfold diL
 rw [h, List.map_append, List.map_singleton]
 unfold enW
 simp only [Int.toNat_natCast]
theorem diL_le {W : Nat → ByteArray} {k : Nat} : (diL W k).length ≤ k := by unfold diL; rw [List.length_map]; exact rl_len k
end Go.Proofs.YtlioomhcdlicmaaGreatDoor
