/- Shots summed, scaled and delayed by the program. -/
import Derived.Test.YthnnndkfpamacaaGreatDoorM4
set_option linter.all false
/- Rounding; lists of integers changed one by one; what sums, scales and delays do to a list. -/
namespace Go.Proofs.YthnnndkfpamacaaGreatDoor
open Go Go.Ab Go.Fl
attribute [local irreducible] SeqQ BlkQ LpQ RetQ Wc Wo WD WX Op1 Op1q Op1a Cf Cl From
attribute [local irreducible] Ieee.Format.order Ieee.Format.read Ieee.Format.nearest Ieee.Format.write Ieee.Format.mul Ieee.Format.div Ieee.Datum.order Ieee.Datum.integral smpE smp smpW K J U trE hdrE lchk firstNZ isNameB wid mism shE offs shortB anyLarge spanE folE
set_option maxRecDepth 10000
variable {G : Base} {h : H}
def rnd (a b : Int) : Int := (2 * a + b) / (2 * b)
theorem rnd_cases (a b : Int) (hb : 0 < b) : ((2 * a + b).tmod (2 * b) < 0 ∧ rnd a b = (2 * a + b).tdiv (2 * b) - 1) ∨ (¬ (2 * a + b).tmod (2 * b) < 0 ∧ rnd a b = (2 * a + b).tdiv (2 * b)) := by
 unfold rnd
 obtain ⟨N, hN⟩ : ∃ N, 2 * a + b = N := ⟨_, rfl⟩
 obtain ⟨D, hD⟩ : ∃ D, 2 * b = D := ⟨_, rfl⟩
 rw [hN, hD]
 have hD0 : 0 < D := by omega
 have e := Int.mul_tdiv_add_tmod N D
 have l1 := Int.tmod_lt_of_pos N hD0
 have l2 : -D < N.tmod D := by
   have := Int.tmod_lt_of_pos (-N) hD0
   rw [Int.neg_tmod] at this
   omega
 by_cases hr : N.tmod D < 0
 · refine .inl ⟨hr, ?_⟩
   have := (Int.ediv_emod_unique (a := N) (b := D) (r := N.tmod D + D) (q := N.tdiv D - 1) hD0).2 ⟨by rw [Int.mul_sub, Int.mul_one]; omega, by omega, by omega⟩
   exact this.1
 · refine .inr ⟨hr, ?_⟩
   have := (Int.ediv_emod_unique (a := N) (b := D) (r := N.tmod D) (q := N.tdiv D) hD0).2 ⟨by omega, by omega, by omega⟩
   exact this.1
theorem op_quoV {M : Mc} {l : KL} {x y : Operand} {t ty : TypeId} {a b v : Int} {k : IntKind} (hx : val l x = some (.int k a)) (hy : val l y = some (.int k b)) (h0 : b ≠ 0) (hv : k.wrap (a.tdiv b) = v) : Op1 M (.binOp .quo t x y ty) l h (.int k v) h := by
 subst hv; exact op_quo hx hy h0
theorem op_remV {M : Mc} {l : KL} {x y : Operand} {t ty : TypeId} {a b v : Int} {k : IntKind} (hx : val l x = some (.int k a)) (hy : val l y = some (.int k b)) (h0 : b ≠ 0) (hv : a.tmod b = v) : Op1 M (.binOp .rem t x y ty) l h (.int k v) h := by
 subst hv; exact op_rem hx hy h0
set_option maxHeartbeats 4000000 in
theorem c165 {a b : Int} (hb : 0 < b) (hb2 : b ≤ 1000000) (ha : a.natAbs ≤ 1000000000000000) : Cl (mz G) (.func (.func 165) #[] #[]) [.int .i64 (2 * a + b), .int .i64 (2 * b)] h (.int .i64 (rnd a b)) h := by
 have hc := rnd_cases a b hb
 have hq := Int.natAbs_tdiv_le_natAbs (2 * a + b) (2 * b)
 obtain ⟨N, hN⟩ : ∃ N, 2 * a + b = N := ⟨_, rfl⟩
 obtain ⟨D, hD⟩ : ∃ D, 2 * b = D := ⟨_, rfl⟩
 obtain ⟨Q, hQ⟩ : ∃ Q, (2 * a + b).tdiv (2 * b) = Q := ⟨_, rfl⟩
 obtain ⟨R, hR⟩ : ∃ Q, (2 * a + b).tmod (2 * b) = Q := ⟨_, rfl⟩
 have hQw : IntKind.wrap .i64 ((2 * a + b).tdiv (2 * b)) = Q := by rw [hQ] at hq ⊢; exact w64 (by omega) (by omega)
 rw [hQ, hR] at hc
 rw [hQ] at hq
 have hD0 : D ≠ 0 := by omega
 rw [hN] at hq
 rw [hN, hD] at hQw hR ⊢
 rcases hc with ⟨h1, h2⟩ | ⟨h1, h2⟩
 · rw [h2]
   refine bg_ (ar_ 16 [.tmp 4] Tryz.func165 rfl rfl rfl rfl ?_)
   repeat' (first | with_reducible refine am_ ?_ | ((with_reducible refine al_ ?_); first | ((with_reducible refine ak_ ?_); refine ac_ (ag_ rfl) ?_) | ((with_reducible refine ae_ ?_); refine ac_ (ad_ rfl) ?_) | ((with_reducible refine av_ ?_); first | refine ac_ (op_quoV rfl rfl hD0 hQw) ?_ | refine ac_ (op_remV rfl rfl hD0 hR) ?_ | refine ac_ (aF_ rfl rfl) ?_ | refine ac_ (op_sub' rfl rfl (w64 (by omega) (by omega))) ?_)) | (with_reducible first | refine ah_ ?_ | refine ao_ ?_ | refine ab_ ?_ | refine aA_ ?_) | (refine aK_ rfl (fun hb => ?_) (fun hb => aH_ hb); (try simp only [bj_, reduceCtorEq] at hb)))
   all_goals exact rq1 rfl ⟨rfl, rfl⟩
 · rw [h2]
   refine bg_ (ar_ 16 [.tmp 4] Tryz.func165 rfl rfl rfl rfl ?_)
   repeat' (first | with_reducible refine am_ ?_ | ((with_reducible refine al_ ?_); first | ((with_reducible refine ak_ ?_); refine ac_ (ag_ rfl) ?_) | ((with_reducible refine ae_ ?_); refine ac_ (ad_ rfl) ?_) | ((with_reducible refine av_ ?_); first | refine ac_ (op_quoV rfl rfl hD0 hQw) ?_ | refine ac_ (op_remV rfl rfl hD0 hR) ?_ | refine ac_ (aF_ rfl rfl) ?_)) | (with_reducible first | refine ah_ ?_ | refine ao_ ?_ | refine ab_ ?_ | refine az_ ?_ | refine aA_ ?_) | (refine aK_ rfl (fun hb => aH_ hb) (fun hb => ?_); (try simp only [bj_, reduceCtorEq] at hb)))
   all_goals exact rq1 rfl ⟨rfl, rfl⟩
set_option maxHeartbeats 4000000 in
theorem c124 {a b : Int} (hb : 0 < b) (hb2 : b ≤ 1000000) (ha : a.natAbs ≤ 1000000000000000) : Cl (mz G) (.func (.func 124) #[] #[]) [.int .i64 a, .int .i64 b] h (.int .i64 (rnd a b)) h := by
 have q165 := fun h' : H => c165 (G := G) (h := h') hb hb2 ha
 refine bg_ (ar_ 12 [.tmp 4] Tryz.func124 rfl rfl rfl rfl ?_)
 repeat' (first | with_reducible refine am_ ?_ | ((with_reducible refine al_ ?_); first | ((with_reducible refine ak_ ?_); refine ac_ (ag_ rfl) ?_) | ((with_reducible refine ae_ ?_); refine ac_ (ad_ rfl) ?_) | ((with_reducible refine av_ ?_); first | refine ac_ (op_mul' rfl rfl (w64 (by omega) (by omega))) ?_ | refine ac_ (aR_ rfl rfl (w64 (by omega) (by omega))) ?_) | ((with_reducible refine aN_ ?_); refine ac_ (aJ_ rfl rfl (q165 _)) ?_)) | (with_reducible first | refine ah_ ?_ | refine ao_ ?_ | refine ab_ ?_ | refine aA_ ?_))
 all_goals exact rq1 rfl ⟨rfl, rfl⟩
theorem rnd_le {a b : Int} (hb : 0 < b) : (rnd a b).natAbs ≤ 2 * a.natAbs + b.natAbs + 1 := by
 have hc := rnd_cases a b hb
 have hq := Int.natAbs_tdiv_le_natAbs (2 * a + b) (2 * b)
 rcases hc with ⟨_, h2⟩ | ⟨_, h2⟩ <;> rw [h2] <;> omega
def EachOk (G : Base) (h : H) (fv : Value) (P : Int → Prop) (f : Int → Int) : Prop := ∀ (g : H) (x : Int), Grow h g → P x → Cf (mz G) fv [.int .i64 x] g fun r g' => r = .int .i64 (f x) ∧ Grow g g'
set_option maxHeartbeats 4000000 in
theorem c122 {v : Value} {n : Nat} {l : List Int} {fI : Nat} {cv : Array Value} {P : Int → Prop} {f : Int → Int} (s : Sl G h 1 v n (l.map (.int .i64))) (hn : n < 1000000) (hP : ∀ x ∈ l, P x) (hf : EachOk G h (.func (.func fI) #[] cv) P f) (hw : Wf h) : Cf (mz G) (.func (.func 122) #[] #[]) [v, .func (.func fI) #[] cv] h fun r h' => (r = .slice (some ⟨h.nx, 0, some 0⟩) n n ∧ At h' h.nx (.cells ((l.map f).map (.int .i64)) 3 1 false)) ∧ Grow h h' := by
 obtain ⟨a, c, rfl⟩ := s.form
 have hl := s.length
 simp at hl
 refine ar_ 26 [.tmp 4] Tryz.func122 rfl rfl rfl rfl ?_
 repeat' (first | with_reducible refine am_ ?_ | ((with_reducible refine al_ ?_); first | ((with_reducible refine ak_ ?_); refine ac_ (ag_ rfl) ?_) | ((with_reducible refine ae_ ?_); refine ac_ (ad_ rfl) ?_) | ((with_reducible refine cE_ ?_); refine ac_ (op_mkSl rfl rfl Tryz.underlying25 zs3 zb3 zz3 rfl (by omega) (by omega)) ?_) | ((with_reducible refine aC_ ?_); refine ac_ (ax_ rfl Tryz.underlying25) ?_)) | (with_reducible first | refine ah_ ?_ | refine ao_ ?_ | refine ab_ ?_ | refine at_ ?_))
 refine bq_ (fun k => n - k) (fun k : Nat => [(1, .func (.func fI) #[] cv), (5, .slice (some ⟨h.nx, 0, some 0⟩) n n), (11, .slice a n c), (12, .int .i64 n), (13, .int .i64 k)]) (fun k h' => Grow h h' ∧ At h' h.nx (.cells ((l.take k).map (fun x => .int .i64 (f x)) ++ List.replicate (n - k) (.int .i64 0)) 3 1 false) ∧ k ≤ n) 0 (ai_ ⟨rfl, rfl, rfl, rfl, rfl, trivial⟩) ⟨aD_, by simpa using At.new h _, Nat.zero_le _⟩ ?_
 rintro k h' ⟨hgr, hat, hk⟩
 have hgn := hgr.nx
 have hla := hat.lt
 by_cases hlt : k < n
 · obtain ⟨ad, h1, h2⟩ := (s.grow hgr).addr (M := mz G) Tryz.underlying25 (es := 1) zs3 (i := k) (k := .i64) (by omega) (by omega)
   have h3 : acell G h' ad = some (.int .i64 (l[k]'(by omega))) := h2.get 0 _ (by simp)
   have hx := hP _ (List.getElem_mem (show k < l.length by omega))
   have hst := fill_step (f := fun x => Value.int .i64 (f x)) (z := .int .i64 0) hl hlt rfl
   obtain ⟨x, hxe⟩ : ∃ x, l[k]'(by omega) = x := ⟨_, rfl⟩
   simp only [hxe] at hx h3 hst
   have qf := fun (g : H) (gg : Grow h g) => hf g x gg hx
   repeat' (first | with_reducible refine am_ ?_ | ((with_reducible refine al_ ?_); first | ((with_reducible refine ak_ ?_); refine ac_ (ag_ rfl) ?_) | ((with_reducible refine ae_ ?_); refine ac_ (ad_ rfl) ?_) | ((with_reducible refine aw_ ?_); first | refine ac_ (as_ rfl rfl h1) ?_ | refine ac_ (bF_ (o := k) rfl rfl Tryz.underlying25 zs3 (by omega) (by omega) (by omega)) ?_) | ((with_reducible refine au_ ?_); refine ac_ (aI_ rfl Tryz.underlying3 rfl h3) ?_) | ((with_reducible refine aG_ ?_); refine ci_ (cC_ rfl rfl (hat.grow aD_) rfl zs3 (by simp; omega) rfl hst) ?_) | ((with_reducible refine av_ ?_); first | refine ac_ (aF_ rfl rfl) ?_ | refine ac_ (aR_ rfl rfl (w64 (by omega) (by omega))) ?_) | ((with_reducible refine aN_ ?_); (refine aW_ rfl rfl rfl rfl (qf _ aD_) rfl rfl ?_; rintro _ _ ⟨rfl, hq⟩; all_goals ((try (have hqn := hq.nx)); (try simp only [bG_] at hqn))))) | (with_reducible first | refine ah_ ?_ | refine ao_ ?_ | refine ab_ ?_ | refine az_ ?_ | refine at_ ?_ | refine aP_ ?_) | (refine aK_ rfl (fun hb => ?_) (fun hb => ?_) <;> (try simp only [bj_, reduceCtorEq] at hb) <;> (try (exfalso; omega))))
   refine aX_ (k + 1) (by omega) (ai_ ⟨rfl, rfl, rfl, rfl, rfl, trivial⟩) ⟨aD_, an_, by omega⟩
 · have hkn : k = n := by omega
   subst hkn
   repeat' (first | with_reducible refine am_ ?_ | ((with_reducible refine al_ ?_); first | ((with_reducible refine ak_ ?_); refine ac_ (ag_ rfl) ?_) | ((with_reducible refine ae_ ?_); refine ac_ (ad_ rfl) ?_) | ((with_reducible refine av_ ?_); refine ac_ (aF_ rfl rfl) ?_)) | (with_reducible first | refine ah_ ?_ | refine ao_ ?_ | refine ab_ ?_ | refine aA_ ?_ | refine be_ ?_ | refine bf_ ?_ | refine bi_ ?_) | refine bS_ rfl ?_ | (refine aK_ rfl (fun hb => ?_) (fun hb => ?_) <;> (try simp only [bj_, reduceCtorEq] at hb) <;> (try (exfalso; omega))))
   rw [fill_end hl] at hat
   exact rq1 rfl ⟨⟨rfl, by rw [List.map_map]; exact hat⟩, hgr⟩
def sclF (x y : Int) (_ : Nat) (l : List Int) : List Int := l.map fun z => rnd (x * z) y
theorem mul_bound {x z : Int} (hx : x.natAbs ≤ 1024) (hz : z.natAbs ≤ 16384) : (x * z).natAbs ≤ 16777216 := by
 rw [Int.natAbs_mul]
 exact Nat.le_trans (Nat.mul_le_mul hx hz) (by decide)
set_option maxHeartbeats 4000000 in
theorem scl_each {x y : Int} {B1 B2 : Nat} (hx : x.natAbs ≤ 1024) (hy : 0 < y) (hy2 : y ≤ 1024) (a1 : At h B1 (.cells [.int .i64 x] 3 1 false)) (a2 : At h B2 (.cells [.int .i64 y] 3 1 false)) : EachOk G h (.func (.func 123) #[] #[.pointer (some ⟨B1, 0, some 0⟩), .pointer (some ⟨B2, 0, some 0⟩)]) (fun z => z.natAbs ≤ 16384) (fun z => rnd (x * z) y) := by
 intro g z gg hz
 have b1 := a1.grow gg
 have b2 := a2.grow gg
 have hm := mul_bound hx hz
 have q123 := fun (h' : H) => c124 (G := G) (h := h') (a := x * z) (b := y) hy (by omega) (by omega)
 have hw : IntKind.wrap .i64 (x * z) = x * z := w64 (by omega) (by omega)
 refine cf_enter (sz := 10) (rs := [.tmp 4]) (all := [.int .i64 z, .pointer (some ⟨B1, 0, some 0⟩), .pointer (some ⟨B2, 0, some 0⟩)]) Tryz.func123 rfl rfl rfl rfl rfl ?_
 repeat' (first | with_reducible refine am_ ?_ | ((with_reducible refine al_ ?_); first | ((with_reducible refine ak_ ?_); refine ac_ (ag_ rfl) ?_) | ((with_reducible refine ae_ ?_); refine ac_ (ad_ rfl) ?_) | ((with_reducible refine av_ ?_); refine ac_ (op_mul' rfl rfl hw) ?_) | ((with_reducible refine au_ ?_); refine ac_ (aq_ rfl an_ Tryz.underlying3 rfl rfl) ?_) | ((with_reducible refine aN_ ?_); refine ac_ (aJ_ rfl rfl (q123 _)) ?_)) | (with_reducible first | refine ah_ ?_ | refine ao_ ?_ | refine ab_ ?_ | refine aA_ ?_))
 all_goals exact rq1 rfl ⟨rfl, aD_⟩
set_option maxHeartbeats 4000000 in
theorem scl_clos {ts : List Trc} {x y : Int} {B1 B2 : Nat} (hx : x.natAbs ≤ 1024) (hy : 0 < y) (hy2 : y ≤ 1024) (hl : ∀ t ∈ ts, t.l.length = t.n) (hl2 : ∀ t ∈ ts, t.n ≤ 1024) (hv : ∀ t ∈ ts, ∀ x ∈ t.l, smpE x = 0) (a1 : At h B1 (.cells [.int .i64 x] 3 1 false)) (a2 : At h B2 (.cells [.int .i64 y] 3 1 false)) :
   ClosOk G h (.func (.func 121) #[] #[.pointer (some ⟨B1, 0, some 0⟩), .pointer (some ⟨B2, 0, some 0⟩)]) ts (sclF x y) := by
 intro k q hh
 have hm := List.getElem_mem q
 have h2 := hl _ hm
 have h4 := hl2 _ hm
 have h3 := hv _ hm
 have hlen : (sclF x y k ((ts[k]).l.map smp)).length = (ts[k]).n := by unfold sclF; simp; omega
 have hb : ∀ z ∈ (ts[k]).l.map smp, z.natAbs ≤ 16384 := fun z hz => by
   obtain ⟨u, hu, rfl⟩ := List.mem_map.1 hz
   exact smp_le (h3 u hu)
 refine ⟨⟨by omega, fun z hz => ?_⟩, fun g0 g g1 w0 g2 at2 => ?_⟩
 · obtain ⟨u, hu, rfl⟩ := List.mem_map.1 hz
   have := mul_bound hx (hb u hu)
   have := rnd_le (a := x * u) hy
   omega
 · rw [hlen]
   obtain ⟨t, ht⟩ : ∃ t, ts[k] = t := ⟨_, rfl⟩
   rw [ht] at h2 h3 h4 hb at2 ⊢
   obtain ⟨tn, htn⟩ : ∃ tn, t.n = tn := ⟨_, rfl⟩
   rw [htn] at h2 h4 ⊢
   have w := g2.wf w0
   have hs : Sl G g 1 (.slice (some ⟨g0.nx, 0, some 0⟩) tn tn) tn ((t.l.map smp).map (.int .i64)) := Sl.ofAt at2 (by simp [h2]) (Nat.le_refl _)
   have q121 := fun (g3 : H) (gg : Grow g g3) (w3 : Wf g3) => c122 (G := G) (hs.grow gg) (by omega) hb (scl_each hx hy hy2 (a1.grow (g1.trans (g2.trans gg))) (a2.grow (g1.trans (g2.trans gg)))) w3
   have hsz : sclF x y k (t.l.map smp) = (t.l.map smp).map fun z => rnd (x * z) y := rfl
   rw [hsz]
   obtain ⟨L, hL⟩ : ∃ L, (t.l.map smp).map (fun z => rnd (x * z) y) = L := ⟨_, rfl⟩
   have hLl : L.length = tn := by rw [← hL]; simp [h2]
   simp only [hL] at q121 ⊢
   clear hL hs at2
   refine cf_enter (sz := 10) (rs := [.tmp 6]) (all := [.int .i64 k, .slice (some ⟨g0.nx, 0, some 0⟩) tn tn, .pointer (some ⟨B1, 0, some 0⟩), .pointer (some ⟨B2, 0, some 0⟩)]) Tryz.func121 rfl rfl rfl rfl rfl ?_
   repeat' (first | with_reducible refine am_ ?_ | ((with_reducible refine al_ ?_); first | ((with_reducible refine ak_ ?_); refine ac_ (ag_ rfl) ?_) | ((with_reducible refine ae_ ?_); refine ac_ (ad_ rfl) ?_) | ((with_reducible refine ik_makeFunc ?_); refine ac_ (op_makeFunc (fun _ q => by cases q) rfl rfl) ?_) | ((with_reducible refine aN_ ?_); (refine aW_ rfl rfl rfl rfl (q121 _ aD_ aZ_) rfl rfl ?_; rintro _ _ ⟨⟨rfl, at3⟩, hq⟩; all_goals ((try (have hqn := hq.nx)); (try simp only [bG_] at hqn))))) | (with_reducible first | refine ah_ ?_ | refine ao_ ?_ | refine ab_ ?_ | refine aA_ ?_))
   exact rq1 rfl ⟨⟨_, _, rfl, Sl.ofAt at3 (by simp [hLl]) (Nat.le_refl _)⟩, aD_⟩
/- What delays and sums do to a list; hollow shots; shots that are alike. -/
def dlyV (x : Int) (l : List Int) (i : Nat) : Int := if 0 ≤ (i : Int) - x ∧ (i : Int) - x < l.length then l.getD ((i : Int) - x).toNat 0 else 0
def dlyF (x : Int) (_ : Nat) (l : List Int) : List Int := (List.range l.length).map (dlyV x l)
theorem fill_skip {α : Type} {f : α → Value} {z : Value} {l : List α} {k n : Nat} (hn : l.length = n) (hk : k < n) (hu : z = f (l[k]'(by omega))) : (l.take k).map f ++ List.replicate (n - k) z = (l.take (k + 1)).map f ++ List.replicate (n - (k + 1)) z := by
 obtain ⟨m, hm⟩ : ∃ m, n - k = m + 1 := ⟨n - k - 1, by omega⟩
 rw [hm, show n - (k + 1) = m by omega, List.replicate_succ, List.take_succ_eq_append_getElem (by omega), List.map_append, List.append_assoc]
 simp [← hu]
theorem dlyV_le {x : Int} {l : List Int} {i : Nat} (hb : ∀ z ∈ l, z.natAbs ≤ 16384) : (dlyV x l i).natAbs ≤ 16384 := by
 unfold dlyV
 split
 · exact getD_bound hb _
 · simp
set_option maxHeartbeats 4000000 in
theorem dly_clos {ts : List Trc} {x : Int} {B1 : Nat} (hx : x.natAbs ≤ 1024) (hl : ∀ t ∈ ts, t.l.length = t.n) (hl2 : ∀ t ∈ ts, t.n ≤ 1024) (hv : ∀ t ∈ ts, ∀ x ∈ t.l, smpE x = 0) (a1 : At h B1 (.cells [.int .i64 x] 3 1 false)) :
   ClosOk G h (.func (.func 125) #[] #[.pointer (some ⟨B1, 0, some 0⟩)]) ts (dlyF x) := by
 intro k q hh
 have hm := List.getElem_mem q
 have h2 := hl _ hm
 have h4 := hl2 _ hm
 have h3 := hv _ hm
 have hlen : (dlyF x k ((ts[k]).l.map smp)).length = (ts[k]).n := by unfold dlyF; simp; omega
 have hb : ∀ z ∈ (ts[k]).l.map smp, z.natAbs ≤ 16384 := fun z hz => by
   obtain ⟨u, hu, rfl⟩ := List.mem_map.1 hz
   exact smp_le (h3 u hu)
 refine ⟨⟨by omega, fun z hz => ?_⟩, fun g0 g g1 w0 g2 at2 => ?_⟩
 · obtain ⟨u, hu, rfl⟩ := List.mem_map.1 hz
   have := dlyV_le (x := x) (i := u) hb
   omega
 · rw [hlen]
   obtain ⟨t, ht⟩ : ∃ t, ts[k] = t := ⟨_, rfl⟩
   rw [ht] at h2 at2 h4 ⊢
   obtain ⟨tn, htn⟩ : ∃ tn, t.n = tn := ⟨_, rfl⟩
   rw [htn] at h2 h4 ⊢
   obtain ⟨L, hL⟩ : ∃ L, t.l.map smp = L := ⟨_, rfl⟩
   have hLl : L.length = tn := by rw [← hL]; simp [h2]
   rw [hL] at at2 ⊢
   have w := g2.wf w0
   have gn := g2.nx
   have hs : Sl G g 1 (.slice (some ⟨g0.nx, 0, some 0⟩) tn tn) tn (L.map (.int .i64)) := Sl.ofAt at2 (by simp [hLl]) (Nat.le_refl _)
   have b1 := a1.grow (g1.trans g2)
   have hsz : dlyF x k L = (List.range tn).map (dlyV x L) := by unfold dlyF; rw [hLl]
   rw [hsz]
   have hrl : (List.range tn).length = tn := List.length_range
   clear hm hlen ht hb hL h3 hl hl2 hv hsz
   refine cf_enter (sz := 37) (rs := [.tmp 5]) (all := [.int .i64 k, .slice (some ⟨g0.nx, 0, some 0⟩) tn tn, .pointer (some ⟨B1, 0, some 0⟩)]) Tryz.func125 rfl rfl rfl rfl rfl ?_
   repeat' (first | with_reducible refine am_ ?_ | ((with_reducible refine al_ ?_); first | ((with_reducible refine ak_ ?_); refine ac_ (ag_ rfl) ?_) | ((with_reducible refine ae_ ?_); refine ac_ (ad_ rfl) ?_) | ((with_reducible refine cE_ ?_); refine ac_ (op_mkSl rfl rfl Tryz.underlying25 zs3 zb3 zz3 rfl (by omega) (by omega)) ?_) | ((with_reducible refine aC_ ?_); refine ac_ (ax_ rfl Tryz.underlying25) ?_)) | (with_reducible first | refine ah_ ?_ | refine ao_ ?_ | refine ab_ ?_ | refine at_ ?_))
   refine bq_ (fun i => tn - i) (fun i : Nat => [(1, .slice (some ⟨g0.nx, 0, some 0⟩) tn tn), (2, .pointer (some ⟨B1, 0, some 0⟩)), (6, .slice (some ⟨g.nx, 0, some 0⟩) tn tn), (13, .int .i64 tn), (14, .int .i64 i)]) (fun i h' => Grow g h' ∧ At h' g.nx (.cells (((List.range tn).take i).map (fun i => .int .i64 (dlyV x L i)) ++ List.replicate (tn - i) (.int .i64 0)) 3 1 false) ∧ i ≤ tn) 0 (ai_ ⟨rfl, rfl, rfl, rfl, rfl, trivial⟩) ⟨aD_, by simpa using At.new g _, Nat.zero_le _⟩ ?_
   rintro i h' ⟨hgr, hat, hi⟩
   have hgn := hgr.nx
   have hla := hat.lt
   by_cases hlt : i < tn
   · have c1 := b1.grow hgr
     have hst := fill_step (f := fun i => Value.int .i64 (dlyV x L i)) (z := .int .i64 0) hrl hlt rfl
     have hsk := fun q => fill_skip (f := fun i => Value.int .i64 (dlyV x L i)) (z := .int .i64 0) hrl hlt q
     simp only [List.getElem_range] at hst hsk
     unfold dlyV at hst hsk
     by_cases hin : 0 ≤ (i : Int) - x ∧ (i : Int) - x < tn
     · obtain ⟨j, hj⟩ := Int.eq_ofNat_of_zero_le hin.1
       rw [if_pos (by rw [hLl]; exact hin)] at hst
       obtain ⟨ad, e1, e3⟩ := slI_at (hs.grow hgr) (i := (i : Int) - x) (q := j) (by omega) hj
       have hj2 : ((i : Int) - x).toNat = j := by omega
       rw [hj2] at hst
       obtain ⟨y, hy⟩ : ∃ y, L.getD j 0 = y := ⟨_, rfl⟩
       rw [hy] at hst e3
       repeat' (first | with_reducible refine am_ ?_ | ((with_reducible refine al_ ?_); first | ((with_reducible refine ak_ ?_); refine ac_ (ag_ rfl) ?_) | ((with_reducible refine ae_ ?_); refine ac_ (ad_ rfl) ?_) | ((with_reducible refine aw_ ?_); first | refine ac_ (as_ rfl rfl e1) ?_ | refine ac_ (bF_ (b := g.nx) (o := i) rfl rfl Tryz.underlying25 zs3 (by omega) (by omega) (by omega)) ?_) | ((with_reducible refine au_ ?_); first | refine ac_ (aI_ rfl Tryz.underlying3 rfl e3) ?_ | refine ac_ (aq_ rfl an_ Tryz.underlying3 rfl rfl) ?_) | ((with_reducible refine aG_ ?_); refine ci_ (cC_ (b := g.nx) rfl rfl hat rfl zs3 (by simp; omega) rfl hst) ?_) | ((with_reducible refine av_ ?_); first | refine ac_ (aF_ rfl rfl) ?_ | refine ac_ (op_sub' rfl rfl (w64 (by omega) (by omega))) ?_ | refine ac_ (op_geq rfl rfl) ?_ | refine ac_ (aR_ rfl rfl (w64 (by omega) (by omega))) ?_) | ((with_reducible refine aS_ ?_); refine ac_ (aT_ rfl rfl) ?_) | ((with_reducible refine cG_ ?_); first | ((with_reducible refine bB_ ?_); refine aj_ rfl rfl rfl (ag_ rfl) rfl rfl ?_) | ((with_reducible refine bW_ ?_); refine aj_ rfl rfl rfl (ax_ rfl Tryz.underlying25) rfl rfl ?_) | ((with_reducible refine bE_ ?_); refine aj_ rfl rfl rfl (aF_ rfl rfl) rfl rfl ?_) | (refine bb_ rfl rfl rfl (fun hb => ?_) (fun hb => aH_ hb); (try simp only [bj_, reduceCtorEq] at hb)))) | (with_reducible first | refine ah_ ?_ | refine ao_ ?_ | refine ab_ ?_ | refine az_ ?_ | refine at_ ?_ | refine aP_ ?_) | (refine aK_ rfl (fun hb => ?_) (fun hb => aH_ hb); (try simp only [bj_, reduceCtorEq] at hb)))
       all_goals exact aX_ (i + 1) (by omega) (ai_ ⟨rfl, rfl, rfl, rfl, rfl, trivial⟩) ⟨aD_, (by unfold dlyV; exact At.set hat _), by omega⟩
     · have hz := hsk (by rw [if_neg (by rw [hLl]; exact hin)])
       have hd : (i : Int) - x < 0 ∨ (tn : Int) ≤ (i : Int) - x := by omega
       rcases hd with hd | hd
       · repeat' (first | with_reducible refine am_ ?_ | ((with_reducible refine al_ ?_); first | ((with_reducible refine ak_ ?_); refine ac_ (ag_ rfl) ?_) | ((with_reducible refine ae_ ?_); refine ac_ (ad_ rfl) ?_) | ((with_reducible refine av_ ?_); first | refine ac_ (aF_ rfl rfl) ?_ | refine ac_ (op_sub' rfl rfl (w64 (by omega) (by omega))) ?_ | refine ac_ (op_geq rfl rfl) ?_ | refine ac_ (aR_ rfl rfl (w64 (by omega) (by omega))) ?_) | ((with_reducible refine au_ ?_); refine ac_ (aq_ rfl an_ Tryz.underlying3 rfl rfl) ?_) | ((with_reducible refine aS_ ?_); refine ac_ (aO_ rfl rfl) ?_) | ((with_reducible refine cG_ ?_); first | refine bC_ rfl rfl rfl rfl rfl rfl ?_ | (refine bb_ rfl rfl rfl (fun hb => aH_ hb) (fun hb => ?_); (try simp only [bj_, reduceCtorEq] at hb)))) | (with_reducible first | refine ah_ ?_ | refine ao_ ?_ | refine ab_ ?_ | refine az_ ?_ | refine at_ ?_ | refine aP_ ?_) | refine bs_ rfl ?_ | (refine aK_ rfl (fun hb => ?_) (fun hb => aH_ hb); (try simp only [bj_, reduceCtorEq] at hb)))
         all_goals exact aX_ (i + 1) (by omega) (ai_ ⟨rfl, rfl, rfl, rfl, rfl, trivial⟩) ⟨aD_, (by unfold dlyV at hat ⊢; rw [← hz]; exact hat), by omega⟩
       · repeat' (first | with_reducible refine am_ ?_ | ((with_reducible refine al_ ?_); first | ((with_reducible refine ak_ ?_); refine ac_ (ag_ rfl) ?_) | ((with_reducible refine ae_ ?_); refine ac_ (ad_ rfl) ?_) | ((with_reducible refine av_ ?_); first | refine ac_ (aF_ rfl rfl) ?_ | refine ac_ (op_sub' rfl rfl (w64 (by omega) (by omega))) ?_ | refine ac_ (op_geq rfl rfl) ?_ | refine ac_ (aR_ rfl rfl (w64 (by omega) (by omega))) ?_) | ((with_reducible refine au_ ?_); refine ac_ (aq_ rfl an_ Tryz.underlying3 rfl rfl) ?_) | ((with_reducible refine aS_ ?_); refine ac_ (aT_ rfl rfl) ?_) | ((with_reducible refine cG_ ?_); first | ((with_reducible refine bB_ ?_); refine aj_ rfl rfl rfl (ag_ rfl) rfl rfl ?_) | ((with_reducible refine bW_ ?_); refine aj_ rfl rfl rfl (ax_ rfl Tryz.underlying25) rfl rfl ?_) | ((with_reducible refine bE_ ?_); refine aj_ rfl rfl rfl (aF_ rfl rfl) rfl rfl ?_) | (refine bb_ rfl rfl rfl (fun hb => ?_) (fun hb => aH_ hb); (try simp only [bj_, reduceCtorEq] at hb)))) | (with_reducible first | refine ah_ ?_ | refine ao_ ?_ | refine ab_ ?_ | refine az_ ?_ | refine at_ ?_ | refine aP_ ?_) | (refine aK_ rfl (fun hb => aH_ hb) (fun hb => ?_); (try simp only [bj_, reduceCtorEq] at hb)) | (refine aK_ rfl (fun hb => ?_) (fun hb => aH_ hb); (try simp only [bj_, reduceCtorEq] at hb)))
         all_goals exact aX_ (i + 1) (by omega) (ai_ ⟨rfl, rfl, rfl, rfl, rfl, trivial⟩) ⟨aD_, (by unfold dlyV at hat ⊢; rw [← hz]; exact hat), by omega⟩
   · have hie : i = tn := by omega
     subst hie
     repeat' (first | with_reducible refine am_ ?_ | ((with_reducible refine al_ ?_); first | ((with_reducible refine ak_ ?_); refine ac_ (ag_ rfl) ?_) | ((with_reducible refine ae_ ?_); refine ac_ (ad_ rfl) ?_) | ((with_reducible refine av_ ?_); refine ac_ (aF_ rfl rfl) ?_)) | (with_reducible first | refine ah_ ?_ | refine ao_ ?_ | refine ab_ ?_ | refine aA_ ?_ | refine be_ ?_ | refine bf_ ?_ | refine bi_ ?_) | refine bS_ rfl ?_ | (refine aK_ rfl (fun hb => aH_ hb) (fun hb => ?_); (try simp only [bj_, reduceCtorEq] at hb)))
     rw [fill_end hrl] at hat
     refine rq1 rfl ⟨⟨_, _, rfl, ?_⟩, aD_⟩
     rw [List.map_map]
     exact Sl.ofAt hat (by simp) (Nat.le_refl _)
def addF (l y : List Int) : List Int := List.zipWith (· + ·) l y
def addP (l y : List Int) (k : Nat) : List Int := (List.range l.length).map fun i => if i < k then l.getD i 0 + y.getD i 0 else l.getD i 0
theorem addP_zero (l y : List Int) : addP l y 0 = l := by
 refine List.ext_getElem (by simp [addP]) fun i h1 h2 => ?_
 simp [addP, List.getD, List.getElem?_eq_getElem h2]
theorem addP_end {l y : List Int} (h : l.length = y.length) : addP l y l.length = addF l y := by
 refine List.ext_getElem (by simp [addP, addF, h]) fun i h1 h2 => ?_
 have a1 : i < l.length := by simpa [addP] using h1
 have a2 : i < y.length := by omega
 simp [addP, addF, a1, List.getD, List.getElem?_eq_getElem a1, List.getElem?_eq_getElem a2]
theorem addP_step {l y : List Int} {k : Nat} (hk : k < l.length) : ((addP l y k).map (Value.int .i64)).set k (.int .i64 (l.getD k 0 + y.getD k 0)) = (addP l y (k + 1)).map (.int .i64) := by
 refine List.ext_getElem (by simp [addP]) fun i h1 h2 => ?_
 rw [List.getElem_set]
 split
 · subst i; simp [addP]
 · have : (i < k) ↔ i < k + 1 := by omega
   simp [addP, this]
theorem addP_get {l y : List Int} {k : Nat} (hk : k < l.length) : ((addP l y k).map (Value.int .i64))[k]? = some (.int .i64 (l.getD k 0)) := by
 simp [addP, hk]
set_option maxHeartbeats 4000000 in
theorem add_ok : ∀ h, InOk G h (.func (.func 120) #[] #[]) (fun l y => l.length = y.length ∧ l.length ≤ 1024 ∧ (∀ x ∈ l, x.natAbs ≤ 16384) ∧ ∀ x ∈ y, x.natAbs ≤ 16384) addF := by
 rintro h l y ⟨p0, p1, p2, p3⟩
 have hfl : (addF l y).length = l.length := by simp [addF, p0]
 refine ⟨⟨by omega, fun x hx => ?_⟩, fun g0 g b g1 w0 g2 at1 aty hne => ?_⟩
 · unfold addF at hx
   obtain ⟨i, hi, rfl⟩ := List.mem_iff_getElem.1 hx
   rw [List.getElem_zipWith]
   have := p2 _ (List.getElem_mem (show i < l.length by simp at hi; omega))
   have := p3 _ (List.getElem_mem (show i < y.length by simp at hi; omega))
   omega
 · rw [hfl]
   obtain ⟨n, hn⟩ : ∃ n, l.length = n := ⟨_, rfl⟩
   have hny : y.length = n := by omega
   have hgn := g2.nx
   have lt1 := at1.lt
   have lt2 := aty.lt
   have he := addP_end p0
   rw [hn] at he
   rw [hn, hny]
   clear hfl g1
   refine ar_ 23 [.tmp 4] Tryz.func120 rfl rfl rfl rfl ?_
   repeat' (first | with_reducible refine am_ ?_ | ((with_reducible refine al_ ?_); first | ((with_reducible refine ak_ ?_); refine ac_ (ag_ rfl) ?_) | ((with_reducible refine ae_ ?_); refine ac_ (ad_ rfl) ?_) | ((with_reducible refine aC_ ?_); refine ac_ (ax_ rfl Tryz.underlying25) ?_)) | (with_reducible first | refine ah_ ?_ | refine ao_ ?_ | refine ab_ ?_ | refine at_ ?_))
   refine bq_ (fun i => n - i) (fun i : Nat => [(0, .slice (some ⟨g0.nx, 0, some 0⟩) n n), (1, .slice (some ⟨b, 0, some 0⟩) n n), (7, .int .i64 n), (8, .int .i64 i)]) (fun i h' => (Grow g0 h' ∧ g.nx ≤ h'.nx) ∧ At h' g0.nx (.cells ((addP l y i).map (.int .i64)) 3 1 false) ∧ At h' b (.cells (y.map (.int .i64)) 3 1 false) ∧ i ≤ n) 0 (ai_ ⟨rfl, rfl, rfl, rfl, trivial⟩) ⟨⟨aD_, Nat.le_refl _⟩, by rw [addP_zero]; exact at1, aty, Nat.zero_le _⟩ ?_
   clear at1 aty
   rintro i h' ⟨⟨hgr, hnx⟩, hat, haty, hi⟩
   by_cases hlt : i < n
   · have e1 := addP_get (l := l) (y := y) (k := i) (by omega)
     have e2 : (y.map (Value.int .i64))[i]? = some (.int .i64 (y.getD i 0)) := by
       have : i < y.length := by omega
       simp [List.getD, List.getElem?_eq_getElem this]
     have hst := addP_step (l := l) (y := y) (k := i) (by omega)
     have b1 := getD_bound p2 i
     have b2 := getD_bound p3 i
     obtain ⟨u, hu⟩ : ∃ u, l.getD i 0 = u := ⟨_, rfl⟩
     obtain ⟨z, hz⟩ : ∃ u, y.getD i 0 = u := ⟨_, rfl⟩
     rw [hu] at e1 b1 hst
     rw [hz] at e2 b2 hst
     have hlen1 : ((addP l y i).map (Value.int .i64)).length = n := by simp [addP, hn]
     repeat' (first | with_reducible refine am_ ?_ | ((with_reducible refine al_ ?_); first | ((with_reducible refine ak_ ?_); refine ac_ (ag_ rfl) ?_) | ((with_reducible refine ae_ ?_); refine ac_ (ad_ rfl) ?_) | ((with_reducible refine av_ ?_); first | refine ac_ (aF_ rfl rfl) ?_ | refine ac_ (aR_ rfl rfl (w64 (by omega) (by omega))) ?_)) | ((with_reducible refine bL_ ?_); ((with_reducible refine bK_ ?_); first | ((with_reducible refine bI_ ?_); refine bn_ (af_ rfl) rfl rfl (aE_ rfl (ag_ rfl)) rfl rfl rfl ?_) | ((with_reducible refine bo_ ?_); first | refine bn_ (af_ rfl) rfl rfl (aE_ rfl (bF_ (b := g0.nx) (o := i) rfl rfl Tryz.underlying25 zs3 (by omega) (by omega) (by omega))) rfl rfl rfl ?_ | refine bn_ (af_ rfl) rfl rfl (aE_ rfl (bF_ (b := b) (o := i) rfl rfl Tryz.underlying25 zs3 (by omega) (by omega) (by omega))) rfl rfl rfl ?_) | ((with_reducible refine by_ ?_); first | refine bp_ (af_ rfl) rfl (aE_ rfl (bc_ (b := g0.nx) rfl an_ Tryz.underlying3 rfl e1)) rfl rfl rfl ?_ | refine bp_ (af_ rfl) rfl (aE_ rfl (bc_ (b := b) rfl an_ Tryz.underlying3 rfl e2)) rfl rfl rfl ?_) | ((with_reducible refine cf_ ?_); refine wx_ee0 (af_ rfl) rfl rfl (cC_ (b := g0.nx) rfl rfl an_ rfl zs3 (by omega) rfl hst) rfl ?_) | ((with_reducible refine xk_bin ?_); refine bn_ (af_ rfl) rfl rfl (aE_ rfl (aR_ rfl rfl (w64 (by omega) (by omega)))) rfl rfl rfl ?_) | with_reducible refine bN_ ?_ ?_)) | with_reducible exact bA_ | with_reducible refine bk_ ?_ ?_ | ((with_reducible refine bM_ ?_); first | exact bz_ | refine bx_ rfl ?_ | refine aB_ rfl rfl (aE_ rfl (bc_ (b := g0.nx) rfl an_ Tryz.underlying3 rfl e1)) ?_ | refine aB_ rfl rfl (aE_ rfl (bc_ (b := b) rfl an_ Tryz.underlying3 rfl e2)) ?_) | (with_reducible first | refine ah_ ?_ | refine ao_ ?_ | refine ab_ ?_ | refine az_ ?_ | refine at_ ?_ | refine aP_ ?_) | (refine aK_ rfl (fun hb => ?_) (fun hb => ?_) <;> (try simp only [bj_, reduceCtorEq] at hb) <;> (try (exfalso; omega))) | refine br_ (id := 4) 11 [0, 0, 3, 7, 0, 0, 48, 112, 255, 511, 1023] [0, 1, 2, 3, 4, 5, 6, 7, 8, 9, 10] (by kernel_rfl) (by kernel_rfl) rfl rfl ?_)
     all_goals exact aX_ (i + 1) (by omega) (ai_ ⟨rfl, rfl, rfl, rfl, trivial⟩) ⟨⟨aD_, by simp only [H.nx_set, H.nx_bump]; omega⟩, an_, an_, by omega⟩
   · have hie : i = n := by omega
     subst hie
     repeat' (first | with_reducible refine am_ ?_ | ((with_reducible refine al_ ?_); first | ((with_reducible refine ak_ ?_); refine ac_ (ag_ rfl) ?_) | ((with_reducible refine ae_ ?_); refine ac_ (ad_ rfl) ?_) | ((with_reducible refine av_ ?_); refine ac_ (aF_ rfl rfl) ?_)) | (with_reducible first | refine ah_ ?_ | refine ao_ ?_ | refine ab_ ?_ | refine aA_ ?_ | refine be_ ?_ | refine bf_ ?_ | refine bi_ ?_) | refine bS_ rfl ?_ | (refine aK_ rfl (fun hb => ?_) (fun hb => ?_) <;> (try simp only [bj_, reduceCtorEq] at hb) <;> (try (exfalso; omega))))
     rw [he] at hat
     exact rq1 rfl ⟨⟨_, _, rfl, Sl.ofAt hat (by simp [addF]; omega) (Nat.le_refl _)⟩, hgr⟩
set_option maxHeartbeats 4000000 in
theorem c164 {nm : ByteArray} {a : Option Addr} {n c : Nat} {ts : List Trc} (s : SlT G h (.slice a n c) n ts) (hn : n < 1000000) (hw : Wf h) : Cf (mz G) (.func (.func 164) #[] #[]) [.agg ⟨shC nm a n c⟩] h fun r h' => r = .bool (!anyW ts) ∧ Grow h h' := by
 have hlen := s.len
 refine ar_ 7 [.cell 2 4] Tryz.func164 rfl rfl rfl rfl ?_
 repeat' (first | with_reducible refine am_ ?_ | ((with_reducible refine al_ ?_); first | ((with_reducible refine bw_ ?_); refine ac_ (aL_ rfl cc_ rfl) ?_) | ((with_reducible refine aU_ ?_); refine ac_ (aQ_ zz4 zs4 rfl rfl rfl) ?_) | ((with_reducible refine au_ ?_); refine ac_ (ay_ rfl an_ Tryz.underlying54 rfl cc_ rfl rfl) ?_) | ((with_reducible refine ba_ (f := 109) ?_); (refine aW_ rfl rfl rfl rfl (c109) rfl rfl ?_; rintro _ _ ⟨rfl, rfl⟩; all_goals ((try (have hqn := hq.nx)); (try simp only [bG_] at hqn))))) | (with_reducible first | refine ah_ ?_ | refine ao_ ?_ | refine ab_ ?_ | refine at_ ?_))
 refine wc_cut (ι := Unit) (fun _ => [(2, .pointer (some ⟨h.nx + 1, 0, some 0⟩)), (4, whF (h.nx + 2))]) (fun _ h' => h'.nx = h.nx + 3 ∧ Wf h' ∧ Grow h h' ∧ At h' (h.nx + 1) (.cells [.bool false] 4 1 false) ∧ At h' (h.nx + 2) (.cells (shC nm a n c) 54 2 false)) () (ai_ ⟨rfl, rfl, trivial⟩) ⟨rfl, aZ_, aD_, an_, an_⟩ ?_
 rintro _ h0 ⟨hnx, w0, g0, a1, a2⟩
 refine cP_ rfl fun e lp he hlp => ?_
 refine (c160 (nm := nm) (a := a) (c := c) (ts := ts) (fun k g => Wf g ∧ Grow h g ∧ h0.nx + 1 ≤ g.nx ∧ At g (h.nx + 1) (.cells [.bool false] 4 1 false) ∧ At g (h.nx + 2) (.cells (shC nm a n c) 54 2 false) ∧ At g h0.nx lp ∧ anyW (ts.drop k) = anyW ts)
   (fun g => Wf g ∧ Grow h g ∧ At g (h.nx + 1) (.cells [.bool (!anyW ts)] 4 1 false) ∧ ∃ pe ps asg bd, At g h0.nx (.loop .done (some .ret) pe ps asg bd)) hn hlen ?_ ?_ ?_ ?_ ?_).mono ?_
 · rintro k g ⟨w, gr, _, _, b, _⟩
   exact ⟨b, s.grow gr, w⟩
 · rintro k g g' ⟨w, gr, nx, b1, b2, b3, e⟩ gg ww
   exact ⟨ww, gr.trans gg, Nat.le_trans nx gg.nx, b1.grow gg, b2.grow gg, b3.grow gg, e⟩
 · rintro k g hk ⟨w, gr, nx, b1, b2, b3, e⟩ hh
   refine ⟨w, gr, nx, b1, b2, b3, ?_⟩
   rw [← e, List.drop_eq_getElem_cons hk, anyW, if_pos hh]
 · rintro k g hk ⟨w, gr, nx, b1, b2, b3, e⟩ hh
   have hwd : anyW ts = true := by
     rw [← e, List.drop_eq_getElem_cons hk, anyW, if_neg (by simp [hh])]
   obtain ⟨t, ht⟩ : ∃ t, ts[k] = t := ⟨_, rfl⟩
   rw [ht]
   rw [hwd, show (!true) = false from rfl]
   clear hh ht e hwd
   obtain ⟨hd, hole, sa, tn, tc, tl⟩ := t
   dsimp only [Trc.cells]
   subst hlp
   refine cf_round b3.get he rfl rfl ?_
   repeat' (with_reducible refine az_ ?_)
   refine ⟨rfl, _, _, _, _, _, At.get (b := h0.nx) (o := .loop .ready none e _ _ _) an_, ?_⟩
   repeat' (first | with_reducible refine am_ ?_ | ((with_reducible refine al_ ?_); ((with_reducible refine aG_ ?_); refine ci_ (cn_ rfl rfl an_ rfl zs4 rfl rfl rfl) ?_)) | (with_reducible first | refine ah_ ?_ | refine ao_ ?_ | refine ab_ ?_ | refine aA_ ?_ | refine at_ ?_ | refine bV_ ?_))
   exact ⟨_, _, _, _, _, _, At.get (b := h0.nx) (o := .loop .busy none e _ _ _) an_, .inr ⟨rfl, aZ_, aD_, an_, _, _, _, _, an_⟩⟩
 · exact ⟨aZ_, aD_, z4_A, an_, an_, an_, rfl⟩
 · rintro _ g (⟨w, gr, nx, b1, b2, b3, e⟩ | ⟨w, gr, b1, pe, ps, asg, bd, b3⟩)
   · have hz : anyW ts = false := by rw [← e, List.drop_eq_nil_of_le (by omega)]; rfl
     rw [hz]
     subst hlp
     refine ⟨_, _, _, _, _, _, b3.get, by simp, ?_⟩
     repeat' (first | with_reducible refine am_ ?_ | ((with_reducible refine al_ ?_); ((with_reducible refine aG_ ?_); refine ci_ (cn_ rfl rfl an_ rfl zs4 rfl rfl rfl) ?_)) | (with_reducible first | refine ah_ ?_ | refine ao_ ?_ | refine ab_ ?_ | refine aA_ ?_ | refine aP_ ?_))
     exact rqc1 rfl (ld1 an_ Tryz.underlying4 rfl rfl) ⟨rfl, aD_⟩
   · refine ⟨_, _, _, _, _, _, b3.get, by simp, ?_⟩
     repeat' (first | with_reducible refine bV_ ?_ | with_reducible refine bd_ ?_)
     exact rqc1 rfl (ld1 an_ Tryz.underlying4 rfl rfl) ⟨rfl, aD_⟩
/- Shots summed, scaled and delayed by the program. -/
def hdM : List Trc → List Trc → Bool
 | t :: ts, u :: us => !hdB t.hd u.hd || hdM ts us
 | _, _ => false
def alkE (ts us : List Trc) : Int := if ts.length ≠ us.length then 2 else if (anyW ts && anyW us && decide (wid ts ≠ wid us)) = true then 2 else if hdM ts us = true then 24 else 0
theorem hdM_step {ts us : List Trc} {k : Nat} (h1 : k < ts.length) (h2 : k < us.length) : hdM (ts.drop k) (us.drop k) = (!hdB (ts[k]).hd (us[k]).hd || hdM (ts.drop (k + 1)) (us.drop (k + 1))) := by
 rw [List.drop_eq_getElem_cons h1, List.drop_eq_getElem_cons h2, hdM]
set_option maxHeartbeats 4000000 in
theorem c119 {nm nm' : ByteArray} {a a' : Option Addr} {n m c c' : Nat} {ts us : List Trc} (s : SlT G h (.slice a n c) n ts) (s' : SlT G h (.slice a' m c') m us) (hn : n < 1000000) (hm : m < 1000000) (hw : Wf h) :
   Cf (mz G) (.func (.func 119) #[] #[]) [.agg ⟨shC nm a n c⟩, .agg ⟨shC nm' a' m c'⟩] h fun r h' => r = .int .i64 (alkE ts us) ∧ Grow h h' := by
 have hlen := s.len
 have hlen' := s'.len
 have q103 := fun (h' : H) (g : Grow h h') (w : Wf h') => c103 (nm := nm) (s.grow g) hn w
 have q103b := fun (h' : H) (g : Grow h h') (w : Wf h') => c103 (nm := nm') (s'.grow g) hm w
 have q163 := fun (h' : H) (g : Grow h h') (w : Wf h') => c164 (nm := nm) (s.grow g) hn w
 have q163b := fun (h' : H) (g : Grow h h') (w : Wf h') => c164 (nm := nm') (s'.grow g) hm w
 unfold alkE
 rw [hlen, hlen']
 obtain ⟨W, hW⟩ : ∃ W, wid ts = W := ⟨_, rfl⟩
 obtain ⟨V, hV⟩ : ∃ W, wid us = W := ⟨_, rfl⟩
 obtain ⟨A, hA⟩ : ∃ W, anyW ts = W := ⟨_, rfl⟩
 obtain ⟨B, hB⟩ : ∃ W, anyW us = W := ⟨_, rfl⟩
 rw [hW] at q103 ⊢
 rw [hV] at q103b ⊢
 rw [hA] at q163 ⊢
 rw [hB] at q163b ⊢
 by_cases hne : n ≠ m
 · rw [if_pos hne]
   refine ar_ 47 [.tmp 4] Tryz.func119 rfl rfl rfl rfl ?_
   repeat' (first | with_reducible refine am_ ?_ | ((with_reducible refine al_ ?_); first | ((with_reducible refine ae_ ?_); refine ac_ (ad_ rfl) ?_) | ((with_reducible refine bw_ ?_); refine ac_ (aL_ rfl cc_ rfl) ?_) | ((with_reducible refine ap_ ?_); refine ac_ (aa_ (o := 1) rfl Tryz.underlying54 rfl zs52 rfl) ?_) | ((with_reducible refine au_ ?_); refine ac_ (aq_ rfl an_ Tryz.underlying52 rfl rfl) ?_) | ((with_reducible refine aC_ ?_); refine ac_ (ax_ rfl Tryz.underlying52) ?_) | ((with_reducible refine av_ ?_); refine ac_ (bm_ rfl rfl) ?_)) | (with_reducible first | refine ah_ ?_ | refine ao_ ?_ | refine ab_ ?_ | refine aA_ ?_ | refine bd_ ?_) | (refine aK_ rfl (fun hb => ?_) (fun hb => aH_ hb); (try simp only [bj_, reduceCtorEq] at hb)))
   all_goals exact rq1 rfl ⟨rfl, aD_⟩
 rw [if_neg hne]
 have hne : n = m := by simpa using hne
 subst hne
 obtain ⟨b3, hb3⟩ : ∃ b, (A && B && decide (W ≠ V)) = b := ⟨_, rfl⟩
 rw [hb3]
 refine ar_ 47 [.tmp 4] Tryz.func119 rfl rfl rfl rfl ?_
 refine bU_ (ι := Unit) (fun _ => [(2, .pointer (some ⟨h.nx, 0, some 0⟩)), (3, .pointer (some ⟨h.nx + 1, 0, some 0⟩))]) (fun _ h1 => (Wf h1 ∧ Grow h h1 ∧ At h1 h.nx (.cells (shC nm a n c) 54 2 false) ∧ At h1 (h.nx + 1) (.cells (shC nm' a' n c') 54 2 false))) ?_ ?_
 · repeat' (first | with_reducible refine am_ ?_ | ((with_reducible refine al_ ?_); first | ((with_reducible refine ae_ ?_); refine ac_ (ad_ rfl) ?_) | ((with_reducible refine bw_ ?_); refine ac_ (aL_ rfl cc_ rfl) ?_)) | with_reducible refine ab_ ?_)
   exact ⟨rfl, (), ai_ ⟨rfl, rfl, trivial⟩, aZ_, aD_, an_, an_⟩
 rintro _ h1 ⟨w1, g1, a0, a1⟩
 refine bU_ (ι := Unit) (fun _ => [(2, .pointer (some ⟨h.nx, 0, some 0⟩)), (3, .pointer (some ⟨h.nx + 1, 0, some 0⟩))]) (fun _ h1 => (Wf h1 ∧ Grow h h1 ∧ At h1 h.nx (.cells (shC nm a n c) 54 2 false) ∧ At h1 (h.nx + 1) (.cells (shC nm' a' n c') 54 2 false))) ?_ ?_
 · repeat' (first | with_reducible refine am_ ?_ | ((with_reducible refine al_ ?_); first | ((with_reducible refine ap_ ?_); refine ac_ (aa_ (o := 1) rfl Tryz.underlying54 rfl zs52 rfl) ?_) | ((with_reducible refine au_ ?_); refine ac_ (aq_ rfl an_ Tryz.underlying52 rfl rfl) ?_) | ((with_reducible refine aC_ ?_); refine ac_ (ax_ rfl Tryz.underlying52) ?_) | ((with_reducible refine av_ ?_); refine ac_ (bm_ rfl rfl) ?_)) | (with_reducible first | refine ah_ ?_ | refine ao_ ?_ | refine ab_ ?_ | refine az_ ?_) | (refine aK_ rfl (fun hb => (of_decide_eq_true hb rfl).elim) (fun hb => ?_); (try simp only [bj_, reduceCtorEq] at hb)))
   exact ⟨rfl, (), ai_ ⟨rfl, rfl, trivial⟩, aZ_, aD_, an_, an_⟩
 clear w1 g1 a0 a1 h1
 rintro _ h1 ⟨w1, g1, a0, a1⟩
 cases b3 with
 | true =>
   simp only [Bool.and_eq_true, decide_eq_true_eq] at hb3
   obtain ⟨⟨rfl, rfl⟩, hWV⟩ := hb3
   have hWV2 : (W : Int) ≠ V := by omega
   rw [if_pos rfl]
   repeat' (first | with_reducible refine am_ ?_ | ((with_reducible refine al_ ?_); ((with_reducible refine ae_ ?_); refine ac_ (ad_ rfl) ?_)) | ((with_reducible refine bL_ ?_); ((with_reducible refine bK_ ?_); first | ((with_reducible refine bI_ ?_); refine bn_ (af_ rfl) rfl rfl (aE_ rfl (ag_ rfl)) rfl rfl rfl ?_) | ((with_reducible refine by_ ?_); refine bp_ (af_ rfl) rfl (aE_ rfl (ay_ rfl an_ Tryz.underlying54 rfl cc_ rfl rfl)) rfl rfl rfl ?_) | ((with_reducible refine xk_un ?_); refine bn_ (af_ rfl) rfl rfl (aE_ rfl (bv_ rfl)) rfl rfl rfl ?_) | ((with_reducible refine xk_pick ?_); refine bn_ (af_ rfl) rfl rfl (aE_ rfl (aT_ rfl rfl)) rfl rfl rfl ?_) | ((with_reducible refine bH_ ?_); (refine aV_ (af_ rfl) rfl rfl rfl rfl (q163 _ aD_ aZ_) rfl rfl ?_; rintro _ _ ⟨rfl, hq⟩; all_goals ((try (have hqn := hq.nx)); (try simp only [bG_] at hqn)))) | ((with_reducible refine xk_g ?_); first | ((with_reducible refine xg_load ?_); refine bp_ (bl_ rfl rfl rfl) rfl (aE_ rfl (ay_ rfl an_ Tryz.underlying54 rfl cc_ rfl rfl)) rfl rfl rfl ?_) | ((with_reducible refine xg_bin ?_); refine bn_ (bl_ rfl rfl rfl) rfl rfl (aE_ rfl (bm_ rfl rfl)) rfl rfl rfl ?_) | ((with_reducible refine xg_un ?_); refine bn_ (bl_ rfl rfl rfl) rfl rfl (aE_ rfl (bv_ rfl)) rfl rfl rfl ?_) | ((with_reducible refine xg_callv ?_); first | (refine aV_ (bl_ rfl rfl rfl) rfl rfl rfl rfl (q163b _ aD_ aZ_) rfl rfl ?_; rintro _ _ ⟨rfl, hq⟩; all_goals ((try (have hqn := hq.nx)); (try simp only [bG_] at hqn))) | (refine aV_ (bl_ rfl rfl rfl) rfl rfl rfl rfl (q103 _ aD_ aZ_) rfl rfl ?_; rintro _ _ ⟨rfl, hq⟩; all_goals ((try (have hqn := hq.nx)); (try simp only [bG_] at hqn))) | (refine aV_ (bl_ rfl rfl rfl) rfl rfl rfl rfl (q103b _ aD_ aZ_) rfl rfl ?_; rintro _ _ ⟨rfl, hq⟩; all_goals ((try (have hqn := hq.nx)); (try simp only [bG_] at hqn))))) | with_reducible refine bN_ ?_ ?_)) | with_reducible exact bA_ | with_reducible refine bk_ ?_ ?_ | ((with_reducible refine bM_ ?_); first | exact bz_ | refine bx_ rfl ?_ | refine aB_ rfl rfl (aE_ rfl (ay_ rfl an_ Tryz.underlying54 rfl cc_ (by rfl) rfl)) ?_) | (with_reducible first | refine ah_ ?_ | refine ao_ ?_ | refine ab_ ?_ | refine aA_ ?_ | refine bd_ ?_) | (refine aK_ rfl (fun hb => ?_) (fun hb => aH_ hb); (try simp only [bj_, reduceCtorEq] at hb)) | refine br_ (id := 3) 15 [0, 1, 3, 7, 15, 31, 63, 127, 255, 511, 1023, 511, 4095, 8191, 16383] [0, 1, 2, 3, 4, 5, 6, 7, 8, 9, 10, 11, 12, 13, 14] (by kernel_rfl) (by kernel_rfl) rfl rfl ?_)
   all_goals exact rq1 rfl ⟨rfl, aD_⟩
 | false =>
 rw [if_neg (by simp)]
 refine bU_ (ι := Unit) (fun _ => [(2, .pointer (some ⟨h.nx, 0, some 0⟩)), (3, .pointer (some ⟨h.nx + 1, 0, some 0⟩))]) (fun _ h1 => (Wf h1 ∧ Grow h h1 ∧ At h1 h.nx (.cells (shC nm a n c) 54 2 false) ∧ At h1 (h.nx + 1) (.cells (shC nm' a' n c') 54 2 false))) ?_ ?_
 · cases A with
   | false =>
     repeat' (first | ((with_reducible refine bL_ ?_); ((with_reducible refine bK_ ?_); first | ((with_reducible refine bI_ ?_); refine bn_ (af_ rfl) rfl rfl (aE_ rfl (ag_ rfl)) rfl rfl rfl ?_) | ((with_reducible refine by_ ?_); refine bp_ (af_ rfl) rfl (aE_ rfl (ay_ rfl an_ Tryz.underlying54 rfl cc_ rfl rfl)) rfl rfl rfl ?_) | ((with_reducible refine xk_un ?_); refine bn_ (af_ rfl) rfl rfl (aE_ rfl (bv_ rfl)) rfl rfl rfl ?_) | ((with_reducible refine xk_pick ?_); refine bn_ (af_ rfl) rfl rfl (aE_ rfl (aO_ rfl rfl)) rfl rfl rfl ?_) | ((with_reducible refine bH_ ?_); (refine aV_ (af_ rfl) rfl rfl rfl rfl (q163 _ aD_ aZ_) rfl rfl ?_; rintro _ _ ⟨rfl, hq⟩; all_goals ((try (have hqn := hq.nx)); (try simp only [bG_] at hqn)))) | ((with_reducible refine xk_g ?_); refine wx_s (wt_skip rfl rfl rfl rfl) rfl rfl ?_) | with_reducible refine bN_ ?_ ?_)) | with_reducible exact bA_ | with_reducible refine bk_ ?_ ?_ | ((with_reducible refine bM_ ?_); first | exact bz_ | refine bx_ rfl ?_ | refine aB_ rfl rfl (aE_ rfl (ay_ rfl an_ Tryz.underlying54 rfl cc_ (by rfl) rfl)) ?_) | (with_reducible first | refine ah_ ?_ | refine ao_ ?_ | refine az_ ?_) | refine bs_ rfl ?_ | refine br_ (id := 3) 15 [0, 1, 3, 7, 15, 31, 63, 127, 255, 511, 1023, 511, 4095, 8191, 16383] [0, 1, 2, 3, 4, 5, 6, 7, 8, 9, 10, 11, 12, 13, 14] (by kernel_rfl) (by kernel_rfl) rfl rfl ?_)
     all_goals exact ⟨rfl, (), ai_ ⟨rfl, rfl, trivial⟩, aZ_, aD_, an_, an_⟩
   | true =>
     cases B with
     | false =>
       repeat' (first | ((with_reducible refine bL_ ?_); ((with_reducible refine bK_ ?_); first | ((with_reducible refine bI_ ?_); refine bn_ (af_ rfl) rfl rfl (aE_ rfl (ag_ rfl)) rfl rfl rfl ?_) | ((with_reducible refine by_ ?_); refine bp_ (af_ rfl) rfl (aE_ rfl (ay_ rfl an_ Tryz.underlying54 rfl cc_ rfl rfl)) rfl rfl rfl ?_) | ((with_reducible refine xk_un ?_); refine bn_ (af_ rfl) rfl rfl (aE_ rfl (bv_ rfl)) rfl rfl rfl ?_) | ((with_reducible refine xk_pick ?_); first | refine bn_ (af_ rfl) rfl rfl (aE_ rfl (aT_ rfl rfl)) rfl rfl rfl ?_ | refine bn_ (af_ rfl) rfl rfl (aE_ rfl (aO_ rfl rfl)) rfl rfl rfl ?_) | ((with_reducible refine bH_ ?_); (refine aV_ (af_ rfl) rfl rfl rfl rfl (q163 _ aD_ aZ_) rfl rfl ?_; rintro _ _ ⟨rfl, hq⟩; all_goals ((try (have hqn := hq.nx)); (try simp only [bG_] at hqn)))) | ((with_reducible refine xk_g ?_); first | refine wx_s (wt_skip rfl rfl rfl rfl) rfl rfl ?_ | ((with_reducible refine xg_load ?_); refine bp_ (bl_ rfl rfl rfl) rfl (aE_ rfl (ay_ rfl an_ Tryz.underlying54 rfl cc_ rfl rfl)) rfl rfl rfl ?_) | ((with_reducible refine xg_un ?_); refine bn_ (bl_ rfl rfl rfl) rfl rfl (aE_ rfl (bv_ rfl)) rfl rfl rfl ?_) | ((with_reducible refine xg_callv ?_); (refine aV_ (bl_ rfl rfl rfl) rfl rfl rfl rfl (q163b _ aD_ aZ_) rfl rfl ?_; rintro _ _ ⟨rfl, hq⟩; all_goals ((try (have hqn := hq.nx)); (try simp only [bG_] at hqn))))) | with_reducible refine bN_ ?_ ?_)) | with_reducible exact bA_ | with_reducible refine bk_ ?_ ?_ | ((with_reducible refine bM_ ?_); first | exact bz_ | refine bx_ rfl ?_ | refine aB_ rfl rfl (aE_ rfl (ay_ rfl an_ Tryz.underlying54 rfl cc_ (by rfl) rfl)) ?_) | (with_reducible first | refine ah_ ?_ | refine ao_ ?_ | refine az_ ?_) | refine bs_ rfl ?_ | refine br_ (id := 3) 15 [0, 1, 3, 7, 15, 31, 63, 127, 255, 511, 1023, 511, 4095, 8191, 16383] [0, 1, 2, 3, 4, 5, 6, 7, 8, 9, 10, 11, 12, 13, 14] (by kernel_rfl) (by kernel_rfl) rfl rfl ?_)
       all_goals exact ⟨rfl, (), ai_ ⟨rfl, rfl, trivial⟩, aZ_, aD_, an_, an_⟩
     | true =>
       have hWV : W = V := by simpa using hb3
       subst hWV
       repeat' (first | ((with_reducible refine bL_ ?_); ((with_reducible refine bK_ ?_); first | ((with_reducible refine bI_ ?_); refine bn_ (af_ rfl) rfl rfl (aE_ rfl (ag_ rfl)) rfl rfl rfl ?_) | ((with_reducible refine by_ ?_); refine bp_ (af_ rfl) rfl (aE_ rfl (ay_ rfl an_ Tryz.underlying54 rfl cc_ rfl rfl)) rfl rfl rfl ?_) | ((with_reducible refine xk_un ?_); refine bn_ (af_ rfl) rfl rfl (aE_ rfl (bv_ rfl)) rfl rfl rfl ?_) | ((with_reducible refine xk_pick ?_); refine bn_ (af_ rfl) rfl rfl (aE_ rfl (aT_ rfl rfl)) rfl rfl rfl ?_) | ((with_reducible refine bH_ ?_); (refine aV_ (af_ rfl) rfl rfl rfl rfl (q163 _ aD_ aZ_) rfl rfl ?_; rintro _ _ ⟨rfl, hq⟩; all_goals ((try (have hqn := hq.nx)); (try simp only [bG_] at hqn)))) | ((with_reducible refine xk_g ?_); first | ((with_reducible refine xg_load ?_); refine bp_ (bl_ rfl rfl rfl) rfl (aE_ rfl (ay_ rfl an_ Tryz.underlying54 rfl cc_ rfl rfl)) rfl rfl rfl ?_) | ((with_reducible refine xg_bin ?_); refine bn_ (bl_ rfl rfl rfl) rfl rfl (aE_ rfl (bm_ rfl rfl)) rfl rfl rfl ?_) | ((with_reducible refine xg_un ?_); refine bn_ (bl_ rfl rfl rfl) rfl rfl (aE_ rfl (bv_ rfl)) rfl rfl rfl ?_) | ((with_reducible refine xg_callv ?_); first | (refine aV_ (bl_ rfl rfl rfl) rfl rfl rfl rfl (q163b _ aD_ aZ_) rfl rfl ?_; rintro _ _ ⟨rfl, hq⟩; all_goals ((try (have hqn := hq.nx)); (try simp only [bG_] at hqn))) | (refine aV_ (bl_ rfl rfl rfl) rfl rfl rfl rfl (q103 _ aD_ aZ_) rfl rfl ?_; rintro _ _ ⟨rfl, hq⟩; all_goals ((try (have hqn := hq.nx)); (try simp only [bG_] at hqn))) | (refine aV_ (bl_ rfl rfl rfl) rfl rfl rfl rfl (q103b _ aD_ aZ_) rfl rfl ?_; rintro _ _ ⟨rfl, hq⟩; all_goals ((try (have hqn := hq.nx)); (try simp only [bG_] at hqn))))) | with_reducible refine bN_ ?_ ?_)) | with_reducible exact bA_ | with_reducible refine bk_ ?_ ?_ | ((with_reducible refine bM_ ?_); first | exact bz_ | refine bx_ rfl ?_ | refine aB_ rfl rfl (aE_ rfl (ay_ rfl an_ Tryz.underlying54 rfl cc_ (by rfl) rfl)) ?_) | (with_reducible first | refine ah_ ?_ | refine ao_ ?_ | refine az_ ?_) | (refine aK_ rfl (fun hb => (of_decide_eq_true hb rfl).elim) (fun hb => ?_); (try simp only [bj_, reduceCtorEq] at hb)) | refine br_ (id := 3) 15 [0, 1, 3, 7, 15, 31, 63, 127, 255, 511, 1023, 511, 4095, 8191, 16383] [0, 1, 2, 3, 4, 5, 6, 7, 8, 9, 10, 11, 12, 13, 14] (by kernel_rfl) (by kernel_rfl) rfl rfl ?_)
       all_goals exact ⟨rfl, (), ai_ ⟨rfl, rfl, trivial⟩, aZ_, aD_, an_, an_⟩
 clear w1 g1 a0 a1 h1 q103 q103b q163 q163b hb3 hA hB hW hV
 rintro _ h1 ⟨w1, g1, a0, a1⟩
 repeat' (first | with_reducible refine am_ ?_ | ((with_reducible refine al_ ?_); first | ((with_reducible refine ak_ ?_); refine ac_ (ag_ rfl) ?_) | ((with_reducible refine ap_ ?_); refine ac_ (aa_ (o := 1) rfl Tryz.underlying54 rfl zs52 rfl) ?_) | ((with_reducible refine au_ ?_); refine ac_ (aq_ rfl an_ Tryz.underlying52 rfl rfl) ?_) | ((with_reducible refine aC_ ?_); refine ac_ (ax_ rfl Tryz.underlying52) ?_)) | (with_reducible first | refine ah_ ?_ | refine ao_ ?_ | refine ab_ ?_ | refine at_ ?_))
 refine bq_ (fun k => n - k) (fun k : Nat => [(2, .pointer (some ⟨h.nx, 0, some 0⟩)), (3, .pointer (some ⟨h.nx + 1, 0, some 0⟩)), (30, .slice a n c), (31, .int .i64 n), (32, .int .i64 k)])
   (fun k h1 => (Wf h1 ∧ Grow h h1 ∧ h.nx + 2 ≤ h1.nx ∧ At h1 h.nx (.cells (shC nm a n c) 54 2 false) ∧ At h1 (h.nx + 1) (.cells (shC nm' a' n c') 54 2 false)) ∧ k ≤ n ∧ hdM (ts.drop k) (us.drop k) = hdM ts us) 0 (ai_ ⟨rfl, rfl, rfl, rfl, rfl, trivial⟩) ⟨⟨w1, g1, (by have := a1.lt; omega), a0, a1⟩, Nat.zero_le _, rfl⟩ ?_
 clear w1 g1 a0 a1 h1
 rintro k h1 ⟨⟨w1, g1, n1, a0, a1⟩, hk, hi⟩
 have hgn := g1.nx
 by_cases hlt : k < n
 · obtain ⟨ad, f1, f3⟩ := cA_ (s.grow g1) Tryz.underlying52 ch_ (i := (k : Int)) hlt rfl
   obtain ⟨bd, e1, e3⟩ := cA_ (s'.grow g1) Tryz.underlying52 ch_ (i := (k : Int)) hlt rfl
   rw [hdM_step (by omega) (by omega)] at hi
   have hD := hd_eqv (ts[k]'(by omega)).hd (us[k]'(by omega)).hd
   obtain ⟨D, hD2⟩ : ∃ D, hdB (ts[k]'(by omega)).hd (us[k]'(by omega)).hd = D := ⟨_, rfl⟩
   rw [hD2] at hD hi
   clear hD2
   obtain ⟨t, ht⟩ : ∃ t, ts[k]'(by omega) = t := ⟨_, rfl⟩
   obtain ⟨u, hu⟩ : ∃ t, us[k]'(by omega) = t := ⟨_, rfl⟩
   rw [ht] at f3 hD
   rw [hu] at e3 hD
   clear ht hu
   obtain ⟨hd, hole, sa, tn, tc, tl⟩ := t
   obtain ⟨hd', hole', sa', tn', tc', tl'⟩ := u
   dsimp only [Trc.cells] at f3 e3 hD
   have e8 := e3.take 8
   have e8 : Cells G h1 bd (hdCells hd') := e8
   have qe8 := fun (g : H) (gg : Grow h1 g) => (e8.grow gg).all
   have qf := f3.all
   cases D with
   | false =>
     rw [show (!false || hdM (ts.drop (k + 1)) (us.drop (k + 1))) = true from rfl] at hi
     rw [← hi, if_pos rfl]
     repeat' (first | with_reducible refine am_ ?_ | ((with_reducible refine al_ ?_); first | ((with_reducible refine ak_ ?_); refine ac_ (ag_ rfl) ?_) | ((with_reducible refine ae_ ?_); refine ac_ (ad_ rfl) ?_) | ((with_reducible refine aw_ ?_); refine ac_ (as_ rfl rfl f1) ?_) | ((with_reducible refine au_ ?_); refine ac_ (bJ_ rfl Tryz.underlying58 rfl ch_ qf) ?_) | ((with_reducible refine av_ ?_); refine ac_ (aF_ rfl rfl) ?_) | ((with_reducible refine aU_ ?_); refine ac_ (aQ_ zz58 ch_ rfl rfl rfl) ?_) | ((with_reducible refine aG_ ?_); refine ci_ (aM_ rfl rfl an_ ch_ rfl rfl rfl rfl) ?_)) | ((with_reducible refine bL_ ?_); ((with_reducible refine bK_ ?_); first | ((with_reducible refine bI_ ?_); refine bn_ (af_ rfl) rfl rfl (aE_ rfl (ag_ rfl)) rfl rfl rfl ?_) | ((with_reducible refine bo_ ?_); refine bn_ (af_ rfl) rfl rfl (aE_ rfl (as_ rfl rfl e1)) rfl rfl rfl ?_) | ((with_reducible refine by_ ?_); first | refine bp_ (af_ rfl) rfl (aE_ rfl (cN_ rfl Tryz.underlying44 rfl zs44 (qe8 _ aD_))) rfl rfl rfl ?_ | refine bp_ (af_ rfl) rfl (aE_ rfl (aq_ rfl an_ Tryz.underlying52 rfl rfl)) rfl rfl rfl ?_ | refine bp_ (af_ rfl) rfl (aE_ rfl (ay_ rfl an_ Tryz.underlying44 rfl zs44 rfl rfl)) rfl rfl rfl ?_) | ((with_reducible refine xk_bin ?_); refine bn_ (af_ rfl) rfl rfl (aE_ rfl (op_neT 3 rfl rfl rfl Tryz.underlying44 rfl eg44 hD)) rfl rfl rfl ?_) | ((with_reducible refine bh_ ?_); first | refine bn_ (af_ rfl) rfl rfl (aE_ rfl (aa_ (o := 1) rfl Tryz.underlying54 rfl zs52 rfl)) rfl rfl rfl ?_ | refine bn_ (af_ rfl) rfl rfl (aE_ rfl (aa_ (o := 0) rfl Tryz.underlying58 rfl zs44 rfl)) rfl rfl rfl ?_) | with_reducible refine bN_ ?_ ?_)) | with_reducible exact bA_ | with_reducible refine bk_ ?_ ?_ | ((with_reducible refine bM_ ?_); first | exact bz_ | refine aB_ rfl rfl (aE_ rfl (cN_ rfl Tryz.underlying44 rfl zs44 (qe8 _ aD_))) ?_ | refine aB_ rfl rfl (aE_ rfl (aq_ rfl an_ Tryz.underlying52 rfl (by rfl))) ?_ | refine aB_ rfl rfl (aE_ rfl (ay_ rfl an_ Tryz.underlying44 rfl zs44 (by rfl) rfl)) ?_) | (with_reducible first | refine ah_ ?_ | refine ao_ ?_ | refine ab_ ?_ | refine az_ ?_ | refine aA_ ?_ | refine at_ ?_ | refine bV_ ?_ | refine bd_ ?_ | refine cx_ ?_) | refine bP_ rfl ?_ | (refine aK_ rfl (fun hb => ?_) (fun hb => aH_ hb); (try simp only [bj_, reduceCtorEq] at hb)) | refine br_ (id := 8) 9 [0, 1, 0, 4, 0, 28, 60, 124, 255] [0, 1, 2, 3, 4, 5, 6, 7, 8] (by kernel_rfl) (by kernel_rfl) rfl rfl ?_)
     all_goals exact rq1 rfl ⟨rfl, aD_⟩
   | true =>
     rw [show (!true || hdM (ts.drop (k + 1)) (us.drop (k + 1))) = hdM (ts.drop (k + 1)) (us.drop (k + 1)) from rfl] at hi
     repeat' (first | with_reducible refine am_ ?_ | ((with_reducible refine al_ ?_); first | ((with_reducible refine ak_ ?_); refine ac_ (ag_ rfl) ?_) | ((with_reducible refine ae_ ?_); refine ac_ (ad_ rfl) ?_) | ((with_reducible refine aw_ ?_); refine ac_ (as_ rfl rfl f1) ?_) | ((with_reducible refine au_ ?_); refine ac_ (bJ_ rfl Tryz.underlying58 rfl ch_ qf) ?_) | ((with_reducible refine av_ ?_); first | refine ac_ (aF_ rfl rfl) ?_ | refine ac_ (aR_ rfl rfl (w64 (by omega) (by omega))) ?_) | ((with_reducible refine aU_ ?_); refine ac_ (aQ_ zz58 ch_ rfl rfl rfl) ?_) | ((with_reducible refine aG_ ?_); refine ci_ (aM_ rfl rfl an_ ch_ rfl rfl rfl rfl) ?_)) | ((with_reducible refine bL_ ?_); ((with_reducible refine bK_ ?_); first | ((with_reducible refine bI_ ?_); refine bn_ (af_ rfl) rfl rfl (aE_ rfl (ag_ rfl)) rfl rfl rfl ?_) | ((with_reducible refine bo_ ?_); refine bn_ (af_ rfl) rfl rfl (aE_ rfl (as_ rfl rfl e1)) rfl rfl rfl ?_) | ((with_reducible refine by_ ?_); first | refine bp_ (af_ rfl) rfl (aE_ rfl (cN_ rfl Tryz.underlying44 rfl zs44 (qe8 _ aD_))) rfl rfl rfl ?_ | refine bp_ (af_ rfl) rfl (aE_ rfl (aq_ rfl an_ Tryz.underlying52 rfl rfl)) rfl rfl rfl ?_ | refine bp_ (af_ rfl) rfl (aE_ rfl (ay_ rfl an_ Tryz.underlying44 rfl zs44 rfl rfl)) rfl rfl rfl ?_) | ((with_reducible refine xk_bin ?_); refine bn_ (af_ rfl) rfl rfl (aE_ rfl (op_neT 3 rfl rfl rfl Tryz.underlying44 rfl eg44 hD)) rfl rfl rfl ?_) | ((with_reducible refine bh_ ?_); first | refine bn_ (af_ rfl) rfl rfl (aE_ rfl (aa_ (o := 1) rfl Tryz.underlying54 rfl zs52 rfl)) rfl rfl rfl ?_ | refine bn_ (af_ rfl) rfl rfl (aE_ rfl (aa_ (o := 0) rfl Tryz.underlying58 rfl zs44 rfl)) rfl rfl rfl ?_) | with_reducible refine bN_ ?_ ?_)) | with_reducible exact bA_ | with_reducible refine bk_ ?_ ?_ | ((with_reducible refine bM_ ?_); first | exact bz_ | refine aB_ rfl rfl (aE_ rfl (cN_ rfl Tryz.underlying44 rfl zs44 (qe8 _ aD_))) ?_ | refine aB_ rfl rfl (aE_ rfl (aq_ rfl an_ Tryz.underlying52 rfl (by rfl))) ?_ | refine aB_ rfl rfl (aE_ rfl (ay_ rfl an_ Tryz.underlying44 rfl zs44 (by rfl) rfl)) ?_) | (with_reducible first | refine ah_ ?_ | refine ao_ ?_ | refine ab_ ?_ | refine az_ ?_ | refine at_ ?_ | refine aP_ ?_) | refine bs_ rfl ?_ | (refine aK_ rfl (fun hb => ?_) (fun hb => aH_ hb); (try simp only [bj_, reduceCtorEq] at hb)) | refine br_ (id := 8) 9 [0, 1, 0, 4, 0, 28, 60, 124, 255] [0, 1, 2, 3, 4, 5, 6, 7, 8] (by kernel_rfl) (by kernel_rfl) rfl rfl ?_)
     all_goals exact aX_ (k + 1) (by omega) (ai_ ⟨rfl, rfl, rfl, rfl, rfl, trivial⟩) ⟨⟨aZ_, aD_, (by simp only [H.nx_set, H.nx_push, H.nx_bump]; omega), an_, an_⟩, by omega, hi⟩
 have hkn : k = n := by omega
 subst hkn
 rw [List.drop_eq_nil_of_le (by omega), List.drop_eq_nil_of_le (by omega)] at hi
 have hnf : hdM ts us = false := by rw [← hi]; rfl
 rw [hnf, if_neg (by simp)]
 repeat' (first | with_reducible refine am_ ?_ | ((with_reducible refine al_ ?_); first | ((with_reducible refine ae_ ?_); refine ac_ (ad_ rfl) ?_) | ((with_reducible refine av_ ?_); refine ac_ (aF_ rfl rfl) ?_)) | (with_reducible first | refine ah_ ?_ | refine ao_ ?_ | refine ab_ ?_ | refine aA_ ?_ | refine be_ ?_ | refine bf_ ?_ | refine bi_ ?_) | refine bS_ rfl ?_ | (refine aK_ rfl (fun hb => aH_ hb) (fun hb => ?_); (try simp only [bj_, reduceCtorEq] at hb)))
 all_goals exact rq1 rfl ⟨rfl, aD_⟩
theorem alkE_ok {ts us : List Trc} (h : alkE ts us = 0) : ts.length = us.length ∧ (anyW ts && anyW us && decide (wid ts ≠ wid us)) = false ∧ hdM ts us = false := by
 unfold alkE at h
 by_cases h1 : ts.length ≠ us.length
 · rw [if_pos h1] at h; exact absurd h (by decide)
 rw [if_neg h1] at h
 by_cases h2 : (anyW ts && anyW us && decide (wid ts ≠ wid us)) = true
 · rw [if_pos h2] at h; exact absurd h (by decide)
 rw [if_neg h2] at h
 by_cases h3 : hdM ts us = true
 · rw [if_pos h3] at h; exact absurd h (by decide)
 exact ⟨by simpa using h1, by simpa using h2, by simpa using h3⟩
def ChR (h : H) (nm : ByteArray) (n : Nat) (E : Int) (F : Nat → List Int → List Int) (ms : List Trc) (r : Value) (h' : H) : Prop :=
 (E ≠ 0 ∧ r = .tuple #[.agg ⟨zShot⟩, .int .i64 E]) ∨ (E = 0 ∧ ChBad F ms ∧ r = .tuple #[.agg ⟨zShot⟩, .int .i64 4]) ∨
   (E = 0 ∧ ¬ ChBad F ms ∧ ∃ (B : Nat) (vs : List Trc), r = .tuple #[.agg ⟨shC nm (some ⟨B, 0, some 0⟩) n n⟩, .int .i64 0] ∧ h.nx ≤ B ∧ At h' B (.cells (vs.flatMap Trc.cells) 58 10 false) ∧ (∀ u ∈ vs, TrN h' h.nx u) ∧ KeyAll vs ms (chKey F))
def sumC (nm : ByteArray) (ts : List Trc) (nm' : ByteArray) (us : List Trc) : Int := firstNZ [shE nm ts, shE nm' us, alkE ts us]
theorem wid_live : ∀ {ts : List Trc} {t : Trc}, t ∈ ts → t.hole = false → anyW ts = true
 | [], _, q, _ => by cases q
 | u :: ts, t, q, hh => by
   unfold anyW
   split
   · rcases List.mem_cons.1 q with rfl | q
     · simp_all
     · exact wid_live q hh
   · rfl
set_option maxHeartbeats 4000000 in
theorem c48 {nm nm' : ByteArray} {a a' : Option Addr} {n m c c' : Nat} {ts us : List Trc} (s : SlT G h (.slice a n c) n ts) (s' : SlT G h (.slice a' m c') m us) (hn : n ≤ 65) (hm : m ≤ 65) (hl : ∀ t ∈ ts, t.n < 1000000) (hl' : ∀ t ∈ us, t.n < 1000000) (hw : Wf h) (hG : ∀ a v, laidBase a = some v → G a = some v) :
   Cf (mz G) (.func (.func 48) #[] #[]) [.agg ⟨shC nm a n c⟩, .agg ⟨shC nm' a' m c'⟩] h fun r h' => ChR h nm n (sumC nm ts nm' us) (mrgF addF us) (mskL ts us) r h' ∧ Grow h h' := by
 have q41 := fun (h' : H) (g : Grow h h') (w : Wf h') => c41 (nm := nm) (s.grow g) (by omega) hl w hG
 have q41b := fun (h' : H) (g : Grow h h') (w : Wf h') => c41 (nm := nm') (s'.grow g) (by omega) hl' w hG
 have q118 := fun (h' : H) (g : Grow h h') (w : Wf h') => c119 (nm := nm) (nm' := nm') (s.grow g) (s'.grow g) (by omega) (by omega) w
 have hz := fun (q : firstNZ [shE nm ts, shE nm' us, alkE ts us] = 0) => first3_zero q
 unfold ChR sumC
 obtain ⟨E, hE⟩ : ∃ E, shE nm ts = E := ⟨_, rfl⟩
 obtain ⟨E', hE'⟩ : ∃ E, shE nm' us = E := ⟨_, rfl⟩
 obtain ⟨S, hS⟩ : ∃ S, alkE ts us = S := ⟨_, rfl⟩
 rw [hE] at q41 hz ⊢
 rw [hE'] at q41b hz ⊢
 rw [hS] at q118 hz ⊢
 have q90 := fun (h' : H) (b : Nat) (w : Wf h') (at' : At h' b (.cells [.int .i64 E, .int .i64 E', .int .i64 S] 26 1 false)) => c90 (G := G) (h := h') (es := [E, E', S]) (n := 3) (Sl.ofAt at' rfl (Nat.le_refl _)) (by omega)
 refine ar_ 25 [.cell 4 54, .tmp 5] Tryz.func48 rfl rfl rfl rfl ?_
 refine bU_ (ι := Unit) (fun _ => [(2, .pointer (some ⟨h.nx, 0, some 0⟩)), (3, .pointer (some ⟨h.nx + 1, 0, some 0⟩)), (4, .pointer (some ⟨h.nx + 2, 0, some 0⟩)), (5, .int .i64 0)]) (fun _ h1 => (Wf h1 ∧ Grow h h1 ∧ h.nx + 3 ≤ h1.nx ∧ At h1 h.nx (.cells (shC nm a n c) 54 2 false) ∧ At h1 (h.nx + 1) (.cells (shC nm' a' m c') 54 2 false) ∧ At h1 (h.nx + 2) (.cells zShot 54 2 false))) ?_ ?_
 · repeat' (first | with_reducible refine am_ ?_ | ((with_reducible refine al_ ?_); first | ((with_reducible refine ae_ ?_); refine ac_ (ad_ rfl) ?_) | ((with_reducible refine bw_ ?_); refine ac_ (aL_ rfl cc_ rfl) ?_) | ((with_reducible refine aU_ ?_); refine ac_ (aQ_ zz54 cc_ rfl rfl rfl) ?_)) | with_reducible refine ab_ ?_)
   exact ⟨rfl, (), ai_ ⟨rfl, rfl, rfl, rfl, trivial⟩, aZ_, aD_, (by simp only [H.nx_push]; omega), an_, an_, an_⟩
 rintro _ h1 ⟨w1, g1, n1, a0, a1, a2⟩
 refine ao_ ?_
 try refine wc_scope ?_
 refine bU_ (ι := Unit) (fun _ => [(2, .pointer (some ⟨h.nx, 0, some 0⟩)), (3, .pointer (some ⟨h.nx + 1, 0, some 0⟩)), (4, .pointer (some ⟨h.nx + 2, 0, some 0⟩)), (5, .int .i64 0), (6, .int .i64 (firstNZ [E, E', S]))]) (fun _ h1 => (Wf h1 ∧ Grow h h1 ∧ h.nx + 3 ≤ h1.nx ∧ At h1 h.nx (.cells (shC nm a n c) 54 2 false) ∧ At h1 (h.nx + 1) (.cells (shC nm' a' m c') 54 2 false) ∧ At h1 (h.nx + 2) (.cells zShot 54 2 false))) ?_ ?_
 · repeat' (first | ((with_reducible refine bL_ ?_); first | ((with_reducible refine bK_ ?_); first | ((with_reducible refine by_ ?_); refine bp_ (af_ rfl) rfl (aE_ rfl (ay_ rfl an_ Tryz.underlying54 rfl cc_ rfl rfl)) rfl rfl rfl ?_) | ((with_reducible refine ct_ ?_); refine wx_a0 (af_ rfl) rfl (cv_ rfl Tryz.underlying219 zs26 zz26 rfl rfl) rfl rfl ?_) | ((with_reducible refine bH_ ?_); first | (refine aV_ (af_ rfl) rfl rfl rfl rfl (q41 _ aD_ aZ_) rfl rfl ?_; rintro _ _ ⟨rfl, hq⟩; all_goals ((try (have hqn := hq.nx)); (try simp only [bG_] at hqn))) | (refine aV_ (af_ rfl) rfl rfl rfl rfl (q41b _ aD_ aZ_) rfl rfl ?_; rintro _ _ ⟨rfl, hq⟩; all_goals ((try (have hqn := hq.nx)); (try simp only [bG_] at hqn))) | (refine aV_ (af_ rfl) rfl rfl rfl rfl (q118 _ aD_ aZ_) rfl rfl ?_; rintro _ _ ⟨rfl, hq⟩; all_goals ((try (have hqn := hq.nx)); (try simp only [bG_] at hqn))))) | ((with_reducible refine ck_ ?_); refine bn_ (af_ rfl) rfl rfl (aE_ rfl (ad_ rfl)) rfl rfl rfl ?_) | ((with_reducible refine bH_ ?_); ((with_reducible refine xk_as1 ?_); refine wx_e1 (af_ rfl) rfl rfl rfl (aJ_ rfl rfl (q90 _ _ aZ_ an_)) rfl rfl ?_)) | refine wx_niln ?_ ?_ rfl rfl ?_) | with_reducible exact bA_ | with_reducible refine bk_ ?_ ?_ | ((with_reducible refine bM_ ?_); first | exact bz_ | refine bx_ rfl ?_ | refine aB_ rfl rfl (aE_ rfl (ay_ rfl an_ Tryz.underlying54 rfl cc_ (by rfl) rfl)) ?_) | with_reducible exact stk_nil | with_reducible refine cK_ ?_ ?_ | ((with_reducible refine ik_stk ?_); first | exact stk_abs rfl rfl | exact cI_ rfl rfl aZ_ gr_B) | refine br_ (id := 1) 10 [0, 1, 0, 7, 0, 0, 63, 127, 255, 511] [0, 1, 2, 3, 4, 5, 6, 7, 8, 9] (by kernel_rfl) (by kernel_rfl) rfl rfl ?_)
   exact ⟨rfl, (), ai_ ⟨rfl, rfl, rfl, rfl, rfl, trivial⟩, aZ_, aD_, (by simp only [H.nx_set]; omega), an_, an_, an_⟩
 clear w1 g1 n1 a0 a1 a2 q41 q41b q118 q90 h1
 rintro _ h1 ⟨w1, g1, n1, a0, a1, a2⟩
 obtain ⟨F, hF⟩ : ∃ F, firstNZ [E, E', S] = F := ⟨_, rfl⟩
 rw [hF] at hz ⊢
 by_cases hF0 : F ≠ 0
 · repeat' (first | with_reducible refine am_ ?_ | ((with_reducible refine al_ ?_); first | ((with_reducible refine ak_ ?_); refine ac_ (ag_ rfl) ?_) | ((with_reducible refine ae_ ?_); refine ac_ (ad_ rfl) ?_) | ((with_reducible refine av_ ?_); refine ac_ (bm_ rfl rfl) ?_) | ((with_reducible refine ik_build ?_); refine ac_ (cz_ rfl zz54 zp54 rfl rfl) ?_) | ((with_reducible refine aG_ ?_); refine ci_ (aM_ rfl rfl an_ cc_ rfl rfl rfl rfl) ?_)) | (with_reducible first | refine ah_ ?_ | refine ao_ ?_ | refine ab_ ?_ | refine aA_ ?_ | refine bd_ ?_) | (refine aK_ rfl (fun hb => ?_) (fun hb => aH_ hb); (try simp only [bj_, reduceCtorEq] at hb)))
   all_goals exact rqc2 rfl (ldAgg an_ Tryz.underlying54 rfl cc_ rfl rfl) rfl ⟨.inl ⟨hF0, rfl⟩, aD_⟩
 have hF0 : F = 0 := by simpa using hF0
 subst hF0
 obtain ⟨rfl, rfl, rfl⟩ := hz rfl
 obtain ⟨z1, z2, z3⟩ := alkE_ok hS
 have hnm : n = m := by rw [← s.len, ← s'.len, z1]
 subst hnm
 obtain ⟨v1, v2, v3, v4, v5⟩ := valid_facts s hE
 obtain ⟨v1', v2', v3', v4', v5'⟩ := valid_facts s' hE'
 have k5 := (shE_ok hE).2.2.2.2
 have k5' := (shE_ok hE').2.2.2.2
 have q113 := fun (h2 : H) (g : Grow h h2) (w : Wf h2) => (c114 (nm := nm) (nm' := nm') (fI := 120) (s.grow g) (s'.grow g) hn (by omega) hl hl' v4 v4' (fun k q q' hh hh' => by
     have m1 := List.getElem_mem q
     have m2 := List.getElem_mem q'
     have e1 := v2 _ m1
     have e2 := v3 _ m1
     have e3 := v2' _ m2
     have e4 := v3' _ m2
     have e5 := k5 _ m1 hh
     have e6 := k5' _ m2 hh'
     have e7 : wid ts = wid us := by
       rw [wid_live m1 hh, wid_live m2 hh'] at z2
       simpa using z2
     refine ⟨by simp; omega, by simp; omega, fun x hx => ?_, fun x hx => ?_⟩
     · obtain ⟨y, hy, rfl⟩ := List.mem_map.1 hx
       exact smp_le (v4 _ (List.getElem_mem q) y hy)
     · obtain ⟨y, hy, rfl⟩ := List.mem_map.1 hx
       exact smp_le (v4' _ (List.getElem_mem q') y hy)) add_ok w).mono
     (Q' := fun r h' => ((r = .tuple #[.agg ⟨zShot⟩, .int .i64 4] ∧ ChBad (mrgF addF us) (mskL ts us)) ∨ (∃ (B : Nat) (vs : List Trc), r = .tuple #[.agg ⟨shC nm (some ⟨B, 0, some 0⟩) n n⟩, .int .i64 0] ∧ ¬ ChBad (mrgF addF us) (mskL ts us) ∧ h2.nx ≤ B ∧ At h' B (.cells (vs.flatMap Trc.cells) 58 10 false) ∧ (∀ u ∈ vs, TrN h' h2.nx u) ∧ KeyAll vs (mskL ts us) (chKey (mrgF addF us)))) ∧ Grow h2 h') fun r h' ⟨q, g⟩ => ⟨by
       rcases q with q | ⟨q1, B, vs, e, q⟩
       · exact .inl q
       · exact .inr ⟨B, vs, e, q1, q⟩, g⟩
 repeat' (first | with_reducible refine am_ ?_ | ((with_reducible refine al_ ?_); first | ((with_reducible refine ak_ ?_); refine ac_ (ag_ rfl) ?_) | ((with_reducible refine ae_ ?_); refine ac_ (ad_ rfl) ?_) | ((with_reducible refine au_ ?_); refine ac_ (ay_ rfl an_ Tryz.underlying54 rfl cc_ rfl rfl) ?_) | ((with_reducible refine av_ ?_); refine ac_ (bm_ rfl rfl) ?_) | ((with_reducible refine aG_ ?_); refine ci_ (aM_ rfl rfl an_ cc_ rfl rfl rfl rfl) ?_) | ((with_reducible refine bR_ ?_); refine ac_ (bD_ rfl rfl) ?_) | ((with_reducible refine aN_ ?_); (refine aW_ rfl rfl rfl rfl (q113 _ aD_ aZ_) rfl rfl ?_; rintro _ _ ⟨(⟨rfl, hbad⟩ | ⟨B, vs, rfl, hnb, hB, hatB, hvs, hka⟩), hq⟩; all_goals ((try (have hqn := hq.nx)); (try simp only [bG_] at hqn))))) | (with_reducible first | refine ah_ ?_ | refine ao_ ?_ | refine ab_ ?_ | refine az_ ?_ | refine aA_ ?_) | refine bs_ rfl ?_)
 · exact rqc2 rfl (ldAgg an_ Tryz.underlying54 rfl cc_ rfl rfl) rfl ⟨.inr (.inl ⟨rfl, hbad, rfl⟩), aD_⟩
 · exact rqc2 rfl (ldAgg an_ Tryz.underlying54 rfl cc_ rfl rfl) rfl ⟨.inr (.inr ⟨rfl, hnb, B, vs, rfl, by omega, an_, fun u hu => ((hvs u hu).set (by omega) _).le (by omega), hka⟩), aD_⟩
end Go.Proofs.YthnnndkfpamacaaGreatDoor
/- Shots scaled and delayed by the program. -/
namespace Go.Proofs.YthnnndkfpamacaaGreatDoor
open Go Go.Ab Go.Fl
attribute [local irreducible] SeqQ BlkQ LpQ RetQ Wc Wo WD WX Op1 Op1q Op1a Cf Cl From
attribute [local irreducible] Ieee.Format.order Ieee.Format.read Ieee.Format.nearest Ieee.Format.write Ieee.Format.mul Ieee.Format.div Ieee.Datum.order Ieee.Datum.integral smpE smp smpW K J U trE hdrE lchk firstNZ isNameB wid mism shE offs shortB anyLarge spanE folE rngE
set_option maxRecDepth 10000
variable {G : Base} {h : H}
def sclC (nm : ByteArray) (ts : List Trc) (x y : Int) : Int := firstNZ [shE nm ts, rngE x (-1024) 1024, rngE y 1 1024]
def dlyC (nm : ByteArray) (ts : List Trc) (x : Int) : Int := firstNZ [shE nm ts, rngE x (-1024) 1024]
theorem rngE_ok {x lo hi : Int} (h : rngE x lo hi = 0) : lo ≤ x ∧ x ≤ hi := by
 rcases rng_cases x lo hi with ⟨_, a, b⟩ | ⟨e, _⟩
 · exact ⟨a, b⟩
 · rw [e] at h; exact absurd h (by decide)
theorem first2_zero {a b : Int} (h : firstNZ [a, b] = 0) : a = 0 ∧ b = 0 := by
 rw [first2] at h
 by_cases q : a = 0
 · rw [if_neg (by simp [q])] at h; exact ⟨q, h⟩
 · rw [if_pos q] at h; exact absurd h q
set_option maxHeartbeats 4000000 in
theorem c49 {nm : ByteArray} {a : Option Addr} {n c : Nat} {ts : List Trc} {x y : Int} (s : SlT G h (.slice a n c) n ts) (hn : n ≤ 65) (hl : ∀ t ∈ ts, t.n < 1000000) (hw : Wf h) (hG : ∀ a v, laidBase a = some v → G a = some v) :
   Cf (mz G) (.func (.func 49) #[] #[]) [.agg ⟨shC nm a n c⟩, .int .i64 x, .int .i64 y] h fun r h' => ChR h nm n (sclC nm ts x y) (sclF x y) ts r h' ∧ Grow h h' := by
 have q41 := fun (h' : H) (g : Grow h h') (w : Wf h') => c41 (nm := nm) (s.grow g) (by omega) hl w hG
 have q91 := fun (h' : H) => c91 (G := G) (h := h') x (-1024) 1024
 have q91b := fun (h' : H) => c91 (G := G) (h := h') y 1 1024
 have hz := fun (q : firstNZ [shE nm ts, rngE x (-1024) 1024, rngE y 1 1024] = 0) => first3_zero q
 unfold ChR sclC
 obtain ⟨E, hE⟩ : ∃ E, shE nm ts = E := ⟨_, rfl⟩
 obtain ⟨E', hE'⟩ : ∃ E, rngE x (-1024) 1024 = E := ⟨_, rfl⟩
 obtain ⟨S, hS⟩ : ∃ S, rngE y 1 1024 = S := ⟨_, rfl⟩
 rw [hE] at q41 hz ⊢
 rw [hE'] at q91 hz ⊢
 rw [hS] at q91b hz ⊢
 have q90 := fun (h' : H) (b : Nat) (w : Wf h') (at' : At h' b (.cells [.int .i64 E, .int .i64 E', .int .i64 S] 26 1 false)) => c90 (G := G) (h := h') (es := [E, E', S]) (n := 3) (Sl.ofAt at' rfl (Nat.le_refl _)) (by omega)
 refine ar_ 26 [.cell 6 54, .tmp 7] Tryz.func49 rfl rfl rfl rfl ?_
 refine bU_ (ι := Unit) (fun _ => [(3, .pointer (some ⟨h.nx, 0, some 0⟩)), (4, .pointer (some ⟨h.nx + 1, 0, some 0⟩)), (5, .pointer (some ⟨h.nx + 2, 0, some 0⟩)), (6, .pointer (some ⟨h.nx + 3, 0, some 0⟩)), (7, .int .i64 0)]) (fun _ h1 => (Wf h1 ∧ Grow h h1 ∧ h.nx + 4 ≤ h1.nx ∧ At h1 h.nx (.cells (shC nm a n c) 54 2 false) ∧ At h1 (h.nx + 1) (.cells [.int .i64 x] 3 1 false) ∧ At h1 (h.nx + 2) (.cells [.int .i64 y] 3 1 false) ∧ At h1 (h.nx + 3) (.cells zShot 54 2 false))) ?_ ?_
 · repeat' (first | with_reducible refine am_ ?_ | ((with_reducible refine al_ ?_); first | ((with_reducible refine ae_ ?_); refine ac_ (ad_ rfl) ?_) | ((with_reducible refine bw_ ?_); first | refine ac_ (aL_ rfl cc_ rfl) ?_ | refine ac_ (op_box1 rfl rfl zs3) ?_) | ((with_reducible refine aU_ ?_); refine ac_ (aQ_ zz54 cc_ rfl rfl rfl) ?_)) | with_reducible refine ab_ ?_)
   exact ⟨rfl, (), ai_ ⟨rfl, rfl, rfl, rfl, rfl, trivial⟩, aZ_, aD_, (by simp only [H.nx_push]; omega), an_, an_, an_, an_⟩
 rintro _ h1 ⟨w1, g1, n1, a0, a1, a2, a3⟩
 refine ao_ ?_
 try refine wc_scope ?_
 refine bU_ (ι := Unit) (fun _ => [(3, .pointer (some ⟨h.nx, 0, some 0⟩)), (4, .pointer (some ⟨h.nx + 1, 0, some 0⟩)), (5, .pointer (some ⟨h.nx + 2, 0, some 0⟩)), (6, .pointer (some ⟨h.nx + 3, 0, some 0⟩)), (7, .int .i64 0), (8, .int .i64 (firstNZ [E, E', S]))]) (fun _ h1 => (Wf h1 ∧ Grow h h1 ∧ h.nx + 4 ≤ h1.nx ∧ At h1 h.nx (.cells (shC nm a n c) 54 2 false) ∧ At h1 (h.nx + 1) (.cells [.int .i64 x] 3 1 false) ∧ At h1 (h.nx + 2) (.cells [.int .i64 y] 3 1 false) ∧ At h1 (h.nx + 3) (.cells zShot 54 2 false))) ?_ ?_
 · repeat' (first | ((with_reducible refine bL_ ?_); first | ((with_reducible refine bK_ ?_); first | ((with_reducible refine by_ ?_); first | refine bp_ (af_ rfl) rfl (aE_ rfl (ay_ rfl an_ Tryz.underlying54 rfl cc_ rfl rfl)) rfl rfl rfl ?_ | refine bp_ (af_ rfl) rfl (aE_ rfl (aq_ rfl an_ Tryz.underlying3 rfl rfl)) rfl rfl rfl ?_) | ((with_reducible refine ct_ ?_); refine wx_a0 (af_ rfl) rfl (cv_ rfl Tryz.underlying219 zs26 zz26 rfl rfl) rfl rfl ?_) | ((with_reducible refine bH_ ?_); first | refine wx_ee (af_ rfl) rfl rfl (aJ_ rfl rfl (q91 _)) rfl rfl ?_ | refine wx_ee (af_ rfl) rfl rfl (aJ_ rfl rfl (q91b _)) rfl rfl ?_ | (refine aV_ (af_ rfl) rfl rfl rfl rfl (q41 _ aD_ aZ_) rfl rfl ?_; rintro _ _ ⟨rfl, hq⟩; all_goals ((try (have hqn := hq.nx)); (try simp only [bG_] at hqn))))) | ((with_reducible refine ck_ ?_); refine bn_ (af_ rfl) rfl rfl (aE_ rfl (ad_ rfl)) rfl rfl rfl ?_) | ((with_reducible refine bH_ ?_); ((with_reducible refine xk_as1 ?_); refine wx_e1 (af_ rfl) rfl rfl rfl (aJ_ rfl rfl (q90 _ _ aZ_ an_)) rfl rfl ?_)) | refine wx_niln ?_ ?_ rfl rfl ?_) | with_reducible exact bA_ | with_reducible refine bk_ ?_ ?_ | ((with_reducible refine bM_ ?_); first | exact bz_ | refine bx_ rfl ?_ | refine aB_ rfl rfl (aE_ rfl (ay_ rfl an_ Tryz.underlying54 rfl cc_ (by rfl) rfl)) ?_ | refine aB_ rfl rfl (aE_ rfl (aq_ rfl an_ Tryz.underlying3 rfl (by rfl))) ?_) | with_reducible exact stk_nil | with_reducible refine cK_ ?_ ?_ | ((with_reducible refine ik_stk ?_); first | exact stk_abs rfl rfl | exact cI_ rfl rfl aZ_ gr_B) | refine br_ (id := 1) 9 [0, 1, 0, 7, 0, 31, 63, 127, 255] [0, 1, 2, 3, 4, 5, 6, 7, 8] (by kernel_rfl) (by kernel_rfl) rfl rfl ?_)
   exact ⟨rfl, (), ai_ ⟨rfl, rfl, rfl, rfl, rfl, rfl, trivial⟩, aZ_, aD_, (by simp only [H.nx_set]; omega), an_, an_, an_, an_⟩
 clear w1 g1 n1 a0 a1 a2 a3 q41 q91 q91b q90 h1
 rintro _ h1 ⟨w1, g1, n1, a0, a1, a2, a3⟩
 obtain ⟨F, hF⟩ : ∃ F, firstNZ [E, E', S] = F := ⟨_, rfl⟩
 rw [hF] at hz ⊢
 by_cases hF0 : F ≠ 0
 · repeat' (first | with_reducible refine am_ ?_ | ((with_reducible refine al_ ?_); first | ((with_reducible refine ak_ ?_); refine ac_ (ag_ rfl) ?_) | ((with_reducible refine ae_ ?_); refine ac_ (ad_ rfl) ?_) | ((with_reducible refine av_ ?_); refine ac_ (bm_ rfl rfl) ?_) | ((with_reducible refine ik_build ?_); refine ac_ (cz_ rfl zz54 zp54 rfl rfl) ?_) | ((with_reducible refine aG_ ?_); refine ci_ (aM_ rfl rfl an_ cc_ rfl rfl rfl rfl) ?_)) | (with_reducible first | refine ah_ ?_ | refine ao_ ?_ | refine ab_ ?_ | refine aA_ ?_ | refine bd_ ?_) | (refine aK_ rfl (fun hb => ?_) (fun hb => aH_ hb); (try simp only [bj_, reduceCtorEq] at hb)))
   all_goals exact rqc2 rfl (ldAgg an_ Tryz.underlying54 rfl cc_ rfl rfl) rfl ⟨.inl ⟨hF0, rfl⟩, aD_⟩
 have hF0 : F = 0 := by simpa using hF0
 subst hF0
 obtain ⟨rfl, rfl, rfl⟩ := hz rfl
 have r1 := rngE_ok hE'
 have r2 := rngE_ok hS
 obtain ⟨v1, v2, v3, v4, v5⟩ := valid_facts s hE
 have q110 := fun (h2 : H) (g : Grow h h2) (w : Wf h2) (p1 : At h2 (h.nx + 1) (.cells [.int .i64 x] 3 1 false)) (p2 : At h2 (h.nx + 2) (.cells [.int .i64 y] 3 1 false)) => (c111 (nm := nm) (s.grow g) hn v1.1 hl (fun t ht _ => v4 t ht) w rfl (scl_clos (x := x) (y := y) (by omega) (by omega) (by omega) v2 v3 v4 p1 p2)).mono
     (Q' := fun r h' => ((r = .tuple #[.agg ⟨zShot⟩, .int .i64 4] ∧ ChBad (sclF x y) ts) ∨ (∃ (B : Nat) (vs : List Trc), r = .tuple #[.agg ⟨shC nm (some ⟨B, 0, some 0⟩) n n⟩, .int .i64 0] ∧ ¬ ChBad (sclF x y) ts ∧ h2.nx ≤ B ∧ At h' B (.cells (vs.flatMap Trc.cells) 58 10 false) ∧ (∀ u ∈ vs, TrN h' h2.nx u) ∧ KeyAll vs ts (chKey (sclF x y)))) ∧ Grow h2 h') fun r h' ⟨q, g⟩ => ⟨by
       rcases q with q | ⟨q1, B, vs, e, q⟩
       · exact .inl q
       · exact .inr ⟨B, vs, e, q1, q⟩, g⟩
 repeat' (first | with_reducible refine am_ ?_ | ((with_reducible refine al_ ?_); first | ((with_reducible refine ak_ ?_); refine ac_ (ag_ rfl) ?_) | ((with_reducible refine ae_ ?_); refine ac_ (ad_ rfl) ?_) | ((with_reducible refine ik_makeFunc ?_); refine ac_ (op_makeFunc (fun _ q => by cases q) rfl rfl) ?_) | ((with_reducible refine au_ ?_); refine ac_ (ay_ rfl an_ Tryz.underlying54 rfl cc_ rfl rfl) ?_) | ((with_reducible refine av_ ?_); refine ac_ (bm_ rfl rfl) ?_) | ((with_reducible refine aG_ ?_); refine ci_ (aM_ rfl rfl an_ cc_ rfl rfl rfl rfl) ?_) | ((with_reducible refine bR_ ?_); refine ac_ (bD_ rfl rfl) ?_) | ((with_reducible refine aN_ ?_); (refine aW_ rfl rfl rfl rfl (q110 _ aD_ aZ_ an_ an_) rfl rfl ?_; rintro _ _ ⟨(⟨rfl, hbad⟩ | ⟨B, vs, rfl, hnb, hB, hatB, hvs, hka⟩), hq⟩; all_goals ((try (have hqn := hq.nx)); (try simp only [bG_] at hqn))))) | (with_reducible first | refine ah_ ?_ | refine ao_ ?_ | refine ab_ ?_ | refine az_ ?_ | refine aA_ ?_) | refine bs_ rfl ?_)
 · exact rqc2 rfl (ldAgg an_ Tryz.underlying54 rfl cc_ rfl rfl) rfl ⟨.inr (.inl ⟨rfl, hbad, rfl⟩), aD_⟩
 · exact rqc2 rfl (ldAgg an_ Tryz.underlying54 rfl cc_ rfl rfl) rfl ⟨.inr (.inr ⟨rfl, hnb, B, vs, rfl, by omega, an_, fun u hu => ((hvs u hu).set (by omega) _).le (by omega), hka⟩), aD_⟩
set_option maxHeartbeats 4000000 in
theorem c50 {nm : ByteArray} {a : Option Addr} {n c : Nat} {ts : List Trc} {x : Int} (s : SlT G h (.slice a n c) n ts) (hn : n ≤ 65) (hl : ∀ t ∈ ts, t.n < 1000000) (hw : Wf h) (hG : ∀ a v, laidBase a = some v → G a = some v) :
   Cf (mz G) (.func (.func 50) #[] #[]) [.agg ⟨shC nm a n c⟩, .int .i64 x] h fun r h' => ChR h nm n (dlyC nm ts x) (dlyF x) ts r h' ∧ Grow h h' := by
 have q41 := fun (h' : H) (g : Grow h h') (w : Wf h') => c41 (nm := nm) (s.grow g) (by omega) hl w hG
 have q91 := fun (h' : H) => c91 (G := G) (h := h') x (-1024) 1024
 have hz := fun (q : firstNZ [shE nm ts, rngE x (-1024) 1024] = 0) => first2_zero q
 unfold ChR dlyC
 obtain ⟨E, hE⟩ : ∃ E, shE nm ts = E := ⟨_, rfl⟩
 obtain ⟨E', hE'⟩ : ∃ E, rngE x (-1024) 1024 = E := ⟨_, rfl⟩
 rw [hE] at q41 hz ⊢
 rw [hE'] at q91 hz ⊢
 have q90 := fun (h' : H) (b : Nat) (w : Wf h') (at' : At h' b (.cells [.int .i64 E, .int .i64 E'] 26 1 false)) => c90 (G := G) (h := h') (es := [E, E']) (n := 2) (Sl.ofAt at' rfl (Nat.le_refl _)) (by omega)
 refine ar_ 22 [.cell 4 54, .tmp 5] Tryz.func50 rfl rfl rfl rfl ?_
 refine bU_ (ι := Unit) (fun _ => [(2, .pointer (some ⟨h.nx, 0, some 0⟩)), (3, .pointer (some ⟨h.nx + 1, 0, some 0⟩)), (4, .pointer (some ⟨h.nx + 2, 0, some 0⟩)), (5, .int .i64 0)]) (fun _ h1 => (Wf h1 ∧ Grow h h1 ∧ h.nx + 3 ≤ h1.nx ∧ At h1 h.nx (.cells (shC nm a n c) 54 2 false) ∧ At h1 (h.nx + 1) (.cells [.int .i64 x] 3 1 false) ∧ At h1 (h.nx + 2) (.cells zShot 54 2 false))) ?_ ?_
 · repeat' (first | with_reducible refine am_ ?_ | ((with_reducible refine al_ ?_); first | ((with_reducible refine ae_ ?_); refine ac_ (ad_ rfl) ?_) | ((with_reducible refine bw_ ?_); first | refine ac_ (aL_ rfl cc_ rfl) ?_ | refine ac_ (op_box1 rfl rfl zs3) ?_) | ((with_reducible refine aU_ ?_); refine ac_ (aQ_ zz54 cc_ rfl rfl rfl) ?_)) | with_reducible refine ab_ ?_)
   exact ⟨rfl, (), ai_ ⟨rfl, rfl, rfl, rfl, trivial⟩, aZ_, aD_, (by simp only [H.nx_push]; omega), an_, an_, an_⟩
 rintro _ h1 ⟨w1, g1, n1, a0, a1, a2⟩
 refine ao_ ?_
 try refine wc_scope ?_
 refine bU_ (ι := Unit) (fun _ => [(2, .pointer (some ⟨h.nx, 0, some 0⟩)), (3, .pointer (some ⟨h.nx + 1, 0, some 0⟩)), (4, .pointer (some ⟨h.nx + 2, 0, some 0⟩)), (5, .int .i64 0), (6, .int .i64 (firstNZ [E, E']))]) (fun _ h1 => (Wf h1 ∧ Grow h h1 ∧ h.nx + 3 ≤ h1.nx ∧ At h1 h.nx (.cells (shC nm a n c) 54 2 false) ∧ At h1 (h.nx + 1) (.cells [.int .i64 x] 3 1 false) ∧ At h1 (h.nx + 2) (.cells zShot 54 2 false))) ?_ ?_
 · repeat' (first | ((with_reducible refine bL_ ?_); first | ((with_reducible refine bK_ ?_); first | ((with_reducible refine by_ ?_); first | refine bp_ (af_ rfl) rfl (aE_ rfl (ay_ rfl an_ Tryz.underlying54 rfl cc_ rfl rfl)) rfl rfl rfl ?_ | refine bp_ (af_ rfl) rfl (aE_ rfl (aq_ rfl an_ Tryz.underlying3 rfl rfl)) rfl rfl rfl ?_) | ((with_reducible refine ct_ ?_); refine wx_a0 (af_ rfl) rfl (cv_ rfl Tryz.underlying219 zs26 zz26 rfl rfl) rfl rfl ?_) | ((with_reducible refine bH_ ?_); first | refine wx_ee (af_ rfl) rfl rfl (aJ_ rfl rfl (q91 _)) rfl rfl ?_ | (refine aV_ (af_ rfl) rfl rfl rfl rfl (q41 _ aD_ aZ_) rfl rfl ?_; rintro _ _ ⟨rfl, hq⟩; all_goals ((try (have hqn := hq.nx)); (try simp only [bG_] at hqn))))) | ((with_reducible refine ck_ ?_); refine bn_ (af_ rfl) rfl rfl (aE_ rfl (ad_ rfl)) rfl rfl rfl ?_) | ((with_reducible refine bH_ ?_); ((with_reducible refine xk_as1 ?_); refine wx_e1 (af_ rfl) rfl rfl rfl (aJ_ rfl rfl (q90 _ _ aZ_ an_)) rfl rfl ?_)) | refine wx_niln ?_ ?_ rfl rfl ?_) | with_reducible exact bA_ | with_reducible refine bk_ ?_ ?_ | ((with_reducible refine bM_ ?_); first | exact bz_ | refine bx_ rfl ?_ | refine aB_ rfl rfl (aE_ rfl (ay_ rfl an_ Tryz.underlying54 rfl cc_ (by rfl) rfl)) ?_ | refine aB_ rfl rfl (aE_ rfl (aq_ rfl an_ Tryz.underlying3 rfl (by rfl))) ?_) | with_reducible exact stk_nil | with_reducible refine cK_ ?_ ?_ | ((with_reducible refine ik_stk ?_); first | exact stk_abs rfl rfl | exact cI_ rfl rfl aZ_ gr_B) | refine br_ (id := 1) 7 [0, 1, 0, 7, 15, 31, 63] [0, 1, 2, 3, 4, 5, 6] (by kernel_rfl) (by kernel_rfl) rfl rfl ?_)
   exact ⟨rfl, (), ai_ ⟨rfl, rfl, rfl, rfl, rfl, trivial⟩, aZ_, aD_, (by simp only [H.nx_set]; omega), an_, an_, an_⟩
 clear w1 g1 n1 a0 a1 a2 q41 q91 q90 h1
 rintro _ h1 ⟨w1, g1, n1, a0, a1, a2⟩
 obtain ⟨F, hF⟩ : ∃ F, firstNZ [E, E'] = F := ⟨_, rfl⟩
 rw [hF] at hz ⊢
 by_cases hF0 : F ≠ 0
 · repeat' (first | with_reducible refine am_ ?_ | ((with_reducible refine al_ ?_); first | ((with_reducible refine ak_ ?_); refine ac_ (ag_ rfl) ?_) | ((with_reducible refine ae_ ?_); refine ac_ (ad_ rfl) ?_) | ((with_reducible refine av_ ?_); refine ac_ (bm_ rfl rfl) ?_) | ((with_reducible refine ik_build ?_); refine ac_ (cz_ rfl zz54 zp54 rfl rfl) ?_) | ((with_reducible refine aG_ ?_); refine ci_ (aM_ rfl rfl an_ cc_ rfl rfl rfl rfl) ?_)) | (with_reducible first | refine ah_ ?_ | refine ao_ ?_ | refine ab_ ?_ | refine aA_ ?_ | refine bd_ ?_) | (refine aK_ rfl (fun hb => ?_) (fun hb => aH_ hb); (try simp only [bj_, reduceCtorEq] at hb)))
   all_goals exact rqc2 rfl (ldAgg an_ Tryz.underlying54 rfl cc_ rfl rfl) rfl ⟨.inl ⟨hF0, rfl⟩, aD_⟩
 have hF0 : F = 0 := by simpa using hF0
 subst hF0
 obtain ⟨rfl, rfl⟩ := hz rfl
 have r1 := rngE_ok hE'
 obtain ⟨v1, v2, v3, v4, v5⟩ := valid_facts s hE
 have q110 := fun (h2 : H) (g : Grow h h2) (w : Wf h2) (p1 : At h2 (h.nx + 1) (.cells [.int .i64 x] 3 1 false)) => (c111 (nm := nm) (s.grow g) hn v1.1 hl (fun t ht _ => v4 t ht) w rfl (dly_clos (x := x) (by omega) v2 v3 v4 p1)).mono
     (Q' := fun r h' => ((r = .tuple #[.agg ⟨zShot⟩, .int .i64 4] ∧ ChBad (dlyF x) ts) ∨ (∃ (B : Nat) (vs : List Trc), r = .tuple #[.agg ⟨shC nm (some ⟨B, 0, some 0⟩) n n⟩, .int .i64 0] ∧ ¬ ChBad (dlyF x) ts ∧ h2.nx ≤ B ∧ At h' B (.cells (vs.flatMap Trc.cells) 58 10 false) ∧ (∀ u ∈ vs, TrN h' h2.nx u) ∧ KeyAll vs ts (chKey (dlyF x)))) ∧ Grow h2 h') fun r h' ⟨q, g⟩ => ⟨by
       rcases q with q | ⟨q1, B, vs, e, q⟩
       · exact .inl q
       · exact .inr ⟨B, vs, e, q1, q⟩, g⟩
 repeat' (first | with_reducible refine am_ ?_ | ((with_reducible refine al_ ?_); first | ((with_reducible refine ak_ ?_); refine ac_ (ag_ rfl) ?_) | ((with_reducible refine ae_ ?_); refine ac_ (ad_ rfl) ?_) | ((with_reducible refine ik_makeFunc ?_); refine ac_ (op_makeFunc (fun _ q => by cases q) rfl rfl) ?_) | ((with_reducible refine au_ ?_); refine ac_ (ay_ rfl an_ Tryz.underlying54 rfl cc_ rfl rfl) ?_) | ((with_reducible refine av_ ?_); refine ac_ (bm_ rfl rfl) ?_) | ((with_reducible refine aG_ ?_); refine ci_ (aM_ rfl rfl an_ cc_ rfl rfl rfl rfl) ?_) | ((with_reducible refine bR_ ?_); refine ac_ (bD_ rfl rfl) ?_) | ((with_reducible refine aN_ ?_); (refine aW_ rfl rfl rfl rfl (q110 _ aD_ aZ_ an_) rfl rfl ?_; rintro _ _ ⟨(⟨rfl, hbad⟩ | ⟨B, vs, rfl, hnb, hB, hatB, hvs, hka⟩), hq⟩; all_goals ((try (have hqn := hq.nx)); (try simp only [bG_] at hqn))))) | (with_reducible first | refine ah_ ?_ | refine ao_ ?_ | refine ab_ ?_ | refine az_ ?_ | refine aA_ ?_) | refine bs_ rfl ?_)
 · exact rqc2 rfl (ldAgg an_ Tryz.underlying54 rfl cc_ rfl rfl) rfl ⟨.inr (.inl ⟨rfl, hbad, rfl⟩), aD_⟩
 · exact rqc2 rfl (ldAgg an_ Tryz.underlying54 rfl cc_ rfl rfl) rfl ⟨.inr (.inr ⟨rfl, hnb, B, vs, rfl, by omega, an_, fun u hu => ((hvs u hu).set (by omega) _).le (by omega), hka⟩), aD_⟩
end Go.Proofs.YthnnndkfpamacaaGreatDoor
