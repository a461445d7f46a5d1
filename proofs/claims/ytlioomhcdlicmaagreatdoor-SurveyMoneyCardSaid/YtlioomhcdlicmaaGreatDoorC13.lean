/- Survey: the hours of each cause both ways; divisors, ratios in lowest terms. -/
import Derived.Test.YtlioomhcdlicmaaGreatDoorC12
set_option linter.all false
/- Survey: the ticks of each cause. -/
namespace Go.Proofs.YtlioomhcdlicmaaGreatDoor
open Go Go.Ab Go.Fl
attribute [local irreducible] SeqQ BlkQ LpQ RetQ Wc Wo WD WX Op1 Op1q Op1a Cf Cl From
attribute [local irreducible] Ieee.Format.order Ieee.Format.read Ieee.Format.nearest Ieee.Format.write Ieee.Format.mul Ieee.Format.div Ieee.Format.sqrt Ieee.Datum.order Ieee.Datum.integral K U rngE errN ptE firstNZ vesE watE sgE sgsE allE hitB sqD insB qsL lvl rn rl altB
set_option maxRecDepth 10000
variable {G : Base} {h : H}
theorem cnum_lt {s : ByteArray} : ∀ (l : List ByteArray) (i : Int), cnum s l i < i + l.length ∨ cnum s l i = -1
 | [], i => .inr rfl
 | a :: l, i => by
   have e : cnum s (a :: l) i = if s = a then i else cnum s l (i + 1) := rfl
   rw [e]
   split
   · left; simp only [List.length_cons]; omega
   · rcases cnum_lt (s := s) l (i + 1) with h | h
     · left; simp only [List.length_cons]; omega
     · exact .inr h
theorem cauN_lt {s : ByteArray} : cauN s < 6 := by
 have := cnum_lt (s := s) cauW 0
 have e : cauW.length = 6 := rfl
 unfold cauN
 rw [e] at this
 omega
theorem enE_ok {e : En} (hh : enE e = 0) : (0 ≤ e.f ∧ e.f < e.t ∧ e.t ≤ 100000) ∧ 0 ≤ cauN e.c := by
 rw [enE_def] at hh
 by_cases h1 : spE ⟨e.f, e.t⟩ = 0
 · rw [if_neg (by simpa using h1)] at hh
   refine ⟨?_, ?_⟩
   · unfold spE at h1
     split at h1
     · assumption
     · cases h1
   · by_cases q : 0 ≤ cauN e.c
     · exact q
     · rw [if_neg q] at hh; cases hh
 · rw [if_pos h1] at hh; exact absurd hh h1
theorem ens_ok {l : List En} (hh : ensE l = 0) : l.length ≤ 64 ∧ ∀ e ∈ l, enE e = 0 := by
 unfold ensE at hh
 split at hh
 · cases hh
 · refine ⟨by omega, fun p hp => ?_⟩
   obtain ⟨i, hi, rfl⟩ := List.getElem_of_mem hp
   have a := errN_all hh hi
   unfold sucA at a
   rw [show l.getD i ⟨0, 0, .empty⟩ = l[i] by simp [List.getD, List.getElem?_eq_getElem hi]] at a
   by_cases q : enE l[i] = 0
   · exact q
   · rw [if_pos q] at a; exact a
def addH (H : List Int) (j : Nat) (d : Int) : List Int := H.set j (H.getD j 0 + d)
def hrK (l : List En) : Nat → List Int
 | 0 => [0, 0, 0, 0, 0, 0]
 | k + 1 => if k < l.length then addH (hrK l k) (cauN (l.getD k ⟨0, 0, .empty⟩).c).toNat ((l.getD k ⟨0, 0, .empty⟩).t - (l.getD k ⟨0, 0, .empty⟩).f) else hrK l k
theorem hrK_zero {l : List En} : hrK l 0 = [0, 0, 0, 0, 0, 0] := by rw [hrK]
theorem hrK_next {l : List En} {k : Nat} (hk : k < l.length) : hrK l (k + 1) = addH (hrK l k) (cauN (l.getD k ⟨0, 0, .empty⟩).c).toNat ((l.getD k ⟨0, 0, .empty⟩).t - (l.getD k ⟨0, 0, .empty⟩).f) := by
 rw [hrK, if_pos hk]
theorem hrK_len {l : List En} : ∀ k, (hrK l k).length = 6
 | 0 => rfl
 | k + 1 => by
   rw [hrK]
   split
   · unfold addH; rw [List.length_set]; exact hrK_len k
   · exact hrK_len k
theorem getD_set {H : List Int} {j i : Nat} {d : Int} : (H.set j d).getD i 0 = if j = i ∧ j < H.length then d else H.getD i 0 := by
 simp only [List.getD, List.getElem?_set]
 by_cases q : j = i
 · subst q
   by_cases h : j < H.length
   · simp [h]
   · simp [h, List.getElem?_eq_none (Nat.le_of_not_lt h)]
 · simp [q]
theorem hrK_bd {l : List En} (hv : ∀ e ∈ l, enE e = 0) : ∀ (k i : Nat), 0 ≤ (hrK l k).getD i 0 ∧ (hrK l k).getD i 0 ≤ k * 100000
 | 0, i => by
   match i with
   | 0 | 1 | 2 | 3 | 4 | 5 => simp [hrK]
   | i + 6 => simp [hrK, List.getD]
 | k + 1, i => by
   have ih := hrK_bd hv k
   rw [hrK]
   split
   · rename_i hk
     have hm : l.getD k ⟨0, 0, .empty⟩ ∈ l := by simp [List.getD, List.getElem?_eq_getElem hk]
     obtain ⟨⟨a, b, c⟩, _⟩ := enE_ok (hv _ hm)
     unfold addH
     rw [getD_set]
     have h1 := ih (cauN (l.getD k ⟨0, 0, .empty⟩).c).toNat
     have h2 := ih i
     split
     · omega
     · omega
   · have := ih i
     omega
theorem lk_num0 {h : H} {b j : Nat} {s : ByteArray} (at1 : At h b (.map numM)) (hj : cauN s = (j : Int)) : alookup (mz G).P h 200 (.map (some b)) (.string s) false = some (.int .i64 (j : Nat)) := by
 have zz : tzero Tryz.prog 3 = some (.int .i64 0) := zz3
 have en : numM = pairs cauW 0 := rfl
 show alookup Tryz.prog h 200 _ _ _ = _
 unfold alookup
 simp only [u200, Tryz.underlying9, zz, plainKey, plainVal, show gd (Value.int .i64 0) = true from rfl, Bool.and_self, at1.get, en]
 unfold cauN at hj
 rcases find_num s cauW 0 0 (by omega) with ⟨h1, h2⟩ | ⟨h1, i, h2⟩
 · omega
 · rw [h2, ← hj]; rfl
theorem six {H : List Int} (hl : H.length = 6) : ∃ a b c d e f, H = [a, b, c, d, e, f] := by
 match H, hl with
 | [a, b, c, d, e, f], _ => exact ⟨a, b, c, d, e, f, rfl⟩
attribute [local irreducible] spE numM cauW cnum cauN enE hrK
set_option maxHeartbeats 8000000 in
theorem c108 {v : Value} {n : Nat} {l : List En} (s : Sl G h 3 v n (l.flatMap En.cells)) (hl : l.length = n) (hn : n ≤ 64) (hv : ∀ e ∈ l, enE e = 0) (hw : Wf h) : Cf (mz G) (.func (.func 108) #[] #[]) [v] h fun r h' => r = .agg ⟨(hrK l n).map (Value.int .i64)⟩ ∧ Grow h h' := by
 have q116 := fun (h' : H) (w' : Wf h') => (c116 (G := G) (h := h') w').mono (Q' := fun r h2 => (∃ b, r = .map (some b) ∧ b < h2.nx ∧ At h2 b (.map numM)) ∧ Grow h' h2) (fun r h2 ⟨e1, e2, e3⟩ => ⟨⟨_, e1, e2.lt, e2⟩, e3⟩)
 obtain ⟨a, c, rfl⟩ := s.form
 refine ak_ 31 [.cell 2 22] Tryz.func108 rfl rfl rfl rfl ?_
 refine bq_ (ι := Unit) (fun _ => [(0, .slice a n c), (2, .pointer (some ⟨h.nx, 0, some 0⟩))]) (fun _ h' => (Wf h' ∧ Grow h h') ∧ At h' h.nx (.cells [.int .i64 0, .int .i64 0, .int .i64 0, .int .i64 0, .int .i64 0, .int .i64 0] 22 6 false)) ?_ ?_
 · repeat' (first | with_reducible refine ad_ ?_ | ((with_reducible refine ac_ ?_); ((with_reducible refine bL_ ?_); refine aq_ (bP_ zz22 zs22 rfl rfl rfl) ?_)) | with_reducible refine bk_ ?_)
   exact ⟨rfl, (), af_ ⟨rfl, rfl, trivial⟩, ⟨aA_, au_⟩, ah_⟩
 rintro _ h1 ⟨⟨w1, g1⟩, a2⟩
 refine bq_ (ι := Nat) (fun b => [(0, .slice a n c), (2, .pointer (some ⟨h.nx, 0, some 0⟩)), (3, .map (some b))]) (fun b h' => (Wf h' ∧ Grow h1 h') ∧ At h' b (.map numM)) ?_ ?_
 · repeat' (first | with_reducible refine ad_ ?_ | ((with_reducible refine ac_ ?_); first | ((with_reducible refine at_ ?_); (refine as_ rfl rfl rfl rfl (q116 _ aA_) rfl rfl ?_; rintro _ _ ⟨⟨b, rfl, ltb, atb⟩, hq⟩; all_goals (try (have hqn := hq.nx); try simp only [aU_] at hqn))) | refine ao_ ?_) | with_reducible refine bk_ ?_)
   exact ⟨rfl, b, af_ ⟨rfl, rfl, rfl, trivial⟩, ⟨aA_, au_⟩, ah_⟩
 clear w1 q116
 rintro b h2 ⟨⟨w1, g2⟩, atb⟩
 have a2 := a2.grow g2
 have g3 := g1.trans g2
 clear g1 g2
 refine bq_ (ι := Nat) (fun e => [(0, .slice a n c), (2, .pointer (some ⟨h.nx, 0, some 0⟩)), (3, .map (some b)), (4, .pointer (some ⟨e, 0, some 0⟩))]) (fun e h' => (Wf h' ∧ Grow h2 h') ∧ h2.nx ≤ e ∧ At h' e (.cells [.int .i64 0, .int .i64 0, .int .i64 0, .int .i64 0, .int .i64 0, .int .i64 0] 22 6 false)) ?_ ?_
 · repeat' (first | with_reducible refine ad_ ?_ | ((with_reducible refine ac_ ?_); ((with_reducible refine bL_ ?_); refine aq_ (bP_ zz22 zs22 rfl rfl rfl) ?_)) | with_reducible refine bk_ ?_)
   exact ⟨rfl, h2.nx, af_ ⟨rfl, rfl, rfl, rfl, trivial⟩, ⟨aA_, au_⟩, Nat.le_refl _, ah_⟩
 clear w1
 rintro e h4 ⟨⟨w1, g4⟩, hge, ate⟩
 have l2 := a2.lt
 have lb := atb.lt
 have n3 := g3.nx
 have n4 := g4.nx
 refine bq_ (ι := Unit) (fun _ => [(2, .pointer (some ⟨h.nx, 0, some 0⟩)), (4, .pointer (some ⟨e, 0, some 0⟩))]) (fun _ h' => (Wf h' ∧ Grow h2 h') ∧ At h' e (.cells ((hrK l n).map (Value.int .i64)) 22 6 false)) ?_ ?_
 · refine bq_ (ι := Unit) (fun _ => [(2, .pointer (some ⟨h.nx, 0, some 0⟩)), (3, .map (some b)), (4, .pointer (some ⟨e, 0, some 0⟩)), (8, .slice a n c), (9, .int .i64 (n : Nat)), (10, .int .i64 (0 : Nat))]) (fun _ h' => h4 = h') ?_ ?_
   · repeat' (first | with_reducible refine ad_ ?_ | ((with_reducible refine ac_ ?_); first | ((with_reducible refine av_ ?_); refine aq_ (ax_ rfl Tryz.underlying85) ?_) | refine ao_ ?_) | with_reducible refine bk_ ?_)
     exact ⟨rfl, (), af_ ⟨rfl, rfl, rfl, rfl, rfl, rfl, trivial⟩, rfl⟩
   rintro _ h1' e
   subst e
   refine wc_block ?_
   refine bo_ (fun k => n - k) (fun k : Nat => [(2, .pointer (some ⟨h.nx, 0, some 0⟩)), (3, .map (some b)), (4, .pointer (some ⟨e, 0, some 0⟩)), (8, .slice a n c), (9, .int .i64 (n : Nat)), (10, .int .i64 (k : Nat))]) (fun k h' => (Wf h' ∧ Grow h2 h') ∧ k ≤ n ∧ At h' e (.cells ((hrK l k).map (Value.int .i64)) 22 6 false)) 0 (af_ ⟨rfl, rfl, rfl, rfl, rfl, rfl, trivial⟩) ⟨⟨w1, g4⟩, Nat.zero_le _, (show At _ e (.cells ((hrK l 0).map (Value.int .i64)) 22 6 false) from by rw [hrK_zero]; exact ate)⟩ ?_
   clear w1 ate n4 g4
   rintro k h5 ⟨⟨w1, g5⟩, hk, ate⟩
   have n5 := g5.nx
   have le := ate.lt
   have atb5 := atb.grow g5
   have g6 := g3.trans g5
   by_cases hlt : k < n
   · obtain ⟨id, i1, i3⟩ := cw_ En.len ⟨0, 0, .empty⟩ (s.grow g6) hl Tryz.underlying85 bt_ (i := (k : Int)) hlt rfl
     have nx := hrK_next (l := l) (k := k) (by omega)
     have hlen := hrK_len (l := l) k
     have hbd := hrK_bd (l := l) hv k
     have hm : l.getD k ⟨0, 0, .empty⟩ ∈ l := by simp [List.getD, List.getElem?_eq_getElem (show k < l.length by omega)]
     have hev := hv _ hm
     obtain ⟨x0, hx⟩ : ∃ x, l.getD k ⟨0, 0, .empty⟩ = x := ⟨_, rfl⟩
     rw [hx] at i3 nx hev
     clear hx hm
     obtain ⟨⟨v1, v2, v3⟩, v4⟩ := enE_ok hev
     have c6 := cauN_lt (s := x0.c)
     obtain ⟨j, hj⟩ : ∃ j : Nat, cauN x0.c = (j : Int) := ⟨(cauN x0.c).toNat, by omega⟩
     rw [hj, Int.toNat_natCast] at nx
     have hj6 : j < 6 := by omega
     obtain ⟨A, hA⟩ : ∃ A, (hrK l k).getD j 0 = A := ⟨_, rfl⟩
     have hAb := hbd j
     rw [hA] at hAb
     have hget : ((hrK l k).map (Value.int .i64))[j]? = some (.int .i64 A) := by rw [← hA]; exact get_map_int (by omega)
     obtain ⟨f, t, cz⟩ := x0
     dsimp only [En.cells] at i3
     dsimp only at nx hj v1 v2 v3
     unfold addH at nx
     rw [hA] at nx
     have lkn := fun (h' : H) (at1 : At h' b (.map numM)) => lk_num0 (G := G) (s := cz) at1 hj
     have hset : (((hrK l k).map (Value.int .i64)).set j (.int .i64 (A + (t - f)))) = ((hrK l (k + 1)).map (Value.int .i64)) := by rw [nx, List.map_set]
     have hll : ((hrK l k).map (Value.int .i64)).length = 6 := by rw [List.length_map]; exact hlen
     have hj0 : ((j : Nat) : Int) = (j : Int) := rfl
     obtain ⟨C1, hC1⟩ : ∃ C, ((hrK l k).map (Value.int .i64)) = C := ⟨_, rfl⟩
     rw [hC1] at ate hget hset hll
     obtain ⟨C2, hC2⟩ : ∃ C, ((hrK l (k + 1)).map (Value.int .i64)) = C := ⟨_, rfl⟩
     rw [hC2] at hset
     clear hC1 hbd hlen nx hev hA hj
     repeat' (first | with_reducible refine ad_ ?_ | ((with_reducible refine ac_ ?_); first | ((with_reducible refine an_ ?_); refine aq_ (ag_ rfl rfl i1) ?_) | ((with_reducible refine al_ ?_); refine aq_ (aN_ rfl Tryz.underlying133 rfl bt_ (i3 _ au_).all) ?_) | ((with_reducible refine ay_ ?_); refine bQ_ (aB_ rfl rfl ah_ bt_ rfl rfl rfl rfl) ?_) | refine ao_ ?_) | ((with_reducible refine bb_ ?_); ((with_reducible refine bd_ ?_); first | ((with_reducible refine ba_ ?_); refine aH_ (aa_ rfl) rfl rfl (ar_ rfl (aD_ rfl)) rfl rfl rfl ?_) | ((with_reducible refine aT_ ?_); refine aH_ (aa_ rfl) rfl rfl (ar_ rfl (bs_ rfl rfl (k := j) rfl Tryz.underlying22 zs3 hj6)) rfl rfl rfl ?_) | ((with_reducible refine aZ_ ?_); first | refine aO_ (aa_ rfl) rfl (ar_ rfl (op_ldIdx (b := e) (o := j) rfl ah_ Tryz.underlying3 rfl hget)) rfl rfl rfl ?_ | refine aO_ (aa_ rfl) rfl (ar_ rfl (ae_ (b := h5.nx) (off := 0) rfl ah_ Tryz.underlying3 rfl rfl)) rfl rfl rfl ?_ | refine aO_ (aa_ rfl) rfl (ar_ rfl (ae_ (b := h5.nx) (off := 1) rfl ah_ Tryz.underlying3 rfl rfl)) rfl rfl rfl ?_ | refine aO_ (aa_ rfl) rfl (ar_ rfl (ae_ rfl ah_ Tryz.underlying9 rfl rfl)) rfl rfl rfl ?_) | ((with_reducible refine bN_ ?_); refine wx_ee0 (aa_ rfl) rfl rfl (bA_ (b := e) (o := j) rfl rfl ah_ rfl zs3 (by omega) rfl hset) rfl ?_) | ((with_reducible refine bD_ ?_); first | refine aH_ (aa_ rfl) rfl rfl (ar_ rfl (bY_ rfl rfl (w64 (by omega) (by omega)))) rfl rfl rfl ?_ | refine aH_ (aa_ rfl) rfl rfl (ar_ rfl (op_add' rfl rfl (w64 (by omega) (by omega)))) rfl rfl rfl ?_) | ((with_reducible refine aC_ ?_); first | refine aH_ (aa_ rfl) rfl rfl (ar_ rfl (ab_ (o := 2) rfl Tryz.underlying133 rfl zs9 rfl)) rfl rfl rfl ?_ | refine aH_ (aa_ rfl) rfl rfl (ar_ rfl (ab_ (o := 0) rfl Tryz.underlying133 rfl zs79 rfl)) rfl rfl rfl ?_ | refine aH_ (aa_ rfl) rfl rfl (ar_ rfl (ab_ (o := 1) rfl Tryz.underlying79 rfl zs3 rfl)) rfl rfl rfl ?_ | refine aH_ (aa_ rfl) rfl rfl (ar_ rfl (ab_ (o := 0) rfl Tryz.underlying79 rfl zs3 rfl)) rfl rfl rfl ?_) | with_reducible refine bj_ ?_ ?_)) | with_reducible exact aP_ | with_reducible refine aJ_ ?_ ?_ | ((with_reducible refine bi_ ?_); first | exact aS_ | refine aQ_ rfl ?_ | refine am_ rfl rfl (ar_ rfl (op_ldIdx (b := e) (o := j) rfl ah_ Tryz.underlying3 rfl hget)) ?_ | refine am_ rfl rfl (ar_ rfl (ae_ (b := h5.nx) (off := 0) rfl ah_ Tryz.underlying3 rfl (by rfl))) ?_ | refine am_ rfl rfl (ar_ rfl (ae_ (b := h5.nx) (off := 1) rfl ah_ Tryz.underlying3 rfl (by rfl))) ?_ | refine am_ rfl rfl (ar_ rfl (ae_ rfl ah_ Tryz.underlying9 rfl (by rfl))) ?_) | refine ap_ ?_ | (refine aG_ rfl (fun hb => ?_) (fun hb => aw_ hb); (try simp only [aX_, reduceCtorEq] at hb)) | refine aF_ (id := 6) 16 [0, 0, 2, 7, 15, 31, 0, 64, 192, 0, 512, 1536, 4032, 8191, 16383, 32767] [0, 1, 2, 3, 4, 5, 6, 7, 8, 9, 10, 11, 12, 13, 14, 15] (by kernel_rfl) (by kernel_rfl) rfl rfl ?_ | (refine aO_ (aa_ rfl) rfl (ar_ rfl (cc_ rfl rfl (lkn _ ah_))) rfl rfl rfl ?_) | (refine am_ rfl rfl (ar_ rfl (cc_ rfl rfl (lkn _ ah_))) ?_))
     exact aI_ (k + 1) (by omega) (af_ ⟨rfl, rfl, rfl, rfl, rfl, rfl, trivial⟩) ⟨⟨aA_, au_⟩, by omega, by rw [hC2]; exact ah_⟩
   · have hkn : k = n := by omega
     subst hkn
     repeat' (first | with_reducible refine ad_ ?_ | ((with_reducible refine ac_ ?_); ((with_reducible refine bG_ ?_); refine aq_ (cI_ rfl rfl) ?_)) | refine ap_ ?_ | (refine aG_ rfl (fun hb => aw_ hb) (fun hb => ?_); (try simp only [aX_, reduceCtorEq] at hb)))
     exact ⟨rfl, (), af_ ⟨rfl, rfl, trivial⟩, ⟨w1, g5⟩, ate⟩
 clear w1 ate n4 g4
 rintro _ h5 ⟨⟨w1, g5⟩, ate⟩
 have n5 := g5.nx
 have le := ate.lt
 have a5 := a2.grow g5
 have gg := g3.trans g5
 obtain ⟨z0, z1, z2, z3, z4, z5, hz⟩ := six (hrK_len (l := l) n)
 rw [hz] at ate ⊢
 dsimp only [List.map] at ate ⊢
 have hne : e ≠ h.nx := by omega
 repeat' (first | with_reducible refine ad_ ?_ | ((with_reducible refine ac_ ?_); first | ((with_reducible refine al_ ?_); refine aq_ (aj_ (b := e) (off := 0) rfl ah_ Tryz.underlying22 rfl zs22 rfl rfl) ?_) | ((with_reducible refine ay_ ?_); refine bQ_ (aB_ rfl rfl ah_ zs22 rfl rfl rfl rfl) ?_)) | refine ap_ ?_)
 exact rqc1 rfl (ldAgg ah_ Tryz.underlying22 rfl zs22 rfl rfl) ⟨rfl, au_⟩
/- Survey: the ticks of each cause, both ways. -/
def hrE (l : List En) (n : Nat) : List Int := if ensE l ≠ 0 then [0, 0, 0, 0, 0, 0] else hrK l n
set_option maxHeartbeats 4000000 in
theorem c41 {v : Value} {n : Nat} {l : List En} (s : Sl G h 3 v n (l.flatMap En.cells)) (hl : l.length = n) (hn : n < 1000000) (hw : Wf h) : Cf (mz G) (.func (.func 41) #[] #[]) [v] h fun r h' => r = .tuple #[.agg ⟨(hrE l n).map (Value.int .i64)⟩, .int .i64 (ensE l)] ∧ Grow h h' := by
 have q49 := fun (h' : H) (g : Grow h h') (w' : Wf h') => c49 (s.grow g) hl hn w'
 by_cases he : ensE l = 0
 · obtain ⟨h64, hv⟩ := ens_ok he
   have q108 := fun (h' : H) (g : Grow h h') (w' : Wf h') => c108 (s.grow g) hl (by omega) hv w'
   have hE : hrE l n = hrK l n := by unfold hrE; rw [if_neg (by simpa using he)]
   rw [hE]
   rw [he] at q49 ⊢
   obtain ⟨z0, z1, z2, z3, z4, z5, hz⟩ := six (hrK_len (l := l) n)
   rw [hz] at q108 ⊢
   dsimp only [List.map] at q108 ⊢
   clear hz hE he hv
   obtain ⟨a, c, rfl⟩ := s.form
   refine ak_ 13 [.cell 2 22, .tmp 3] Tryz.func41 rfl rfl rfl rfl ?_
   repeat' (first | with_reducible refine ad_ ?_ | ((with_reducible refine ac_ ?_); first | ((with_reducible refine ay_ ?_); refine bQ_ (aB_ rfl rfl ah_ zs22 rfl rfl rfl rfl) ?_) | ((with_reducible refine at_ ?_); first | (refine as_ rfl rfl rfl rfl (q49 _ au_ aA_) rfl rfl ?_; rintro _ _ ⟨rfl, hq⟩; all_goals (try (have hqn := hq.nx); try simp only [aU_] at hqn)) | (refine as_ rfl rfl rfl rfl (q108 _ au_ aA_) rfl rfl ?_; rintro _ _ ⟨rfl, hq⟩; all_goals (try (have hqn := hq.nx); try simp only [aU_] at hqn))) | refine ao_ ?_) | refine ap_ ?_)
   exact rqc2 rfl (ldAgg ah_ Tryz.underlying22 rfl zs22 rfl rfl) rfl ⟨rfl, au_⟩
 · have hE : hrE l n = [0, 0, 0, 0, 0, 0] := by unfold hrE; rw [if_pos he]
   rw [hE]
   dsimp only [List.map]
   generalize ensE l = E at q49 he ⊢
   obtain ⟨a, c, rfl⟩ := s.form
   refine ak_ 13 [.cell 2 22, .tmp 3] Tryz.func41 rfl rfl rfl rfl ?_
   repeat' (first | with_reducible refine ad_ ?_ | ((with_reducible refine ac_ ?_); first | ((with_reducible refine ay_ ?_); refine bQ_ (aB_ rfl rfl ah_ zs22 rfl rfl rfl rfl) ?_) | ((with_reducible refine at_ ?_); (refine as_ rfl rfl rfl rfl (q49 _ au_ aA_) rfl rfl ?_; rintro _ _ ⟨rfl, hq⟩; all_goals (try (have hqn := hq.nx); try simp only [aU_] at hqn))) | refine ao_ ?_) | refine ap_ ?_ | (refine aG_ rfl (fun hb => ?_) (fun hb => aw_ hb); (try simp only [aX_, reduceCtorEq] at hb)))
   exact rqc2 rfl (ldAgg ah_ Tryz.underlying22 rfl zs22 rfl rfl) rfl ⟨rfl, au_⟩
/- Survey: divisors, ratios in lowest terms; the downtime. -/
def lowN (a b : Int) : Int := a.tdiv (Int.gcd a b : Nat)
def lowD (a b : Int) : Int := b.tdiv (Int.gcd a b : Nat)
end Go.Proofs.YtlioomhcdlicmaaGreatDoor
