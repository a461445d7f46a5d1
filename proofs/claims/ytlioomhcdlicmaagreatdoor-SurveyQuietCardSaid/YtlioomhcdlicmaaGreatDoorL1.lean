/- The law SurveyQuiet: its parts, walked. -/
import Derived.Test.YtlioomhcdlicmaaGreatDoorC5
import Derived.Test.YtlioomhcdlicmaaGreatDoorC7
import Derived.Test.YtlioomhcdlicmaaGreatDoorL0
set_option linter.all false
/- Survey: ticks in silent spans; one shot; helpers of the law SurveyQuiet. -/
namespace Go.Proofs.YtlioomhcdlicmaaGreatDoor
open Go Go.Ab Go.Fl
attribute [local irreducible] SeqQ BlkQ LpQ RetQ Wc Wo WD WX Op1 Op1q Op1a Cf Cl From
attribute [local irreducible] Ieee.Format.order Ieee.Format.read Ieee.Format.nearest Ieee.Format.write Ieee.Format.mul Ieee.Format.div Ieee.Format.sqrt Ieee.Datum.order Ieee.Datum.integral K U rngE errN ptE firstNZ vesE watE sgE sgsE allE hitB sqD insB qsL lvl rn rl fiE fisE perE pmE
set_option maxRecDepth 10000
variable {G : Base} {h : H}

variable {G : Base} {h : H}
/-- A block that holds no list's cells of the widths 1 and 10. -/
def Free (h : H) (B : Nat) : Prop := ∀ c e es s, h.get B = some (.cells c e es s) → es = 2
theorem Free.new {h h' : H} {k i : Nat} (w : Wf h) (g : Grow (h.bump k) h') (hi : i < k) : Free h' (h.nx + i) := fun c e es s q => by
  rw [g.get _ (by rw [H.nx_bump]; omega)] at q
  have : (h.bump k).get (h.nx + i) = none := w _ (by omega)
  rw [this] at q
  cases q
theorem Free.at {h : H} {B : Nat} {c : List Value} {e : TypeId} {s : Bool} (a : At h B (.cells c e 2 s)) : Free h B := fun c e es s q => by
  rw [a.get] at q
  cases q
  rfl
theorem Sl.setF {es n B : Nat} {w : Value} {L : List Value} (sl : Sl G h es w n L) (hf : Free h B) (hne : es ≠ 2) (o : AObj) : Sl G (h.set B o) es w n L := by
  cases sl with
  | nil => exact .nil
  | end' b o => exact .end' b o
  | mem a _ cc _ hl hc hnc ho =>
    have hb : a.spot = some 0 → a.block ≠ B := fun q e => by
      obtain ⟨c1, e1, s1, hg⟩ := ho q
      rw [e] at hg
      exact hne (hf _ _ _ _ hg)
    refine .mem a n cc L hl ⟨fun q => hc.lt q, fun i v q => ?_, hc.spot, fun q => ?_⟩ hnc fun q => ?_
    · have := hc.get i v q
      unfold acell at this ⊢
      rcases hc.spot with hs | hs
      · simp only [aadd, hs] at this ⊢; exact this
      · simp only [aadd, hs] at this ⊢
        rw [H.get_set, if_neg (hb hs)]; exact this
    · rw [H.get_set, if_neg (hb q)]; exact hc.own q
    · rw [H.get_set, if_neg (hb q)]; exact ho q
def inS (t : Int) (s : Spn) : Bool := decide (s.f ≤ t ∧ t < s.t)
theorem fl_cnt {b : Nat → Bool} (t : Nat) : ∀ k, (fl b k).countP (inS t) = if t < k ∧ b t = true then 1 else 0
  | 0 => by simp [fl, rl]
  | k + 1 => by
    have ih := fl_cnt (b := b) t k
    have old : ∀ (q : t ≠ k), (if t < k + 1 ∧ b t = true then 1 else 0 : Nat) = if t < k ∧ b t = true then 1 else 0 := fun q => by
      by_cases hc : t < k ∧ b t = true
      · rw [if_pos hc]; exact if_pos ⟨by omega, hc.2⟩
      · rw [if_neg hc]; exact if_neg (fun z => hc ⟨by omega, z.2⟩)
    by_cases hb : b k = true
    · by_cases hp : k = 0 ∨ b (k - 1) = false
      · obtain ⟨e1, e2⟩ := fl_new hb hp
        by_cases ht : t = k
        · subst ht
          have v1 : inS (t : Int) ⟨(t : Nat), ((t + 1 : Nat) : Int)⟩ = true := by unfold inS; simp; omega
          have v2 : (if t < t ∧ b t = true then 1 else 0 : Nat) = 0 := if_neg (by omega)
          have v3 : (if t < t + 1 ∧ b t = true then 1 else 0 : Nat) = 1 := if_pos ⟨by omega, hb⟩
          rw [e1, List.countP_append, ih, List.countP_singleton, v1, v2, v3]; rfl
        · have v1 : inS (t : Int) ⟨(k : Nat), ((k + 1 : Nat) : Int)⟩ = false := by unfold inS; simp; omega
          rw [old ht, e1, List.countP_append, ih, List.countP_singleton, v1]
          simp
      · have hk : 0 < k := by omega
        have hp1 : b (k - 1) = true := by
          cases h : b (k - 1) with
          | true => rfl
          | false => exact absurd (.inr h) hp
        obtain ⟨F, f, e1, e2⟩ := fl_old hb hk hp1
        have hm : (⟨(f : Nat), (k : Nat)⟩ : Spn) ∈ rl b k := by
          have : (⟨(f : Nat), (k : Nat)⟩ : Spn) ∈ fl b k := by rw [e1]; simp
          exact (List.mem_filter.1 this).1
        have hfk := (rl_mem hm).2.1
        simp only at hfk
        rw [e1, List.countP_append, List.countP_singleton] at ih
        by_cases ht : t = k
        · subst ht
          have v2 : (if t < t ∧ b t = true then 1 else 0 : Nat) = 0 := if_neg (by omega)
          have v3 : (if t < t + 1 ∧ b t = true then 1 else 0 : Nat) = 1 := if_pos ⟨by omega, hb⟩
          rw [v2] at ih
          have h0 : F.countP (inS (t : Int)) = 0 := by omega
          have v1 : inS (t : Int) ⟨(f : Nat), ((t + 1 : Nat) : Int)⟩ = true := by unfold inS; simp; omega
          rw [e2, List.countP_append, List.countP_singleton, h0, v1, v3]; rfl
        · have v1 : inS (t : Int) ⟨(f : Nat), ((k + 1 : Nat) : Int)⟩ = inS (t : Int) ⟨(f : Nat), (k : Nat)⟩ := by
            unfold inS; rw [decide_eq_decide]; simp only; omega
          rw [old ht, e2, List.countP_append, List.countP_singleton, v1, ih]
    · have hb' : b k = false := by cases h : b k with
        | true => exact absurd h hb
        | false => rfl
      by_cases ht : t = k
      · subst ht
        have v2 : (if t < t ∧ b t = true then 1 else 0 : Nat) = 0 := if_neg (by omega)
        have v3 : (if t < t + 1 ∧ b t = true then 1 else 0 : Nat) = 0 := if_neg (fun q => hb q.2)
        rw [fl_skip hb', ih, v2, v3]
      · rw [fl_skip hb', ih, old ht]
theorem cnt_next {p : Spn → Bool} {L : List Spn} {i : Nat} (h : i < L.length) : (L.take (i + 1)).countP p = (L.take i).countP p + if p (L.getD i ⟨0, 0⟩) then 1 else 0 := by
  rw [take_next ⟨0, 0⟩ h, List.countP_append, List.countP_singleton]
theorem one_fire {x y u v r sp lo cl so : Int} {T k : Nat} {l : List Sg} {g : Int} (he : allE x y u v (T : Nat) r sp lo cl so l = 0) (hk : k < T) (h1 : 1 ≤ g) (h2 : g ≤ 1001) : cfE x y u v (T : Nat) r sp lo cl so l [⟨(k : Nat), g⟩] = pmE cl so (qt (insB x y u v r sp lo l) (k + 1) : Int) g := by
  have hf : fisE ((T : Nat) - 1) [⟨(k : Nat), g⟩] = 0 := by
    unfold fisE
    rw [if_neg (by simp), List.length_singleton]
    rw [errN_next (errN_zero _)]
    unfold lsA fiE
    show firstNZ [rngE (k : Nat) 0 ((T : Nat) - 1), rngE g 1 1001] = 0
    rw [rng_of (by omega) (by omega), rng_of h1 h2, firstNZ_skip, sing_nz]
  unfold cfE
  rw [if_neg (by rw [he]; decide), if_neg (by rw [hf]; decide), List.length_singleton, errN_next (errN_zero _)]
  unfold lsA perE
  simp
theorem pm_val {cl so q g L : Int} {b : Bool} (hL : lvl cl so q = L) (hb : q = 0 ↔ b = true) (hg : 1 ≤ g) (hcl : 0 ≤ cl) (hso : 0 ≤ so) : pmE cl so q g = if b then 31 else if L < g then 21 else 0 := by
  unfold pmE
  rw [hL]
  cases b with
  | true =>
    have hq := hb.2 rfl
    subst hq
    have : L = 0 := by rw [← hL]; unfold lvl; omega
    rw [if_neg (by omega), if_pos rfl]; rfl
  | false =>
    have hq : ¬q = 0 := fun h => by have := hb.1 h; cases this
    by_cases h : g ≤ L
    · rw [if_pos h, if_neg (by decide), if_neg (by omega)]
    · rw [if_neg h, if_neg hq, if_neg (by decide), if_pos (by omega)]
theorem qt_zero {I : Nat → Bool} {k : Nat} : (qt I (k + 1) : Int) = 0 ↔ I k = true := by
  rw [qt]; cases I k <;> simp; omega
end Go.Proofs.YtlioomhcdlicmaaGreatDoor

/- The law SurveyQuiet: parts of its loop. -/
namespace Go.Proofs.YtlioomhcdlicmaaGreatDoor
open Go Go.Ab Go.Fl
attribute [local irreducible] SeqQ BlkQ LpQ RetQ Wc Wo WD WX Op1 Op1q Op1a Cf Cl From
attribute [local irreducible] Ieee.Format.order Ieee.Format.read Ieee.Format.nearest Ieee.Format.write Ieee.Format.mul Ieee.Format.div Ieee.Format.sqrt Ieee.Datum.order Ieee.Datum.integral K U rngE errN ptE firstNZ vesE watE sgE sgsE allE hitB sqD insB qsL lvl rn rl fiE fisE perE pmE
set_option maxRecDepth 10000
variable {G : Base} {h : H}

attribute [local irreducible] fl silN insN levN inL leL cfE
/-- A part of a body: at each step the first (false) or the second (true) of two parts, or what a block or a loop has in it. -/
def sub : List Bool → Code → Code
  | [], c => c
  | true :: p, .seq _ b => sub p b
  | false :: p, .seq a _ => sub p a
  | _ :: p, .block _ c => sub p c
  | _ :: p, .loop c => sub p c
  | _ :: _, c => c
set_option maxHeartbeats 16000000 in
/-- The levels that are tried at a tick. -/
theorem c6d {x y u v r sp lo cl so : Int} {T : Nat} {a : Option Addr} {n c : Nat} {l : List Sg} (s : Sl G h 3 (.slice a n c) n (l.flatMap Sg.cells)) (hl : l.length = n) (hn : n < 1000000) (he : allE x y u v (T : Nat) r sp lo cl so l = 0)
    {h0 : H} {a2 a3 a4 : Option Addr} {c2 c3 c4 wb : Nat} {L3 : List Spn} (g0 : Grow h h0) (aV : At h0 h.nx (.cells [.int .i64 x, .int .i64 y, .int .i64 u, .int .i64 v, .int .i64 (T : Nat)] 37 5 false)) (aX : At h0 (h.nx + 1) (.cells [.int .i64 r, .int .i64 sp, .int .i64 lo, .int .i64 cl, .int .i64 so, .slice a n c] 70 6 false)) (aW : At h0 wb (.cells [.int .i64 r, .int .i64 sp, .int .i64 lo, .int .i64 cl, .int .i64 so] 46 5 false)) (s2 : Sl G h0 1 (.slice a2 T c2) T ((inL (insB x y u v r sp lo l) T).map Value.bool)) (s3 : Sl G h0 1 (.slice a3 T c3) T ((leL cl so (insB x y u v r sp lo l) T).map (Value.int .i64))) {k : Nat} (hk : k < T) {b : Bool} (hb : (insB x y u v r sp lo l) k = b) {L q : Int} (hL : lvl cl so (qt (insB x y u v r sp lo l) (k + 1) : Int) = L) {h1 : H} (w1 : Wf h1) (g1 : Grow h0 h1) :
    Wc (mz G) none (sub [true, true, true, true, true, true, true, true, false, true, true, true, true, true, false, true, true, true, true, true, true, true, true] (Tryz.f6.body.getD .skip)) 277 [(2, .pointer (some ⟨h.nx, 0, some 0⟩)), (3, .pointer (some ⟨h.nx + 1, 0, some 0⟩)), (5, .pointer (some ⟨wb, 0, some 0⟩)), (6, .slice a2 T c2), (8, .slice a3 T c3), (10, .slice a4 L3.length c4), (12, .int .i64 q), (13, .int .i64 (k : Nat)), (92, .int .i64 (T : Nat)), (93, .int .i64 (k : Nat))] h1 (fun X0 l' h' => X0 = .norm ∧ ∃ i : Unit, (∀ t1 v1, lk ((fun _ => [(2, .pointer (some ⟨h.nx, 0, some 0⟩)), (3, .pointer (some ⟨h.nx + 1, 0, some 0⟩)), (5, .pointer (some ⟨wb, 0, some 0⟩)), (6, .slice a2 T c2), (8, .slice a3 T c3), (10, .slice a4 L3.length c4), (12, .int .i64 q), (13, .int .i64 (k : Nat)), (92, .int .i64 (T : Nat)), (93, .int .i64 (k : Nat))]) i) t1 = some v1 → lk l' t1 = some v1) ∧ (Wf h' ∧ Grow h0 h')) := by
  obtain ⟨_, _, ⟨bt, bT⟩, hr, hs, hlo, hcl, hso, hlen, hall⟩ := all_ok he
  have hT : T ≤ 4096 := by omega
  have hz := qt_zero (I := (insB x y u v r sp lo l)) (k := k)
  rw [hb] at hz
  have hP := fun (g : Int) (hg : 1 ≤ g) => pm_val (cl := cl) (so := so) (q := (qt (insB x y u v r sp lo l) (k + 1) : Int)) (g := g) hL hz hg hcl.1 hso.1
  have hLb : 0 ≤ L ∧ L ≤ 1001 := by rw [← hL]; unfold lvl; omega
  have q18 := fun (h' : H) (g : Grow h h') (w' : Wf h') => cf_formW (c18 (s.grow g) hl hn w')
  have q35 := fun (h' : H) (w1 w2 : Value) (s1 : Sl G h' 3 w1 n (l.flatMap Sg.cells)) (lv : Int) (g1 : 1 ≤ lv) (g2 : lv ≤ 1001) (s2 : Sl G h' 2 w2 1 [.int .i64 (k : Nat), .int .i64 lv]) (w' : Wf h') => (hP lv g1) ▸ (one_fire he hk g1 g2) ▸ c35 (x := x) (y := y) (u := u) (v := v) (t := (T : Nat)) (r := r) (sp := sp) (lo := lo) (cl := cl) (so := so) s1 hl hn w' (fl := [⟨(k : Nat), lv⟩]) s2 rfl (by omega)
  obtain ⟨id, i1, i3'⟩ := in_atV Value.bool false s2 Tryz.underlying42 zs4 (i := (k : Int)) hk rfl
  rw [inL_get hk, hb] at i3'
  obtain ⟨ld, l1, l3'⟩ := in_atV (Value.int .i64) 0 s3 Tryz.underlying49 zs3 (i := (k : Int)) hk rfl
  have hLg : (leL cl so (insB x y u v r sp lo l) T).getD k 0 = L := by rw [← hL]; unfold leL; simp [List.getD, List.getElem?_map, List.getElem?_range hk]
  rw [hLg] at l3'
  have n0 := g0.nx
  have lX := aX.lt
  have lW := aW.lt
  clear hP hz hL hLg hb hall s2 s3 he hlen s
  show Wc (mz G) none (.seq _ (.block _ (.loop (.seq _ (.seq _ (.seq (.block _ (.seq _ (.seq _ (.seq _ (.seq _ _))))) _)))))) _ _ _ _
  refine wc_mid (ι := Nat) (fun lb => [(2, .pointer (some ⟨h.nx, 0, some 0⟩)), (3, .pointer (some ⟨h.nx + 1, 0, some 0⟩)), (5, .pointer (some ⟨wb, 0, some 0⟩)), (6, .slice a2 T c2), (8, .slice a3 T c3), (10, .slice a4 L3.length c4), (12, .int .i64 q), (13, .int .i64 (k : Nat)), (92, .int .i64 (T : Nat)), (93, .int .i64 (k : Nat)), (240, .slice (some ⟨lb, 0, some 0⟩) 3 3), (241, .int .i64 3), (242, .int .i64 0)]) (fun lb h' => (Wf h' ∧ Grow h0 h') ∧ At h' lb (.cells [.int .i64 1, .int .i64 L, .int .i64 (L + 1)] 3 1 false)) ?_ ?_
  · have aV := aV.grow g1
    have aX := aX.grow g1
    have aW := aW.grow g1
    have nn := g1.nx
    have gg := g0.trans g1
    have i3 := fun (h' : H) (g : Grow h1 h') => i3' h' (g1.trans g)
    have l3 := fun (h' : H) (g : Grow h1 h') => l3' h' (g1.trans g)
    repeat' (first | ((with_reducible refine xk_any ?_); first | ((with_reducible refine xk_as0 ?_); first | ((with_reducible refine xk_move ?_); refine wx_q (wt_none rfl) rfl rfl (op_q rfl (op_move rfl)) rfl rfl rfl ?_) | ((with_reducible refine xk_indexAddr ?_); refine wx_q (wt_none rfl) rfl rfl (op_q rfl (op_indexAddr rfl rfl l1)) rfl rfl rfl ?_) | ((with_reducible refine xk_load ?_); refine wx_h0 (wt_none rfl) rfl (op_q rfl (op_ldCell rfl Tryz.underlying3 rfl (l3 _ gr_A))) rfl rfl rfl ?_) | ((with_reducible refine xk_bin ?_); refine wx_q (wt_none rfl) rfl rfl (op_q rfl (op_add' rfl rfl (w64 (by omega) (by omega)))) rfl rfl rfl ?_) | ((with_reducible refine xk_buildSlice ?_); refine wx_a0 (wt_none rfl) rfl (oa_buildSlice rfl Tryz.underlying49 zs3 zz3 rfl rfl) rfl rfl ?_)) | ((with_reducible refine xk_move ?_); refine wx_q (wt_none rfl) rfl rfl (op_q rfl (op_move rfl)) rfl rfl rfl ?_) | ((with_reducible refine xk_callb ?_); refine wx_q (wt_none rfl) rfl rfl (op_q rfl (op_lenSl rfl Tryz.underlying49)) rfl rfl rfl ?_) | ((with_reducible refine xk_as1 ?_); refine wx_nil1 ?_ ?_ rfl ?_)) | with_reducible exact obl_nil | with_reducible refine obl_cons ?_ ?_ | ((with_reducible refine ik_obs ?_); first | exact obs_nil | refine obs_chkn rfl rfl (op_q rfl (op_ldCell rfl Tryz.underlying3 rfl (l3 _ gr_A))) ?_) | with_reducible exact stk_nil | with_reducible refine stk_cons ?_ ?_ | ((with_reducible refine ik_stk ?_); exact stk_freeB rfl rfl wf_A gr_B) | refine wc_drawB (id := 28) 12 [0, 0, 3, 7, 0, 0, 48, 112, 240, 511, 1023, 0] [0, 1, 2, 3, 4, 5, 6, 7, 8, 9, 10, 11] (by kernel_rfl) (by kernel_rfl) rfl rfl ?_)
    exact ⟨rfl, _, within_lk ⟨rfl, rfl, rfl, rfl, rfl, rfl, rfl, rfl, rfl, rfl, rfl, rfl, rfl, trivial⟩, ⟨wf_A, gr_A⟩, at_A⟩
  clear w1 g1
  rintro lb h1 ⟨⟨w1, g1⟩, aL⟩
  refine wc_block ?_
  refine wc_loop (fun j => 3 - j) (fun j : Nat => [(2, .pointer (some ⟨h.nx, 0, some 0⟩)), (3, .pointer (some ⟨h.nx + 1, 0, some 0⟩)), (5, .pointer (some ⟨wb, 0, some 0⟩)), (6, .slice a2 T c2), (8, .slice a3 T c3), (10, .slice a4 L3.length c4), (12, .int .i64 q), (13, .int .i64 (k : Nat)), (92, .int .i64 (T : Nat)), (93, .int .i64 (k : Nat)), (240, .slice (some ⟨lb, 0, some 0⟩) 3 3), (241, .int .i64 3), (242, .int .i64 (j : Nat))]) (fun j h' => (Wf h' ∧ Grow h0 h') ∧ At h' lb (.cells [.int .i64 1, .int .i64 L, .int .i64 (L + 1)] 3 1 false) ∧ j ≤ 3) 0 (within_lk ⟨rfl, rfl, rfl, rfl, rfl, rfl, rfl, rfl, rfl, rfl, rfl, rfl, rfl, trivial⟩) ⟨⟨w1, g1⟩, aL, by omega⟩ ?_
  clear w1 g1 aL
  rintro j h1 ⟨⟨w1, g1⟩, aL, hj⟩
  have lL := aL.lt
  by_cases hlj : j < 3
  · obtain ⟨jd, j1, j3⟩ := in_atV (Value.int .i64) 0 (l := [1, L, L + 1]) (Sl.ofAt (G := G) aL rfl (Nat.le_refl 3)) Tryz.underlying49 zs3 (i := (j : Int)) (q := j) hlj rfl
    have hlv : ([1, L, L + 1] : List Int).getD j 0 = 1 ∨ ([1, L, L + 1] : List Int).getD j 0 = L ∨ ([1, L, L + 1] : List Int).getD j 0 = L + 1 := by
      match j, hlj with
      | 0, _ => exact .inl rfl
      | 1, _ => exact .inr (.inl rfl)
      | 2, _ => exact .inr (.inr rfl)
    generalize ([1, L, L + 1] : List Int).getD j 0 = lv at j3 hlv
    refine wc_mid (ι := Unit) (fun _ => [(2, .pointer (some ⟨h.nx, 0, some 0⟩)), (3, .pointer (some ⟨h.nx + 1, 0, some 0⟩)), (5, .pointer (some ⟨wb, 0, some 0⟩)), (6, .slice a2 T c2), (8, .slice a3 T c3), (10, .slice a4 L3.length c4), (12, .int .i64 q), (13, .int .i64 (k : Nat)), (92, .int .i64 (T : Nat)), (93, .int .i64 (k : Nat)), (240, .slice (some ⟨lb, 0, some 0⟩) 3 3), (241, .int .i64 3), (242, .int .i64 (j : Nat)), (243, .bool (decide ((j : Int) < 3)))]) (fun _ h' => h1 = h') ?_ ?_
    · repeat' (first | with_reducible refine wo_nil ?_ | ((with_reducible refine wo_any ?_); ((with_reducible refine ik_bin ?_); refine wo_op rfl (op_lss rfl rfl) rfl rfl ?_)) | with_reducible refine wc_region ?_)
      exact ⟨rfl, (), within_lk ⟨rfl, rfl, rfl, rfl, rfl, rfl, rfl, rfl, rfl, rfl, rfl, rfl, rfl, rfl, trivial⟩, rfl⟩
    rintro _ h1' e
    subst e
    refine wc_seq (wc_if rfl (fun _ => wc_skip (sq_norm ?_)) (fun e => absurd (of_decide_eq_false e) (by omega)))
    refine wc_mid (ι := Unit) (fun _ => [(2, .pointer (some ⟨h.nx, 0, some 0⟩)), (3, .pointer (some ⟨h.nx + 1, 0, some 0⟩)), (5, .pointer (some ⟨wb, 0, some 0⟩)), (6, .slice a2 T c2), (8, .slice a3 T c3), (10, .slice a4 L3.length c4), (12, .int .i64 q), (13, .int .i64 (k : Nat)), (92, .int .i64 (T : Nat)), (93, .int .i64 (k : Nat)), (240, .slice (some ⟨lb, 0, some 0⟩) 3 3), (241, .int .i64 3), (242, .int .i64 (j : Nat))]) (fun _ h' => (Wf h' ∧ Grow h0 h') ∧ At h' lb (.cells [.int .i64 1, .int .i64 L, .int .i64 (L + 1)] 3 1 false)) ?_ ?_
    · refine wc_block ?_
      refine wc_mid (ι := Unit) (fun _ => [(2, .pointer (some ⟨h.nx, 0, some 0⟩)), (3, .pointer (some ⟨h.nx + 1, 0, some 0⟩)), (5, .pointer (some ⟨wb, 0, some 0⟩)), (6, .slice a2 T c2), (8, .slice a3 T c3), (10, .slice a4 L3.length c4), (12, .int .i64 q), (13, .int .i64 (k : Nat)), (92, .int .i64 (T : Nat)), (93, .int .i64 (k : Nat)), (240, .slice (some ⟨lb, 0, some 0⟩) 3 3), (241, .int .i64 3), (242, .int .i64 (j : Nat)), (18, .int .i64 lv)]) (fun _ h' => h1 = h') ?_ ?_
      · repeat' (first | with_reducible refine wo_nil ?_ | ((with_reducible refine wo_any ?_); first | ((with_reducible refine ik_assign ?_); refine wo_op rfl (op_assign rfl) rfl rfl ?_) | ((with_reducible refine ik_indexAddr ?_); refine wo_op rfl (op_indexAddr rfl rfl j1) rfl rfl ?_) | ((with_reducible refine ik_load ?_); refine wo_op rfl (op_ldCell rfl Tryz.underlying3 rfl (j3 _ gr_A)) rfl rfl ?_)) | with_reducible refine wc_region ?_)
        exact ⟨rfl, (), within_lk ⟨rfl, rfl, rfl, rfl, rfl, rfl, rfl, rfl, rfl, rfl, rfl, rfl, rfl, rfl, trivial⟩, rfl⟩
      rintro _ h1' e
      subst e
      clear j3 j1
      by_cases g1' : lv < 1
      · repeat' (first | with_reducible refine wo_nil ?_ | ((with_reducible refine wo_any ?_); first | ((with_reducible refine ik_move ?_); refine wo_op rfl (op_move rfl) rfl rfl ?_) | ((with_reducible refine ik_bin ?_); refine wo_op rfl (op_lss rfl rfl) rfl rfl ?_) | ((with_reducible refine ik_pick ?_); refine wo_op rfl (op_pickt rfl rfl) rfl rfl ?_) | ((with_reducible refine ik_g ?_); first | refine wo_gskip rfl rfl rfl rfl rfl rfl ?_ | (refine wo_gsplit rfl rfl rfl (fun hb => ?_) (fun hb => dead_A hb); (try simp only [decide_eq_true_eq, decide_eq_false_iff_not, Bool.not_eq_true', Bool.not_eq_false', Int.not_lt, Int.not_le, Decidable.not_not, not_true_eq_false, not_false_eq_true, beq_self_eq_true, reduceCtorEq] at hb)))) | with_reducible refine sq_norm ?_ | with_reducible refine wc_seq ?_ | with_reducible refine wc_region ?_ | with_reducible refine wc_exit ?_ | with_reducible refine sq_exit ?_ | refine bq_eq rfl ?_ | refine wc_ift rfl ?_)
        exact ⟨rfl, (), within_lk ⟨rfl, rfl, rfl, rfl, rfl, rfl, rfl, rfl, rfl, rfl, rfl, rfl, rfl, trivial⟩, ⟨w1, g1⟩, aL⟩
      by_cases g2' : 1001 < lv
      · repeat' (first | with_reducible refine wo_nil ?_ | ((with_reducible refine wo_any ?_); first | ((with_reducible refine ik_move ?_); refine wo_op rfl (op_move rfl) rfl rfl ?_) | ((with_reducible refine ik_bin ?_); refine wo_op rfl (op_lss rfl rfl) rfl rfl ?_) | ((with_reducible refine ik_pick ?_); refine wo_op rfl (op_pickf rfl rfl) rfl rfl ?_) | ((with_reducible refine ik_g ?_); first | ((with_reducible refine ig_move ?_); refine wo_grun rfl rfl rfl (op_move rfl) rfl rfl ?_) | ((with_reducible refine ig_bin ?_); refine wo_grun rfl rfl rfl (op_gtr rfl rfl) rfl rfl ?_) | (refine wo_gsplit rfl rfl rfl (fun hb => dead_A hb) (fun hb => ?_); (try simp only [decide_eq_true_eq, decide_eq_false_iff_not, Bool.not_eq_true', Bool.not_eq_false', Int.not_lt, Int.not_le, Decidable.not_not, not_true_eq_false, not_false_eq_true, beq_self_eq_true, reduceCtorEq] at hb)))) | with_reducible refine sq_norm ?_ | with_reducible refine wc_seq ?_ | with_reducible refine wc_region ?_ | with_reducible refine wc_exit ?_ | with_reducible refine sq_exit ?_ | refine bq_eq rfl ?_ | (refine wc_if rfl (fun hb => ?_) (fun hb => dead_A hb); (try simp only [decide_eq_true_eq, decide_eq_false_iff_not, Bool.not_eq_true', Bool.not_eq_false', Int.not_lt, Int.not_le, Decidable.not_not, not_true_eq_false, not_false_eq_true, beq_self_eq_true, reduceCtorEq] at hb)))
        exact ⟨rfl, (), within_lk ⟨rfl, rfl, rfl, rfl, rfl, rfl, rfl, rfl, rfl, rfl, rfl, rfl, rfl, trivial⟩, ⟨w1, g1⟩, aL⟩
      have q35l := fun (h' : H) (w1 w2 : Value) (s1 : Sl G h' 3 w1 n (l.flatMap Sg.cells)) (s2 : Sl G h' 2 w2 1 [.int .i64 (k : Nat), .int .i64 lv]) (w' : Wf h') => q35 h' w1 w2 s1 lv (by omega) (by omega) s2 w'
      clear q35 hlv
      refine wc_mid (ι := Unit) (fun _ => [(2, .pointer (some ⟨h.nx, 0, some 0⟩)), (3, .pointer (some ⟨h.nx + 1, 0, some 0⟩)), (5, .pointer (some ⟨wb, 0, some 0⟩)), (6, .slice a2 T c2), (8, .slice a3 T c3), (10, .slice a4 L3.length c4), (12, .int .i64 q), (13, .int .i64 (k : Nat)), (92, .int .i64 (T : Nat)), (93, .int .i64 (k : Nat)), (240, .slice (some ⟨lb, 0, some 0⟩) 3 3), (241, .int .i64 3), (242, .int .i64 (j : Nat)), (18, .int .i64 lv)]) (fun _ h' => h1 = h') ?_ ?_
      · repeat' (first | with_reducible refine wo_nil ?_ | ((with_reducible refine wo_any ?_); first | ((with_reducible refine ik_move ?_); refine wo_op rfl (op_move rfl) rfl rfl ?_) | ((with_reducible refine ik_bin ?_); refine wo_op rfl (op_lss rfl rfl) rfl rfl ?_) | ((with_reducible refine ik_pick ?_); refine wo_op rfl (op_pickf rfl rfl) rfl rfl ?_) | ((with_reducible refine ik_g ?_); first | ((with_reducible refine ig_move ?_); refine wo_grun rfl rfl rfl (op_move rfl) rfl rfl ?_) | ((with_reducible refine ig_bin ?_); refine wo_grun rfl rfl rfl (op_gtr rfl rfl) rfl rfl ?_) | (refine wo_gsplit rfl rfl rfl (fun hb => dead_A hb) (fun hb => ?_); (try simp only [decide_eq_true_eq, decide_eq_false_iff_not, Bool.not_eq_true', Bool.not_eq_false', Int.not_lt, Int.not_le, Decidable.not_not, not_true_eq_false, not_false_eq_true, beq_self_eq_true, reduceCtorEq] at hb)))) | with_reducible refine sq_norm ?_ | with_reducible refine wc_seq ?_ | with_reducible refine wc_region ?_ | with_reducible refine wc_skip ?_ | (refine wc_if rfl (fun hb => dead_A hb) (fun hb => ?_); (try simp only [decide_eq_true_eq, decide_eq_false_iff_not, Bool.not_eq_true', Bool.not_eq_false', Int.not_lt, Int.not_le, Decidable.not_not, not_true_eq_false, not_false_eq_true, beq_self_eq_true, reduceCtorEq] at hb)))
        exact ⟨rfl, (), within_lk ⟨rfl, rfl, rfl, rfl, rfl, rfl, rfl, rfl, rfl, rfl, rfl, rfl, rfl, rfl, trivial⟩, rfl⟩
      rintro _ h1' e
      subst e
      refine wc_mid (ι := Unit) (fun _ => [(2, .pointer (some ⟨h.nx, 0, some 0⟩)), (3, .pointer (some ⟨h.nx + 1, 0, some 0⟩)), (5, .pointer (some ⟨wb, 0, some 0⟩)), (6, .slice a2 T c2), (8, .slice a3 T c3), (10, .slice a4 L3.length c4), (12, .int .i64 q), (13, .int .i64 (k : Nat)), (92, .int .i64 (T : Nat)), (93, .int .i64 (k : Nat)), (240, .slice (some ⟨lb, 0, some 0⟩) 3 3), (241, .int .i64 3), (242, .int .i64 (j : Nat)), (18, .int .i64 lv), (19, .int .i64 0)]) (fun _ h' => h1 = h') ?_ ?_
      · repeat' (first | with_reducible refine wo_nil ?_ | ((with_reducible refine wo_any ?_); ((with_reducible refine ik_assign ?_); refine wo_op rfl (op_assign rfl) rfl rfl ?_)) | with_reducible refine wc_region ?_)
        exact ⟨rfl, (), within_lk ⟨rfl, rfl, rfl, rfl, rfl, rfl, rfl, rfl, rfl, rfl, rfl, rfl, rfl, rfl, rfl, trivial⟩, rfl⟩
      rintro _ h1' e
      subst e
      have aV := aV.grow g1
      have aX := aX.grow g1
      have aW := aW.grow g1
      have nn := g1.nx
      have gg := g0.trans g1
      have i3 := fun (h' : H) (g : Grow h1 h') => i3' h' (g1.trans g)
      have l3 := fun (h' : H) (g : Grow h1 h') => l3' h' (g1.trans g)
      refine wc_mid (ι := Unit) (fun _ => [(2, .pointer (some ⟨h.nx, 0, some 0⟩)), (3, .pointer (some ⟨h.nx + 1, 0, some 0⟩)), (5, .pointer (some ⟨wb, 0, some 0⟩)), (6, .slice a2 T c2), (8, .slice a3 T c3), (10, .slice a4 L3.length c4), (12, .int .i64 q), (13, .int .i64 (k : Nat)), (92, .int .i64 (T : Nat)), (93, .int .i64 (k : Nat)), (240, .slice (some ⟨lb, 0, some 0⟩) 3 3), (241, .int .i64 3), (242, .int .i64 (j : Nat)), (18, .int .i64 lv), (19, .int .i64 (if b then 31 else if L < lv then 21 else 0))]) (fun _ h' => h1 = h') ?_ ?_
      · clear q35l q18
        cases b with
        | true =>
          repeat' (first | with_reducible refine wo_nil ?_ | ((with_reducible refine wo_any ?_); first | ((with_reducible refine ik_move ?_); refine wo_op rfl (op_move rfl) rfl rfl ?_) | ((with_reducible refine ik_assign ?_); refine wo_op rfl (op_assign rfl) rfl rfl ?_) | ((with_reducible refine ik_indexAddr ?_); refine wo_op rfl (op_indexAddr rfl rfl i1) rfl rfl ?_) | ((with_reducible refine ik_load ?_); refine wo_op rfl (op_ldCell rfl Tryz.underlying4 rfl (i3 _ gr_A)) rfl rfl ?_)) | with_reducible refine sq_norm ?_ | with_reducible refine wc_seq ?_ | with_reducible refine wc_region ?_ | refine wc_ift rfl ?_)
          exact ⟨rfl, (), within_lk ⟨rfl, rfl, rfl, rfl, rfl, rfl, rfl, rfl, rfl, rfl, rfl, rfl, rfl, rfl, rfl, trivial⟩, rfl⟩
        | false =>
          by_cases g3' : L < lv
          · rw [if_pos g3']
            repeat' (first | with_reducible refine wo_nil ?_ | ((with_reducible refine wo_any ?_); first | ((with_reducible refine ik_move ?_); refine wo_op rfl (op_move rfl) rfl rfl ?_) | ((with_reducible refine ik_assign ?_); refine wo_op rfl (op_assign rfl) rfl rfl ?_) | ((with_reducible refine ik_indexAddr ?_); first | refine wo_op rfl (op_indexAddr rfl rfl i1) rfl rfl ?_ | refine wo_op rfl (op_indexAddr rfl rfl l1) rfl rfl ?_) | ((with_reducible refine ik_load ?_); first | refine wo_op rfl (op_ldCell rfl Tryz.underlying4 rfl (i3 _ gr_A)) rfl rfl ?_ | refine wo_op rfl (op_ldCell rfl Tryz.underlying3 rfl (l3 _ gr_A)) rfl rfl ?_) | ((with_reducible refine ik_bin ?_); refine wo_op rfl (op_gtr rfl rfl) rfl rfl ?_)) | with_reducible refine sq_norm ?_ | with_reducible refine wc_seq ?_ | with_reducible refine wc_region ?_ | refine wc_iff rfl ?_ | (refine wc_if rfl (fun hb => ?_) (fun hb => dead_A hb); (try simp only [decide_eq_true_eq, decide_eq_false_iff_not, Bool.not_eq_true', Bool.not_eq_false', Int.not_lt, Int.not_le, Decidable.not_not, not_true_eq_false, not_false_eq_true, beq_self_eq_true, reduceCtorEq] at hb)))
            exact ⟨rfl, (), within_lk ⟨rfl, rfl, rfl, rfl, rfl, rfl, rfl, rfl, rfl, rfl, rfl, rfl, rfl, rfl, rfl, trivial⟩, rfl⟩
          · rw [if_neg g3']
            repeat' (first | with_reducible refine wo_nil ?_ | ((with_reducible refine wo_any ?_); first | ((with_reducible refine ik_move ?_); refine wo_op rfl (op_move rfl) rfl rfl ?_) | ((with_reducible refine ik_indexAddr ?_); first | refine wo_op rfl (op_indexAddr rfl rfl i1) rfl rfl ?_ | refine wo_op rfl (op_indexAddr rfl rfl l1) rfl rfl ?_) | ((with_reducible refine ik_load ?_); first | refine wo_op rfl (op_ldCell rfl Tryz.underlying4 rfl (i3 _ gr_A)) rfl rfl ?_ | refine wo_op rfl (op_ldCell rfl Tryz.underlying3 rfl (l3 _ gr_A)) rfl rfl ?_) | ((with_reducible refine ik_bin ?_); refine wo_op rfl (op_gtr rfl rfl) rfl rfl ?_)) | with_reducible refine sq_norm ?_ | with_reducible refine wc_seq ?_ | with_reducible refine wc_region ?_ | with_reducible refine wc_skip ?_ | refine wc_iff rfl ?_ | (refine wc_if rfl (fun hb => dead_A hb) (fun hb => ?_); (try simp only [decide_eq_true_eq, decide_eq_false_iff_not, Bool.not_eq_true', Bool.not_eq_false', Int.not_lt, Int.not_le, Decidable.not_not, not_true_eq_false, not_false_eq_true, beq_self_eq_true, reduceCtorEq] at hb)))
            exact ⟨rfl, (), within_lk ⟨rfl, rfl, rfl, rfl, rfl, rfl, rfl, rfl, rfl, rfl, rfl, rfl, rfl, rfl, rfl, trivial⟩, rfl⟩
      rintro _ h1' e
      subst e
      clear i3 l3 i3' l3' i1 l1
      generalize (if b then 31 else if L < lv then 21 else 0 : Int) = W at q35l ⊢
      clear hLb hlj hj
      repeat' (first | ((with_reducible refine xk_any ?_); first | ((with_reducible refine xk_as0 ?_); first | ((with_reducible refine xk_move ?_); refine wx_q (wt_none rfl) rfl rfl (op_q rfl (op_move rfl)) rfl rfl rfl ?_) | ((with_reducible refine xk_load ?_); first | refine wx_h0 (wt_none rfl) rfl (op_q rfl (op_ldAgg rfl at_A Tryz.underlying37 rfl zs37 rfl rfl)) rfl rfl rfl ?_ | refine wx_h0 (wt_none rfl) rfl (op_q rfl (op_ldAt rfl at_A Tryz.underlying40 rfl rfl)) rfl rfl rfl ?_ | refine wx_h0 (wt_none rfl) rfl (op_q rfl (op_ldAgg rfl at_A Tryz.underlying39 rfl zs39 rfl rfl)) rfl rfl rfl ?_) | ((with_reducible refine xk_fieldAddr ?_); refine wx_q (wt_none rfl) rfl rfl (op_q rfl (op_fieldAddr (o := 5) rfl Tryz.underlying70 rfl zs40 rfl)) rfl rfl rfl ?_) | ((with_reducible refine xk_buildSlice ?_); refine wx_a0 (wt_none rfl) rfl (oa_buildSlice rfl Tryz.underlying74 zs81 zz81 rfl rfl) rfl rfl ?_) | ((with_reducible refine xk_build ?_); refine wx_q (wt_none rfl) rfl rfl (op_q rfl (op_buildT rfl zz81 zp81 rfl rfl)) rfl rfl rfl ?_) | ((with_reducible refine xk_callv ?_); (refine wx_call0 (wt_none rfl) rfl rfl rfl rfl (q18 _ (gg.trans gr_A) wf_A) rfl rfl ?_; rintro _ _ ⟨⟨a8, c8, rfl, s8⟩, hq⟩; all_goals ((try (have hqn := hq.nx)); (try simp only [H.nx_push, H.nx_set, H.nx_bump] at hqn))))) | ((with_reducible refine xk_move ?_); refine wx_q (wt_none rfl) rfl rfl (op_q rfl (op_move rfl)) rfl rfl rfl ?_) | ((with_reducible refine xk_bin ?_); refine wx_q (wt_none rfl) rfl rfl (op_q rfl (op_neq rfl rfl)) rfl rfl rfl ?_) | ((with_reducible refine xk_callv ?_); ((with_reducible refine xk_as1 ?_); refine wx_call1 (wt_none rfl) rfl rfl rfl rfl rfl (q35l _ _ _ (Sl.setF s8 (Free.new (i := 8) w1 hq (by omega)) (by decide) _) (Sl.ofAt (show At _ _ (.cells [.int .i64 (k : Nat), .int .i64 lv] 81 2 false) from at_A) rfl (Nat.le_refl _)) wf_A) rfl rfl ?_; rintro _ _ ⟨rfl, hq⟩; all_goals ((try (have hqn := hq.nx)); (try simp only [H.nx_push, H.nx_set, H.nx_bump] at hqn)))) | refine wx_niln ?_ ?_ rfl rfl ?_) | with_reducible exact obl_nil | with_reducible refine obl_cons ?_ ?_ | ((with_reducible refine ik_obs ?_); first | exact obs_nil | refine obs_skip rfl ?_ | refine obs_chkn rfl rfl (op_q rfl (op_ldAgg rfl at_A Tryz.underlying37 rfl zs37 (by rfl) rfl)) ?_ | refine obs_chkn rfl rfl (op_q rfl (op_ldAt rfl at_A Tryz.underlying40 rfl (by rfl))) ?_ | refine obs_chkn rfl rfl (op_q rfl (op_ldAgg rfl at_A Tryz.underlying39 rfl zs39 (by rfl) rfl)) ?_) | with_reducible exact stk_nil | with_reducible refine stk_cons ?_ ?_ | ((with_reducible refine ik_stk ?_); first | exact stk_abs rfl rfl | exact stk_freeB rfl rfl wf_A gr_B) | with_reducible refine sq_norm ?_ | with_reducible refine wc_seq ?_ | with_reducible refine wc_skip ?_ | with_reducible refine bq_norm ?_ | (refine wc_if rfl (fun hb => (of_decide_eq_true hb rfl).elim) (fun hb => ?_); (try simp only [decide_eq_true_eq, decide_eq_false_iff_not, Bool.not_eq_true', Bool.not_eq_false', Int.not_lt, Int.not_le, Decidable.not_not, not_true_eq_false, not_false_eq_true, beq_self_eq_true, reduceCtorEq] at hb)) | refine wc_drawB (id := 37) 12 [0, 0, 0, 4, 12, 0, 0, 96, 224, 511, 0, 2047] [0, 1, 2, 3, 4, 5, 6, 7, 8, 9, 10, 11] (by kernel_rfl) (by kernel_rfl) rfl rfl ?_)
      exact ⟨rfl, (), within_lk ⟨rfl, rfl, rfl, rfl, rfl, rfl, rfl, rfl, rfl, rfl, rfl, rfl, rfl, trivial⟩, ⟨wf_A, gr_A⟩, at_A⟩
    · clear q35 q18 i3' l3' j3 j1
      rintro _ h1 ⟨⟨w1, g1⟩, aL⟩
      repeat' (first | with_reducible refine wo_nil ?_ | ((with_reducible refine wo_any ?_); first | ((with_reducible refine ik_move ?_); refine wo_op rfl (op_move rfl) rfl rfl ?_) | ((with_reducible refine ik_bin ?_); refine wo_op rfl (op_add' rfl rfl (w64 (by omega) (by omega))) rfl rfl ?_)) | with_reducible refine wc_region ?_)
      exact lq_norm (j + 1) (by omega) (within_lk ⟨rfl, rfl, rfl, rfl, rfl, rfl, rfl, rfl, rfl, rfl, rfl, rfl, rfl, trivial⟩) ⟨⟨wf_A, gr_A⟩, at_A, by omega⟩
  · repeat' (first | with_reducible refine wo_nil ?_ | ((with_reducible refine wo_any ?_); ((with_reducible refine ik_bin ?_); refine wo_op rfl (op_lss rfl rfl) rfl rfl ?_)) | with_reducible refine sq_norm ?_ | with_reducible refine wc_seq ?_ | with_reducible refine wc_region ?_ | with_reducible refine wc_exit ?_ | with_reducible refine sq_exit ?_ | with_reducible refine lq_exit ?_ | refine bq_eq rfl ?_ | (refine wc_if rfl (fun hb => dead_A hb) (fun hb => ?_); (try simp only [decide_eq_true_eq, decide_eq_false_iff_not, Bool.not_eq_true', Bool.not_eq_false', Int.not_lt, Int.not_le, Decidable.not_not, not_true_eq_false, not_false_eq_true, beq_self_eq_true, reduceCtorEq] at hb)))
    exact ⟨rfl, (), within_lk ⟨rfl, rfl, rfl, rfl, rfl, rfl, rfl, rfl, rfl, rfl, trivial⟩, w1, g1⟩

set_option maxHeartbeats 16000000 in
/-- How many silent spans a tick lies in. -/
theorem c6c {q : Int} {T k : Nat} {h0 h1 : H} {a2 a3 a4 : Option Addr} {c2 c3 c4 wb : Nat} {L3 : List Spn} (s4 : Sl G h0 2 (.slice a4 L3.length c4) L3.length (L3.flatMap Spn.cells)) (h4 : L3.length ≤ 4096) (w1 : Wf h1) (g1 : Grow h0 h1) :
    Wc (mz G) none (sub [true, true, true, true, true, true, true, true, false, true, true, true, true, true, false, true, true, true, true, true, true, false] (Tryz.f6.body.getD .skip)) 277 [(2, .pointer (some ⟨h.nx, 0, some 0⟩)), (3, .pointer (some ⟨h.nx + 1, 0, some 0⟩)), (5, .pointer (some ⟨wb, 0, some 0⟩)), (6, .slice a2 T c2), (8, .slice a3 T c3), (10, .slice a4 L3.length c4), (12, .int .i64 q), (13, .int .i64 (k : Nat)), (14, .int .i64 0), (92, .int .i64 (T : Nat)), (93, .int .i64 (k : Nat))] h1 (fun X0 l' h' => X0 = .norm ∧ ∃ i : Unit, (∀ t1 v1, lk ((fun _ => [(2, .pointer (some ⟨h.nx, 0, some 0⟩)), (3, .pointer (some ⟨h.nx + 1, 0, some 0⟩)), (5, .pointer (some ⟨wb, 0, some 0⟩)), (6, .slice a2 T c2), (8, .slice a3 T c3), (10, .slice a4 L3.length c4), (12, .int .i64 q), (13, .int .i64 (k : Nat)), (14, .int .i64 (L3.countP (inS (k : Nat)) : Nat)), (92, .int .i64 (T : Nat)), (93, .int .i64 (k : Nat))]) i) t1 = some v1 → lk l' t1 = some v1) ∧ (Wf h' ∧ Grow h0 h')) := by
  show Wc (mz G) none (.seq _ (.block _ (.loop (.seq _ (.seq _ (.seq (.block _ (.seq _ (.seq _ _))) _)))))) _ _ _ _
  refine wc_mid (ι := Unit) (fun _ => [(2, .pointer (some ⟨h.nx, 0, some 0⟩)), (3, .pointer (some ⟨h.nx + 1, 0, some 0⟩)), (5, .pointer (some ⟨wb, 0, some 0⟩)), (6, .slice a2 T c2), (8, .slice a3 T c3), (10, .slice a4 L3.length c4), (12, .int .i64 q), (13, .int .i64 (k : Nat)), (14, .int .i64 ((L3.take 0).countP (inS (k : Nat)) : Nat)), (92, .int .i64 (T : Nat)), (93, .int .i64 (k : Nat)), (200, .slice a4 L3.length c4), (201, .int .i64 (L3.length : Nat)), (202, .int .i64 (0 : Nat))]) (fun _ h' => Wf h' ∧ Grow h0 h') ?_ ?_
  · repeat' (first | with_reducible refine wo_nil ?_ | ((with_reducible refine wo_any ?_); first | ((with_reducible refine ik_move ?_); refine wo_op rfl (op_move rfl) rfl rfl ?_) | ((with_reducible refine ik_callb ?_); refine wo_op rfl (op_lenSl rfl Tryz.underlying52) rfl rfl ?_)) | with_reducible refine wc_region ?_)
    exact ⟨rfl, (), within_lk ⟨rfl, rfl, rfl, rfl, rfl, rfl, rfl, rfl, rfl, rfl, rfl, rfl, rfl, rfl, trivial⟩, wf_A, gr_A⟩
  clear w1 g1
  rintro _ h1 ⟨w1, g1⟩
  refine wc_block ?_
  refine wc_loop (fun i => L3.length - i) (fun i : Nat => [(2, .pointer (some ⟨h.nx, 0, some 0⟩)), (3, .pointer (some ⟨h.nx + 1, 0, some 0⟩)), (5, .pointer (some ⟨wb, 0, some 0⟩)), (6, .slice a2 T c2), (8, .slice a3 T c3), (10, .slice a4 L3.length c4), (12, .int .i64 q), (13, .int .i64 (k : Nat)), (14, .int .i64 ((L3.take i).countP (inS (k : Nat)) : Nat)), (92, .int .i64 (T : Nat)), (93, .int .i64 (k : Nat)), (200, .slice a4 L3.length c4), (201, .int .i64 (L3.length : Nat)), (202, .int .i64 (i : Nat))]) (fun i h' => (Wf h' ∧ Grow h0 h') ∧ i ≤ L3.length) 0 (within_lk ⟨rfl, rfl, rfl, rfl, rfl, rfl, rfl, rfl, rfl, rfl, rfl, rfl, rfl, rfl, trivial⟩) ⟨⟨w1, g1⟩, Nat.zero_le _⟩ ?_
  clear w1 g1
  rintro i h1 ⟨⟨w1, g1⟩, hi⟩
  have nn := g1.nx
  by_cases hli : i < L3.length
  · obtain ⟨sd, u1, u3⟩ := rl_at Spn.len ⟨0, 0⟩ (s4.grow g1) rfl Tryz.underlying52 zs79 (i := (i : Int)) hli rfl
    have cn := cnt_next (p := inS (k : Nat)) hli
    have hC : (L3.take i).countP (inS (k : Nat)) ≤ i := Nat.le_trans List.countP_le_length (List.length_take_le _ _)
    obtain ⟨x0, hx⟩ : ∃ x, L3.getD i ⟨0, 0⟩ = x := ⟨_, rfl⟩
    rw [hx] at u3 cn
    obtain ⟨f0, t0⟩ := x0
    have hin : inS (k : Nat) ⟨f0, t0⟩ = decide (f0 ≤ (k : Nat) ∧ ((k : Nat) : Int) < t0) := rfl
    rw [hin] at cn
    dsimp only [Spn.cells] at u3
    have nxt : ∀ C, (L3.take (i + 1)).countP (inS (k : Nat)) = C → lk [(2, .pointer (some ⟨h.nx, 0, some 0⟩)), (3, .pointer (some ⟨h.nx + 1, 0, some 0⟩)), (5, .pointer (some ⟨wb, 0, some 0⟩)), (6, .slice a2 T c2), (8, .slice a3 T c3), (10, .slice a4 L3.length c4), (12, .int .i64 q), (13, .int .i64 (k : Nat)), (14, .int .i64 ((L3.take (i + 1)).countP (inS (k : Nat)) : Nat)), (92, .int .i64 (T : Nat)), (93, .int .i64 (k : Nat)), (200, .slice a4 L3.length c4), (201, .int .i64 (L3.length : Nat)), (202, .int .i64 ((i + 1) : Nat))] 14 = some (.int .i64 (C : Nat)) := fun C q => by rw [← q]; rfl
    generalize (L3.take i).countP (inS (k : Nat)) = C at cn hC ⊢
    by_cases hf : f0 ≤ (k : Nat)
    · by_cases ht : ((k : Nat) : Int) < t0
      · rw [decide_eq_true ⟨hf, ht⟩, if_pos rfl] at cn
        repeat' (first | with_reducible refine wo_nil ?_ | ((with_reducible refine wo_any ?_); first | ((with_reducible refine ik_move ?_); refine wo_op rfl (op_move rfl) rfl rfl ?_) | ((with_reducible refine ik_assign ?_); refine wo_op rfl (op_assign rfl) rfl rfl ?_) | ((with_reducible refine ik_indexAddr ?_); refine wo_op rfl (op_indexAddr rfl rfl u1) rfl rfl ?_) | ((with_reducible refine ik_load ?_); first | refine wo_op rfl (op_ldLn rfl Tryz.underlying79 rfl zs79 (u3 _ gr_A).all) rfl rfl ?_ | refine wo_op rfl (op_ldAt rfl at_A Tryz.underlying3 rfl rfl) rfl rfl ?_) | ((with_reducible refine ik_fieldAddr ?_); refine wo_op rfl (op_fieldAddr (o := 0) rfl Tryz.underlying79 rfl zs3 rfl) rfl rfl ?_) | ((with_reducible refine ik_bin ?_); first | refine wo_op rfl (op_add' rfl rfl (w64 (by omega) (by omega))) rfl rfl ?_ | refine wo_op rfl (op_lss rfl rfl) rfl rfl ?_ | refine wo_op rfl (op_leq rfl rfl) rfl rfl ?_) | ((with_reducible refine ik_pick ?_); refine wo_op rfl (op_pickt rfl rfl) rfl rfl ?_) | ((with_reducible refine ik_alloc ?_); refine wo_op rfl (op_alloc zz79 zs79 rfl rfl rfl) rfl rfl ?_) | ((with_reducible refine ik_store ?_); refine wo_op0 rfl (op_stAgg rfl rfl at_A zs79 rfl rfl rfl rfl) rfl ?_) | ((with_reducible refine ik_g ?_); first | ((with_reducible refine ig_move ?_); refine wo_grun rfl rfl rfl (op_move rfl) rfl rfl ?_) | ((with_reducible refine ig_load ?_); refine wo_grun rfl rfl rfl (op_ldAt rfl at_A Tryz.underlying3 rfl rfl) rfl rfl ?_) | ((with_reducible refine ig_fieldAddr ?_); refine wo_grun rfl rfl rfl (op_fieldAddr (o := 1) rfl Tryz.underlying79 rfl zs3 rfl) rfl rfl ?_) | ((with_reducible refine ig_bin ?_); refine wo_grun rfl rfl rfl (op_lss rfl rfl) rfl rfl ?_) | (refine wo_gsplit rfl rfl rfl (fun hb => ?_) (fun hb => dead_A hb); (try simp only [decide_eq_true_eq, decide_eq_false_iff_not, Bool.not_eq_true', Bool.not_eq_false', Int.not_lt, Int.not_le, Decidable.not_not, not_true_eq_false, not_false_eq_true, beq_self_eq_true, reduceCtorEq] at hb)))) | with_reducible refine sq_norm ?_ | with_reducible refine wc_seq ?_ | with_reducible refine wc_region ?_ | with_reducible refine wc_skip ?_ | with_reducible refine wc_block ?_ | with_reducible refine bq_norm ?_ | (refine wc_if rfl (fun hb => ?_) (fun hb => dead_A hb); (try simp only [decide_eq_true_eq, decide_eq_false_iff_not, Bool.not_eq_true', Bool.not_eq_false', Int.not_lt, Int.not_le, Decidable.not_not, not_true_eq_false, not_false_eq_true, beq_self_eq_true, reduceCtorEq] at hb)))
        exact lq_norm (i + 1) (by omega) (within_lk ⟨rfl, rfl, rfl, rfl, rfl, rfl, rfl, rfl, by simp only [lk]; rw [cn]; rfl, rfl, rfl, rfl, rfl, rfl, trivial⟩) ⟨⟨wf_A, gr_A⟩, by omega⟩
      · rw [decide_eq_false (fun q => ht q.2), if_neg (by decide), Nat.add_zero] at cn
        repeat' (first | with_reducible refine wo_nil ?_ | ((with_reducible refine wo_any ?_); first | ((with_reducible refine ik_move ?_); refine wo_op rfl (op_move rfl) rfl rfl ?_) | ((with_reducible refine ik_indexAddr ?_); refine wo_op rfl (op_indexAddr rfl rfl u1) rfl rfl ?_) | ((with_reducible refine ik_load ?_); first | refine wo_op rfl (op_ldLn rfl Tryz.underlying79 rfl zs79 (u3 _ gr_A).all) rfl rfl ?_ | refine wo_op rfl (op_ldAt rfl at_A Tryz.underlying3 rfl rfl) rfl rfl ?_) | ((with_reducible refine ik_fieldAddr ?_); refine wo_op rfl (op_fieldAddr (o := 0) rfl Tryz.underlying79 rfl zs3 rfl) rfl rfl ?_) | ((with_reducible refine ik_bin ?_); first | refine wo_op rfl (op_add' rfl rfl (w64 (by omega) (by omega))) rfl rfl ?_ | refine wo_op rfl (op_lss rfl rfl) rfl rfl ?_ | refine wo_op rfl (op_leq rfl rfl) rfl rfl ?_) | ((with_reducible refine ik_pick ?_); refine wo_op rfl (op_pickt rfl rfl) rfl rfl ?_) | ((with_reducible refine ik_alloc ?_); refine wo_op rfl (op_alloc zz79 zs79 rfl rfl rfl) rfl rfl ?_) | ((with_reducible refine ik_store ?_); refine wo_op0 rfl (op_stAgg rfl rfl at_A zs79 rfl rfl rfl rfl) rfl ?_) | ((with_reducible refine ik_g ?_); first | ((with_reducible refine ig_move ?_); refine wo_grun rfl rfl rfl (op_move rfl) rfl rfl ?_) | ((with_reducible refine ig_load ?_); refine wo_grun rfl rfl rfl (op_ldAt rfl at_A Tryz.underlying3 rfl rfl) rfl rfl ?_) | ((with_reducible refine ig_fieldAddr ?_); refine wo_grun rfl rfl rfl (op_fieldAddr (o := 1) rfl Tryz.underlying79 rfl zs3 rfl) rfl rfl ?_) | ((with_reducible refine ig_bin ?_); refine wo_grun rfl rfl rfl (op_lss rfl rfl) rfl rfl ?_) | (refine wo_gsplit rfl rfl rfl (fun hb => ?_) (fun hb => dead_A hb); (try simp only [decide_eq_true_eq, decide_eq_false_iff_not, Bool.not_eq_true', Bool.not_eq_false', Int.not_lt, Int.not_le, Decidable.not_not, not_true_eq_false, not_false_eq_true, beq_self_eq_true, reduceCtorEq] at hb)))) | with_reducible refine sq_norm ?_ | with_reducible refine wc_seq ?_ | with_reducible refine wc_region ?_ | with_reducible refine wc_skip ?_ | with_reducible refine wc_block ?_ | with_reducible refine bq_norm ?_ | (refine wc_if rfl (fun hb => dead_A hb) (fun hb => ?_); (try simp only [decide_eq_true_eq, decide_eq_false_iff_not, Bool.not_eq_true', Bool.not_eq_false', Int.not_lt, Int.not_le, Decidable.not_not, not_true_eq_false, not_false_eq_true, beq_self_eq_true, reduceCtorEq] at hb)) | (refine wc_if rfl (fun hb => ?_) (fun hb => dead_A hb); (try simp only [decide_eq_true_eq, decide_eq_false_iff_not, Bool.not_eq_true', Bool.not_eq_false', Int.not_lt, Int.not_le, Decidable.not_not, not_true_eq_false, not_false_eq_true, beq_self_eq_true, reduceCtorEq] at hb)))
        exact lq_norm (i + 1) (by omega) (within_lk ⟨rfl, rfl, rfl, rfl, rfl, rfl, rfl, rfl, by simp only [lk]; rw [cn]; rfl, rfl, rfl, rfl, rfl, rfl, trivial⟩) ⟨⟨wf_A, gr_A⟩, by omega⟩
    · rw [decide_eq_false (fun q => hf q.1), if_neg (by decide), Nat.add_zero] at cn
      repeat' (first | with_reducible refine wo_nil ?_ | ((with_reducible refine wo_any ?_); first | ((with_reducible refine ik_move ?_); refine wo_op rfl (op_move rfl) rfl rfl ?_) | ((with_reducible refine ik_indexAddr ?_); refine wo_op rfl (op_indexAddr rfl rfl u1) rfl rfl ?_) | ((with_reducible refine ik_load ?_); first | refine wo_op rfl (op_ldLn rfl Tryz.underlying79 rfl zs79 (u3 _ gr_A).all) rfl rfl ?_ | refine wo_op rfl (op_ldAt rfl at_A Tryz.underlying3 rfl rfl) rfl rfl ?_) | ((with_reducible refine ik_fieldAddr ?_); refine wo_op rfl (op_fieldAddr (o := 0) rfl Tryz.underlying79 rfl zs3 rfl) rfl rfl ?_) | ((with_reducible refine ik_bin ?_); first | refine wo_op rfl (op_add' rfl rfl (w64 (by omega) (by omega))) rfl rfl ?_ | refine wo_op rfl (op_lss rfl rfl) rfl rfl ?_ | refine wo_op rfl (op_leq rfl rfl) rfl rfl ?_) | ((with_reducible refine ik_pick ?_); refine wo_op rfl (op_pickf rfl rfl) rfl rfl ?_) | ((with_reducible refine ik_alloc ?_); refine wo_op rfl (op_alloc zz79 zs79 rfl rfl rfl) rfl rfl ?_) | ((with_reducible refine ik_store ?_); refine wo_op0 rfl (op_stAgg rfl rfl at_A zs79 rfl rfl rfl rfl) rfl ?_) | ((with_reducible refine ik_g ?_); first | refine wo_gskip rfl rfl rfl rfl rfl rfl ?_ | (refine wo_gsplit rfl rfl rfl (fun hb => dead_A hb) (fun hb => ?_); (try simp only [decide_eq_true_eq, decide_eq_false_iff_not, Bool.not_eq_true', Bool.not_eq_false', Int.not_lt, Int.not_le, Decidable.not_not, not_true_eq_false, not_false_eq_true, beq_self_eq_true, reduceCtorEq] at hb)))) | with_reducible refine sq_norm ?_ | with_reducible refine wc_seq ?_ | with_reducible refine wc_region ?_ | with_reducible refine wc_skip ?_ | with_reducible refine wc_block ?_ | with_reducible refine bq_norm ?_ | refine wc_iff rfl ?_ | (refine wc_if rfl (fun hb => ?_) (fun hb => dead_A hb); (try simp only [decide_eq_true_eq, decide_eq_false_iff_not, Bool.not_eq_true', Bool.not_eq_false', Int.not_lt, Int.not_le, Decidable.not_not, not_true_eq_false, not_false_eq_true, beq_self_eq_true, reduceCtorEq] at hb)))
      exact lq_norm (i + 1) (by omega) (within_lk ⟨rfl, rfl, rfl, rfl, rfl, rfl, rfl, rfl, by simp only [lk]; rw [cn]; rfl, rfl, rfl, rfl, rfl, rfl, trivial⟩) ⟨⟨wf_A, gr_A⟩, by omega⟩
  · have hin : i = L3.length := by omega
    rw [List.take_of_length_le (by omega)]
    repeat' (first | with_reducible refine wo_nil ?_ | ((with_reducible refine wo_any ?_); ((with_reducible refine ik_bin ?_); refine wo_op rfl (op_lss rfl rfl) rfl rfl ?_)) | with_reducible refine sq_norm ?_ | with_reducible refine wc_seq ?_ | with_reducible refine wc_region ?_ | with_reducible refine wc_exit ?_ | with_reducible refine sq_exit ?_ | with_reducible refine lq_exit ?_ | refine bq_eq rfl ?_ | (refine wc_if rfl (fun hb => dead_A hb) (fun hb => ?_); (try simp only [decide_eq_true_eq, decide_eq_false_iff_not, Bool.not_eq_true', Bool.not_eq_false', Int.not_lt, Int.not_le, Decidable.not_not, not_true_eq_false, not_false_eq_true, beq_self_eq_true, reduceCtorEq] at hb)))
    exact ⟨rfl, (), within_lk ⟨rfl, rfl, rfl, rfl, rfl, rfl, rfl, rfl, rfl, rfl, rfl, trivial⟩, w1, g1⟩
end Go.Proofs.YtlioomhcdlicmaaGreatDoor
