/- What the law TraceTaps reads and makes. -/
import Derived.Test.YthnnndkfpamacaaGreatDoorQ1
import Derived.Test.YthnnndkfpamacaaGreatDoorL3
import Derived.Test.YthnnndkfpamacaaGreatDoorV1
import Derived.Test.YthnnndkfpamacaaGreatDoorM4
set_option linter.all false
/- TraceTaps: bounds of what the law reads; a list that is late; the tap 1 behind zeros, made; parts of slices with one bound. -/
namespace Go.Proofs.YthnnndkfpamacaaGreatDoor
open Go Go.Ab Go.Fl
set_option maxRecDepth 10000
variable {G : Base} {h : H}

theorem U_pos : (0 : Int) < U := Int.pow_pos (by decide)
theorem num4 : Num Ieee.single 1082130432 (4 * U) := by
  have hr : Ieee.single.read 1082130432 = .number false 8388608 (-21) := by decide +kernel
  have := Num.of_read hr (by omega)
  have e : Ieee.signed false 8388608 (-21 + 1074 : Int).toNat = 4 * U := by decide +kernel
  rwa [e] at this
theorem numm4 : Num Ieee.single 3229614080 (-4 * U) := by
  have hr : Ieee.single.read 3229614080 = .number true 8388608 (-21) := by decide +kernel
  have := Num.of_read hr (by omega)
  have e : Ieee.signed true 8388608 (-21 + 1074 : Int).toNat = -4 * U := by decide +kernel
  rwa [e] at this
theorem gt4 {x : Nat} (h : smpE x = 0) : (Ieee.single.order x 1082130432 == some .gt) = decide (64 < smp x) := by
  obtain ⟨v, nv, ev⟩ := smp_num h
  rw [nv.fgt num4]
  have hU := U_pos
  have e : (4 * U < v) ↔ (64 < smp x) := by
    rw [← Int.mul_lt_mul_right hU (b := 64) (c := smp x), ← ev]
    omega
  simp only [e]
theorem ltm4 {x : Nat} (h : smpE x = 0) : (Ieee.single.order x 3229614080 == some .lt) = decide (smp x < -64) := by
  obtain ⟨v, nv, ev⟩ := smp_num h
  rw [nv.flt numm4]
  have hU := U_pos
  have e : (v < -4 * U) ↔ (smp x < -64) := by
    rw [← Int.mul_lt_mul_right hU (b := smp x) (c := -64), ← ev]
    omega
  simp only [e]
/-- Small samples, small taps: the convolution fits. -/
theorem convE_small {l : List Nat} {t : List Int} (hl : lchk l = 0) (ht : tchk t = 0) (h0 : l.length ≠ 0) (h1 : l.length ≤ 10) (h2 : t.length ≤ 4) (b1 : ∀ z ∈ l, (smp z).natAbs ≤ 64) (b2 : ∀ z ∈ t, z.natAbs ≤ 8) : convE l t = 0 := by
  rw [convE_at hl ht h0, if_neg (by omega), notLarge]
  · rfl
  · intro z hz
    unfold convL at hz
    obtain ⟨k, _, rfl⟩ := List.mem_map.1 hz
    have hb : ∀ i, i < t.length → (colv (l.map smp) t k i).natAbs ≤ 8 * 64 := fun i _ => by
      unfold colv
      split
      · exact prod_bound (getD_bound b2 _) (getD_bound (fun x hx => by obtain ⟨w, hw, rfl⟩ := List.mem_map.1 hx; exact b1 w hw) _)
      · simp
    have := sumN_bound hb
    have : t.length * (8 * 64) ≤ 4 * (8 * 64) := Nat.mul_le_mul_right _ h2
    omega
theorem smpE0 : smpE 0 = 0 := by decide +kernel
theorem smp0 : smp 0 = 0 := by decide +kernel
/-- What is behind the zeros of a late list is the list, and before them are zeros. -/
theorem late_hi {l : List Nat} {k : Nat} (hl : ∀ x ∈ l, smpE x = 0) : fEqL (((List.replicate k 0 ++ l.map smp).map smpW).drop k) l := by
  have e : ((List.replicate k 0 ++ l.map smp).map smpW).drop k = (l.map smp).map smpW := by
    rw [List.map_append, List.drop_append_of_le_length (by simp)]
    simp
  rw [e]
  refine ⟨by simp, fun i q q' => ?_⟩
  simp only [List.getElem_map]
  exact smpW_feq (hl _ (List.getElem_mem q'))
theorem late_lo {l : List Nat} {k : Nat} : fEqL (((List.replicate k 0 ++ l.map smp).map smpW).take k) (List.replicate k 0) := by
  have e : ((List.replicate k 0 ++ l.map smp).map smpW).take k = List.replicate k (smpW 0) := by
    rw [List.map_append, List.take_append_of_le_length (by simp)]
    simp
  rw [e]
  refine ⟨by simp, fun i q q' => ?_⟩
  simp only [List.getElem_replicate]
  have := smpW_feq smpE0
  rwa [smp0] at this
theorem late_len {l : List Nat} {k : Nat} : ((List.replicate k 0 ++ l.map smp).map smpW).length = k + l.length := by simp
/-- One's own integers, laid for good, with more behind them: a new block. -/
theorem append_hard_eq {b n m : Nat} {c new : List Value} {w : Value} (hat : At h b (.cells c 3 1 false)) (hcl : c.length = n) (hnm : n + m < 1000000) (sl : Sl G h 1 w m new) (hone : new.all one = true) (hm : m ≠ 0) :
    aappend (mz G).P (mz G).G h 25 25 (.slice (some ⟨b, 0, some 0⟩) n n) w = some (.slice (some ⟨h.nx, 0, some 0⟩) (n + m) (n + m), h.push (.cells (c ++ new) 3 1 true)) := by
  have e1 : (mz G).P.underlying 25 = some (.slice 3) := Tryz.underlying25
  have e2 : tsz (mz G).P 3 = some 1 := zs3
  have e3 := (show tby (mz G).P 3 = some _ from zb3)
  have e4 := (show tzero (mz G).P 3 = some _ from zz3)
  have hlen := sl.length
  have hf := (Sl.first (M := mz G) sl)
  obtain ⟨wa, wc, rfl⟩ := sl.form
  have ha : anews (mz G).P (mz G).G h 25 1 (Value.int .i64 0).cells.toList (.slice wa m wc) = some (m, new) := by
    unfold anews
    rw [e1]
    simp only [alen, hf]
  have hc : (gd (Value.int .i64 0) && Nat.beq (Value.int .i64 0).cells.size 1 && !(Nat.beq 1 0) && !(Nat.beq 8 0) && Nat.ble ((n + m) * 8) 70368744177664 && new.all one && Nat.beq new.length (m * 1)) = true := by
    rw [hone, ble_dec, decide_eq_true (by omega), hlen, nbeq_self]; rfl
  have hb1 : Nat.ble (n + m) n = false := by rw [ble_dec]; simp; omega
  have hfo : afirst (mz G).G h 1 n (.slice (some ⟨b, 0, some 0⟩) n n) = some c := (Sl.ofAt (G := (mz G).G) hat (by omega) (Nat.le_refl _)).first (M := mz G)
  have hl2 : (c ++ new).length = (n + m) * 1 := by rw [List.length_append, hcl, hlen]; omega
  unfold aappend
  simp only [e1, e2, e3, e4, ha, hc, hb1, hfo]
  unfold agrow
  simp only [hl2, nbeq_self, hat.get, Bool.false_and]
theorem sl_tap1 {b k : Nat} {sf : Bool} (at' : At h b (.cells (List.replicate k (.int .i64 0) ++ [.int .i64 1]) 3 1 sf)) : Sl G h 1 (.slice (some ⟨b, 0, some 0⟩) (k + 1) (k + 1)) (k + 1) ((tap1 k).map (.int .i64)) := by
  have e : (tap1 k).map (Value.int .i64) = List.replicate k (.int .i64 0) ++ [.int .i64 1] := by simp [tap1]
  rw [e]
  exact Sl.ofAt at' (by simp) (Nat.le_refl _)
theorem sl_zero {b k : Nat} {sf : Bool} (at' : At h b (.cells (List.replicate k (.float .f32 0)) 23 1 sf)) : Sl G h 1 (.slice (some ⟨b, 0, some 0⟩) k k) k ((List.replicate k 0).map (.float .f32)) := by
  have e : (List.replicate k 0).map (Value.float .f32) = List.replicate k (.float .f32 0) := by simp
  rw [e]
  exact Sl.ofAt at' (by simp) (Nat.le_refl _)
theorem part_hi {a : Option Addr} {c n k N : Nat} {l : List Nat} (s : Sl G h 1 (.slice a n c) n (l.map (.float .f32))) (hk : k ≤ n) (hN : n - k = N) : Sl G h 1 (.slice (cutA 1 a c k) (n - k) (c - k)) N ((l.drop k).map (.float .f32)) := by
  have := s.part hk (Nat.le_refl n)
  have hl := s.length
  simp only [List.length_map] at hl
  rw [Nat.mul_one, Nat.mul_one, List.take_of_length_le (by simp; omega), ← List.map_drop] at this
  subst hN
  exact this
theorem part_lo {a : Option Addr} {c n k : Nat} {l : List Nat} (s : Sl G h 1 (.slice a n c) n (l.map (.float .f32))) (hk : k ≤ n) : Sl G h 1 (.slice (cutA 1 a c 0) (k - 0) (c - 0)) k ((l.take k).map (.float .f32)) := by
  have := s.part (Nat.zero_le k) hk
  simp only [Nat.zero_mul, List.drop_zero, Nat.mul_one, ← List.map_take] at this
  exact this
/-- The convolution's contract, its list told by its form. -/
theorem c58s {v w : Value} {n m N : Nat} {l X : List Nat} {t : List Int} {E : Int} (hE : convE l t = E) (hX : convW l t = X) (hN : X.length = N) (s : Sl G h 1 v n (l.map (.float .f32))) (u : Sl G h 1 w m (t.map (.int .i64))) (hn : n < 1000000) (hm : m < 1000000) (hw : Wf h) :
    Cf (mz G) (.func (.func 58) #[] #[]) [v, w] h fun r h' => (∃ a c, r = .tuple #[.slice a N c, .int .i64 E] ∧ Sl G h' 1 (.slice a N c) N (X.map (.float .f32))) ∧ Grow h h' :=
  (c58w s u hn hm hw).mono fun r h' ⟨⟨w, e, q⟩, g⟩ => by
    rw [hX, hN] at q
    rw [hE] at e
    obtain ⟨a, c, rfl⟩ := q.form
    exact ⟨⟨a, c, e, q⟩, g⟩
theorem c61s {v w : Value} {n m N : Nat} {l t : List Nat} {X : List Int} {E : Int} (hE : corE l t = E) (hX : corW l t = X) (hN : X.length = N) (s : Sl G h 1 v n (l.map (.float .f32))) (u : Sl G h 1 w m (t.map (.float .f32))) (hn : n < 1000000) (hm : m < 1000000) (hw : Wf h) :
    Cf (mz G) (.func (.func 61) #[] #[]) [v, w] h fun r h' => (∃ a c, r = .tuple #[.slice a N c, .int .i64 E] ∧ Sl G h' 1 (.slice a N c) N (X.map (.int .i64))) ∧ Grow h h' :=
  (c61w s u hn hm hw).mono fun r h' ⟨⟨w, e, q⟩, g⟩ => by
    rw [hX, hN] at q
    rw [hE] at e
    obtain ⟨a, c, rfl⟩ := q.form
    exact ⟨⟨a, c, e, q⟩, g⟩
/-- One more copy of a list of which a copy is known. -/
theorem c59p {v w : Value} {n : Nat} {l : List Nat} (s : Sl G h 1 v n (l.map (.float .f32))) (k : Sl G h 1 w n (l.map (.float .f32))) (hn : n < 1000000) : Cf (mz G) (.func (.func 59) #[] #[]) [v] h fun r h' => (∃ a c, r = .slice a n c ∧ Sl G h' 1 w n (l.map (.float .f32)) ∧ Sl G h' 1 (.slice a n c) n (l.map (.float .f32))) ∧ Grow h h' :=
  (c59f s hn).mono fun r h' ⟨⟨a, c, e, q⟩, g⟩ => ⟨⟨a, c, e, k.grow g, q⟩, g⟩
theorem en_bound {l : List Nat} (hl : lchk l = 0) (h1 : l.length ≤ 10) : (enV l).natAbs ≤ 10000000000 := by
  rw [enV_at hl]
  unfold enL
  have hb := sumN_bound (n := (l.map smp).length) (B := 16384 * 16384) (fun i _ => sqv_bound (smp_bound (lchk_ok hl).2) i)
  have e : (l.map smp).length = l.length := by simp
  rw [e] at hb ⊢
  have : l.length * (16384 * 16384) ≤ 10 * (16384 * 16384) := Nat.mul_le_mul_right _ h1
  omega
theorem mem_of_at {l : List Nat} {P : Nat → Prop} (hp : ∀ i (q : i < l.length), P l[i]) : ∀ z ∈ l, P z := fun z hz => by
  obtain ⟨i, q, rfl⟩ := List.mem_iff_getElem.1 hz
  exact hp i q
theorem mem_of_getD {l : List Int} {P : Int → Prop} (hp : ∀ i, i < l.length → P (l.getD i 0)) : ∀ z ∈ l, P z := fun z hz => by
  obtain ⟨i, q, rfl⟩ := List.mem_iff_getElem.1 hz
  have := hp i q
  rwa [← getElem_getD q] at this
section
variable {M : Mc} {l : KL} {x : Operand} {t ty e : TypeId} {n es : Nat}
theorem op_idxVA {y : Operand} {v : Value} {cs : Array Value} {i : Int} {k : IntKind} {len m : Nat} {et : TypeId} (hx : val l x = some (.agg cs)) (hy : val l y = some (.int k i)) (hu : M.P.underlying t = some (.array len et)) (hn : tsz M.P et = some m) (h0 : 0 ≤ i) (h1 : i < len) (hv : apart M.P et cs (i.toNat * m) = some v) : Op1 M (.index t x y) l h v h := op_idxArr hx hy hu hn h0 h1 hv
theorem op_slcLo {a : Option Addr} {c : Nat} {L : List Value} {lo : Nat} {k : IntKind} {A : Int} {xa : Operand} (hx : val l x = some (.slice a n c)) (hxa : val l xa = some (.int k A)) (sl : Sl M.G h es (.slice a n c) n L) (hu : M.P.underlying t = some (.slice e)) (hn : tsz M.P e = some es) (h1 : lo ≤ n) (hA : A = (lo : Int)) :
    Op1 M (.slice t x (some xa) none none) l h (.slice (cutA es a c lo) (n - lo) (c - lo)) h :=
  op_slice (a := some (.int k A)) (b := none) hx (by simp only [optV, hxa]) rfl rfl (by
    have := sl.slice hu hn h1 (Nat.le_refl n) (k := k) (k' := .i64) hA rfl
    rw [← this]; unfold aslice; rw [hu]; rfl)
theorem op_slcHi {a : Option Addr} {c : Nat} {L : List Value} {hi : Nat} {k : IntKind} {A : Int} {xa : Operand} (hx : val l x = some (.slice a n c)) (hxa : val l xa = some (.int k A)) (sl : Sl M.G h es (.slice a n c) n L) (hu : M.P.underlying t = some (.slice e)) (hn : tsz M.P e = some es) (h1 : hi ≤ n) (hA : A = (hi : Int)) :
    Op1 M (.slice t x none (some xa) none) l h (.slice (cutA es a c 0) (hi - 0) (c - 0)) h :=
  op_slice (a := none) (b := some (.int k A)) hx rfl (by simp only [optV, hxa]) rfl (by
    have := sl.slice hu hn (Nat.zero_le hi) h1 (k := .i64) (k' := k) rfl hA
    rw [← this]; unfold aslice; rw [hu]; rfl)
end
/-- A list keeps, where two blocks of a region that draws its order are laid, and one more behind all. -/
theorem Sl.set2push {g ha : H} {w : Value} {n i j k : Nat} {L : List Value} {o1 o2 o3 : AObj} (sl : Sl G g 1 w n L) (wa : Wf ha) (gr : Grow (ha.bump k) g) (hi : i < k) (hj : j < k) (hij : i ≠ j) : Sl G (((g.set (ha.nx + i) o1).set (ha.nx + j) o2).push o3) 1 w n L := by
  have f1 := Free.new wa gr hi
  have f2 : Free (g.set (ha.nx + i) o1) (ha.nx + j) := fun c e es s q => by
    rw [H.get_set, if_neg (by omega)] at q
    exact Free.new wa gr hj c e es s q
  exact (Sl.setF (Sl.setF sl f1 (by decide) o1) f2 (by decide) o2).grow ((Grow.refl _).push _)
theorem wx_e2 {M : Mc} {ops : Array Oper} {rest : List Oper} {sz nx0 : Nat} {R : KL → H → Prop} {d m i abs j1 j2 : Nat} {o1 o2 : AObj} {ms ix es' : List Nat} {l : KL} {g g1 : H} {v : Value} {sts : List Stage} {obs : List OB} {o : Oper} (hw : Wt ops o sz l true) (hc : cls M.P o.op = .e) (hes : ((es'.all fun x => m.testBit x) && Nat.beq (m ||| abs) m) = true) (h1 : unseen m abs j1 = true) (h2 : unseen m abs j2 = true) (hop : Op1 M o.op l ((g.set (nx0 + j1) o1).set (nx0 + j2) o2) v g1) (hdo : o.dst = some d) (hd : Nat.blt d sz = true)
    (next : WX M ops nx0 sz R rest ms ix ((d, v) :: l) g1 m (i :: es') [(j1, o1), (j2, o2)] (⟨g, abs, some i⟩ :: sts) obs) : WX M ops nx0 sz R (o :: rest) (m :: ms) (i :: ix) l g abs es' [(j1, o1), (j2, o2)] sts obs := wx_e hw hc hes (by simp only [addAs, h1, h2]) hop hdo hd next
/-- A middle condition behind code that may return. -/
theorem wc_midR {M : Mc} {ro : Option Nat} {a b : Code} {sz : Nat} {l : KL} {h : H} {Q : X → KL → H → Prop} {ι : Type} (L : ι → KL) (I : ι → H → Prop) (hA : Wc M ro a sz l h (fun x l' h' => (x = .norm ∧ ∃ i, (∀ t v, lk (L i) t = some v → lk l' t = some v) ∧ I i h') ∨ (x = .ret ∧ Q .ret l' h'))) (hB : ∀ i h, I i h → Wc M ro b sz (L i) h Q) : Wc M ro (a.seq b) sz l h Q :=
  wc_seq (wc_mono hA fun x l' h' q => by
    rcases q with ⟨e, i, hl, hi⟩ | ⟨e, q⟩
    · subst e
      exact sq_norm (wc_less hl (hB i h' hi))
    · subst e
      exact sq_ret q)
end Go.Proofs.YthnnndkfpamacaaGreatDoor
