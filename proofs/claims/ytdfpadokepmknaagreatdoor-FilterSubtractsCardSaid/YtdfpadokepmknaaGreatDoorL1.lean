/- Taps applied: their sums; samples that are made. -/
import Derived.Test.YtdfpadokepmknaaGreatDoorC2
import Derived.Test.YtdfpadokepmknaaGreatDoorC3
set_option linter.all false
/- Taps applied: their sums. -/
namespace Go.Proofs.YtdfpadokepmknaaGreatDoor
open Go Go.Ab Go.Fl
attribute [local irreducible] SeqQ BlkQ LpQ RetQ Wc Wo WD WX Op1 Op1q Op1a Cf Cl From
attribute [local irreducible] Ieee.Format.order Ieee.Format.read Ieee.Format.nearest Ieee.Format.write Ieee.Format.mul Ieee.Format.div Ieee.Datum.order Ieee.Datum.integral smpE smp smpW K J U lchk tchk trE hdrE
set_option maxRecDepth 10000
variable {G : Base} {h : H}

theorem sumN_mul (c : Int) (f : Nat → Int) : ∀ n : Nat, c * sumN n f = sumN n (fun i => c * f i)
  | 0 => by simp [sumN]
  | n + 1 => by rw [sumN, sumN, Int.mul_add, sumN_mul c f n]
theorem sumN_mulr (c : Int) (f : Nat → Int) (n : Nat) : sumN n f * c = sumN n (fun i => f i * c) := by
  rw [Int.mul_comm, sumN_mul]
  exact sumN_congr fun i _ => Int.mul_comm _ _
theorem sum_shift (g : Nat → Int) (k : Nat) : ∀ n : Nat, sumN n (fun i => if k ≤ i then g (i - k) else 0) = sumN (n - k) g
  | 0 => by simp [sumN]
  | n + 1 => by
    rw [sumN, sum_shift g k n]
    by_cases q : k ≤ n
    · rw [if_pos q, show n + 1 - k = (n - k) + 1 by omega, sumN]
    · rw [if_neg q, show n + 1 - k = 0 by omega, show n - k = 0 by omega]; rfl
theorem sum_keep (g : Nat → Int) (k n : Nat) : sumN n (fun j => if j + k < n then g j else 0) = sumN (n - k) g := by
  rw [sumN_cut (j := n - k) (by omega) (fun i h1 h2 => by rw [if_neg (by omega)])]
  exact sumN_congr fun i h => by rw [if_pos (by omega)]
theorem getD_row {n : Nat} {f : Nat → Int} {k : Nat} (hk : k < n) : ((List.range n).map f).getD k 0 = f k := by
  simp [List.getD, List.getElem?_map, List.getElem?_range hk]
theorem getD_out {l : List Int} {i : Nat} (hi : l.length ≤ i) : l.getD i 0 = 0 := by simp [List.getD, List.getElem?_eq_none hi]
theorem getD_ext {a b : List Int} (hl : a.length = b.length) (h : ∀ k, k < a.length → a.getD k 0 = b.getD k 0) : a = b := by
  refine List.ext_getElem hl fun i h1 h2 => ?_
  rw [getElem_getD h1, getElem_getD h2]; exact h i h1
theorem getD_rev {l : List Int} {k : Nat} (hk : k < l.length) : l.reverse.getD k 0 = l.getD (l.length - 1 - k) 0 := by
  rw [← getElem_getD (by simpa using hk), List.getElem_reverse, getElem_getD (by omega)]
theorem app_at {t l : List Int} {n : Nat} (h : n < l.length) : (appL t l).getD n 0 = sumN t.length (appv t l n) := by unfold appL; exact getD_row h
def addL (a b : List Int) : List Int := (List.range a.length).map fun i => a.getD i 0 + b.getD i 0
theorem addL_len (a b : List Int) : (addL a b).length = a.length := by simp [addL]
theorem app_add {t a b : List Int} {n : Nat} (h : n < a.length) (hb : b.length = a.length) : (appL t (addL a b)).getD n 0 = (appL t a).getD n 0 + (appL t b).getD n 0 := by
  rw [app_at (by rw [addL_len]; exact h), app_at h, app_at (by omega), ← sumN_add]
  refine sumN_congr fun k _ => ?_
  unfold appv
  split
  · unfold addL
    rw [getD_row (by omega), Int.mul_add]
  · rfl
theorem adj_at {t b : List Int} {j : Nat} (h : j < b.length) : ((appL t b.reverse).reverse).getD j 0 = sumN t.length (fun k => if j + k < b.length then t.getD k 0 * b.getD (j + k) 0 else 0) := by
  rw [getD_rev (by rw [appL_len]; simpa using h), appL_len, app_at (by simp; omega)]
  refine sumN_congr fun k _ => ?_
  unfold appv
  simp only [List.length_reverse]
  by_cases q : j + k < b.length
  · rw [if_pos (by omega), if_pos q, getD_rev (by omega)]
    congr 2; omega
  · rw [if_neg (by omega), if_neg q]
theorem inn_adj {t a b : List Int} (h : a.length = b.length) : sumN (appL t a).length (fun i => (appL t a).getD i 0 * b.getD i 0) = sumN a.length (fun j => a.getD j 0 * ((appL t b.reverse).reverse).getD j 0) := by
  rw [appL_len]
  have e1 : sumN a.length (fun i => (appL t a).getD i 0 * b.getD i 0) = sumN t.length (fun k => sumN a.length (fun i => if k ≤ i then t.getD k 0 * (a.getD (i - k) 0 * b.getD (i - k + k) 0) else 0)) := by
    rw [← sumN_swap]
    refine sumN_congr fun i hi => ?_
    rw [app_at hi, sumN_mulr]
    refine sumN_congr fun k _ => ?_
    unfold appv
    by_cases q : k ≤ i
    · rw [if_pos q, if_pos q, show i - k + k = i by omega, Int.mul_assoc]
    · rw [if_neg q, if_neg q, Int.zero_mul]
  have e2 : sumN a.length (fun j => a.getD j 0 * ((appL t b.reverse).reverse).getD j 0) = sumN t.length (fun k => sumN a.length (fun j => if j + k < a.length then t.getD k 0 * (a.getD j 0 * b.getD (j + k) 0) else 0)) := by
    rw [← sumN_swap]
    refine sumN_congr fun j hj => ?_
    rw [adj_at (by omega), sumN_mul]
    refine sumN_congr fun k _ => ?_
    by_cases q : j + k < a.length
    · rw [if_pos (by omega), if_pos q, Int.mul_left_comm]
    · rw [if_neg (by omega), if_neg q, Int.mul_zero]
  rw [e1, e2]
  refine sumN_congr fun k _ => ?_
  rw [sum_shift (fun j => t.getD k 0 * (a.getD j 0 * b.getD (j + k) 0)), sum_keep (fun j => t.getD k 0 * (a.getD j 0 * b.getD (j + k) 0))]
theorem app_app {s t a : List Int} {n : Nat} (h : n < a.length) : (appL t (appL s a)).getD n 0 = sumN t.length (fun k => sumN s.length (fun j => if k + j ≤ n then t.getD k 0 * (s.getD j 0 * a.getD (n - k - j) 0) else 0)) := by
  rw [app_at (by rw [appL_len]; exact h)]
  refine sumN_congr fun k _ => ?_
  unfold appv
  by_cases q : k ≤ n
  · rw [if_pos q, app_at (by omega), sumN_mul]
    refine sumN_congr fun j _ => ?_
    unfold appv
    by_cases r : j ≤ n - k
    · rw [if_pos r, if_pos (by omega)]
    · rw [if_neg r, if_neg (by omega), Int.mul_zero]
  · rw [if_neg q]
    rw [sumN_congr (g := fun _ => 0), sumN_zero]
    intro j _
    rw [if_neg (by omega)]
theorem app_comm (s t a : List Int) : appL t (appL s a) = appL s (appL t a) := by
  refine getD_ext (by simp only [appL_len]) fun n hn => ?_
  simp only [appL_len] at hn
  rw [app_app hn, app_app hn, sumN_swap]
  refine sumN_congr fun j _ => sumN_congr fun k _ => ?_
  by_cases q : k + j ≤ n
  · rw [if_pos q, if_pos (by omega), Int.mul_left_comm, show n - k - j = n - j - k by omega]
  · rw [if_neg q, if_neg (by omega)]
end Go.Proofs.YtdfpadokepmknaaGreatDoor

/- FilterAdjoint: what the walk reads. -/
namespace Go.Proofs.YtdfpadokepmknaaGreatDoor
open Go Go.Ab Go.Fl
attribute [local irreducible] SeqQ BlkQ LpQ RetQ Wc Wo WD WX Op1 Op1q Op1a Cf Cl From
attribute [local irreducible] Ieee.Format.order Ieee.Format.read Ieee.Format.nearest Ieee.Format.write Ieee.Format.mul Ieee.Format.div Ieee.Datum.order Ieee.Datum.integral smpE smp smpW K J U sumN lchk tchk trE hdrE appL
set_option maxRecDepth 10000
variable {G : Base} {h : H}
set_option maxHeartbeats 4000000 in
theorem c16o {v : Value} {n : Nat} {l : List Nat} (s : Sl G h 1 v n (l.map (.float .f32))) (hn : n < 1000000) : Cf (mz G) (.func (.func 16) #[] #[]) [v] h fun r h' => (∃ b sf, r = .slice (some ⟨b, 0, some 0⟩) n n ∧ h.nx ≤ b ∧ At h' b (.cells (l.map (.float .f32)) 36 1 sf)) ∧ Grow h h' := by
  obtain ⟨a, c, rfl⟩ := s.form
  obtain ⟨r, h2, hap, s2, hg, hw⟩ := append_copy2 (M := mz G) (st := 23) (xt := 23) (h := h.push (.cells [] 36 1 false)) Tryz.underlying23 Tryz.underlying23 rfl zs36 zb36 zz36 rfl (At.new _ _) (s.grow ((Grow.refl _).push _)) (all_one_map (fun _ => rfl) l) (by omega)
  refine cf_enter0 6 [.tmp 2] Tryz.func16 rfl rfl rfl rfl ?_
  repeat' (first | with_reducible refine wo_nil ?_ | ((with_reducible refine wo_any ?_); first | ((with_reducible refine ik_move ?_); refine wo_op rfl (op_move rfl) rfl rfl ?_) | ((with_reducible refine ik_assign ?_); refine wo_op rfl (op_assign rfl) rfl rfl ?_) | ((with_reducible refine ik_callb ?_); refine wo_op rfl (op_append rfl rfl hap) rfl rfl ?_) | ((with_reducible refine ik_buildSlice ?_); refine wo_op rfl (op_buildSl rfl Tryz.underlying23 zs36 zz36 rfl rfl) rfl rfl ?_)) | with_reducible refine sq_norm ?_ | with_reducible refine wc_seq ?_ | with_reducible refine wc_region ?_ | with_reducible refine wc_ret ?_)
  exact rq1 rfl ⟨s2, Grow.trans ((Grow.refl _).push _) hg⟩
theorem smpW_ok {n : Int} (h : n.natAbs ≤ 16384) : smpE (smpW n) = 0 ∧ smp (smpW n) = n := by
  obtain ⟨_, v, hn, hv⟩ := div16 h
  exact smp_of_num hn hv h
theorem made_smp {L : List Int} (h : ∀ x ∈ L, x.natAbs ≤ 16384) : (L.map smpW).map smp = L ∧ ∀ z ∈ L.map smpW, smpE z = 0 := by
  constructor
  · rw [List.map_map]
    conv => rhs; rw [← List.map_id L]
    exact List.map_congr_left fun x hx => (smpW_ok (h x hx)).2
  · intro z hz
    obtain ⟨x, hx, rfl⟩ := List.mem_map.1 hz
    exact (smpW_ok (h x hx)).1
theorem firstNZ_all {l : List Int} (h : ∀ e ∈ l, e = 0) : firstNZ l = 0 := by
  induction l with
  | nil => rfl
  | cons a l ih =>
    unfold firstNZ
    rw [if_pos (h a (by simp))]
    exact ih fun e he => h e (by simp [he])
theorem lchk_of {l : List Nat} (hn : l.length ≤ 1024) (h : ∀ z ∈ l, smpE z = 0) : lchk l = 0 := by
  unfold lchk
  rw [if_neg (by omega)]
  exact firstNZ_all fun e he => by
    obtain ⟨z, hz, rfl⟩ := List.mem_map.1 he
    exact h z hz
theorem large_no {L : List Int} (h : ∀ x ∈ L, x.natAbs ≤ 16384) : anyLarge L = false := by
  unfold anyLarge
  rw [List.any_eq_false]
  intro x hx
  have := h x hx
  have : isLargeB x = false := decide_eq_false (by omega)
  simp [this]
theorem appE_ok {t : List Int} {l : List Nat} (ht : tchk t = 0) (hl : lchk l = 0) (h : anyLarge (appL t (l.map smp)) = false) : appE t l = 0 := by
  unfold appE madeE
  rw [ht, hl, h]
  simp [firstNZ]
theorem appE_large {t : List Int} {l : List Nat} (ht : tchk t = 0) (hl : lchk l = 0) (h : anyLarge (appL t (l.map smp)) = true) : appE t l = 4 := by
  unfold appE madeE
  rw [ht, hl, h]
  simp [firstNZ]
theorem adjE_ok {t : List Int} {l : List Nat} (ht : tchk t = 0) (hl : lchk l = 0) (h : anyLarge (adjL t (l.map smp)) = false) : adjE t l = 0 := by
  unfold adjE madeE
  rw [ht, hl, h]
  simp [firstNZ]
section
variable {v w : Value} {n m : Nat} {t : List Int} {l : List Nat}
theorem c14k (s : Sl G h 1 v m (t.map (.int .i64))) (u : Sl G h 1 w n (l.map (.float .f32))) (hm : m < 1000000) (hn : n < 1000000) (hw : Wf h) (hG : ∀ a v, laidBase a = some v → G a = some v) (hE : appE t l = 0) :
    Cf (mz G) (.func (.func 14) #[] #[]) [v, w] h fun r h' => (∃ a c, r = .tuple #[.slice a n c, .int .i64 0] ∧ Sl G h' 1 (.slice a n c) n (((appL t (l.map smp)).map smpW).map (.float .f32))) ∧ Grow h h' :=
  (c14 s u hm hn hw hG).mono fun r h' ⟨q, g⟩ => by
    rcases q with ⟨q, _⟩ | ⟨_, a, c, q1, q2, _⟩
    · exact absurd hE q
    · exact ⟨⟨a, c, q1, q2⟩, g⟩
theorem c14L (s : Sl G h 1 v m (t.map (.int .i64))) (u : Sl G h 1 w n (l.map (.float .f32))) (hm : m < 1000000) (hn : n < 1000000) (hw : Wf h) (hG : ∀ a v, laidBase a = some v → G a = some v) (hE : appE t l = 4) :
    Cf (mz G) (.func (.func 14) #[] #[]) [v, w] h fun r h' => r = .tuple #[.slice none 0 0, .int .i64 4] ∧ Grow h h' :=
  (c14 s u hm hn hw hG).mono fun r h' ⟨q, g⟩ => by
    rcases q with ⟨_, q⟩ | ⟨q, _⟩
    · rw [hE] at q; exact ⟨q, g⟩
    · rw [hE] at q; exact absurd q (by decide)
theorem c17k (s : Sl G h 1 v m (t.map (.int .i64))) (u : Sl G h 1 w n (l.map (.float .f32))) (hm : m < 1000000) (hn : n < 1000000) (hw : Wf h) (hG : ∀ a v, laidBase a = some v → G a = some v) (hE : adjE t l = 0) :
    Cf (mz G) (.func (.func 17) #[] #[]) [v, w] h fun r h' => (∃ a c, r = .tuple #[.slice a n c, .int .i64 0] ∧ Sl G h' 1 (.slice a n c) n (((adjL t (l.map smp)).map smpW).map (.float .f32))) ∧ Grow h h' :=
  (c17 s u hm hn hw hG).mono fun r h' ⟨q, g⟩ => by
    rcases q with ⟨q, _⟩ | ⟨_, a, c, q1, q2, _⟩
    · exact absurd hE q
    · exact ⟨⟨a, c, q1, q2⟩, g⟩
end
theorem pairE_ok {l k : List Nat} (hl : lchk l = 0) (hk : lchk k = 0) (h : l.length = k.length) : pairE l k = 0 := by
  unfold pairE
  rw [hl, hk, if_neg (by decide), if_neg (by omega)]
theorem c18k {v w : Value} {n m : Nat} {l k : List Nat} (s : Sl G h 1 v n (l.map (.float .f32))) (u : Sl G h 1 w m (k.map (.float .f32))) (hn : n < 1000000) (hm : m < 1000000) (hw : Wf h) (hG : ∀ a v, laidBase a = some v → G a = some v) (hE : pairE l k = 0) :
    Cf (mz G) (.func (.func 18) #[] #[]) [v, w] h fun r h' => r = .tuple #[.int .i64 (innL (l.map smp) (k.map smp)), .int .i64 0] ∧ Grow h h' :=
  (c18 s u hn hm hw hG).mono fun r h' ⟨q, g⟩ => by
    rw [hE, if_neg (by decide)] at q
    exact ⟨q, g⟩

/-! the law's own lists: a sum of floats, and a list backwards -/
def addW (x y : Nat) : Nat := (Ieee.single.add x y).getD 0
theorem addW_ok {x y : Nat} (hx : smpE x = 0) (hy : smpE y = 0) (hb : (smp x + smp y).natAbs ≤ 16384) : Ieee.single.add x y = some (addW x y) ∧ smpE (addW x y) = 0 ∧ smp (addW x y) = smp x + smp y := by
  obtain ⟨c, h1, h2, h3⟩ := add_smp hx hy hb
  unfold addW
  rw [h1]
  exact ⟨rfl, h2, h3⟩
theorem smp_getD {l : List Nat} {i : Nat} (h : i < l.length) : smp l[i] = (l.map smp).getD i 0 := by simp [List.getD, List.getElem?_eq_getElem h]
/-- The first i of a list are made, the others as they were. -/
def mixN (f : Nat → Nat) (l : List Nat) (i : Nat) : List Nat := (List.range l.length).map fun j => if j < i then f j else l.getD j 0
theorem mixN_len (f : Nat → Nat) (l : List Nat) (i : Nat) : (mixN f l i).length = l.length := by simp [mixN]
theorem mixN_zero (f : Nat → Nat) (l : List Nat) : mixN f l 0 = l := by
  unfold mixN
  refine List.ext_getElem (by simp) fun j h1 h2 => ?_
  simp [List.getD, List.getElem?_eq_getElem h2]
theorem mixN_end (f : Nat → Nat) (l : List Nat) : mixN f l l.length = (List.range l.length).map f := by
  unfold mixN
  refine List.map_congr_left fun j hj => ?_
  rw [if_pos (List.mem_range.1 hj)]
theorem mixN_step (f : Nat → Nat) (l : List Nat) {i : Nat} (hi : i < l.length) : ((mixN f l i).map (Value.float .f32)).set i (.float .f32 (f i)) = (mixN f l (i + 1)).map (Value.float .f32) := by
  rw [← List.map_set]
  congr 1
  unfold mixN
  refine List.ext_getElem (by simp) fun j h1 h2 => ?_
  simp only [List.getElem_set, List.getElem_map, List.getElem_range]
  by_cases q : i = j
  · subst q; simp
  · rw [if_neg q]
    by_cases r : j < i
    · rw [if_pos r, if_pos (by omega)]
    · rw [if_neg r, if_neg (by omega)]
/-- A comparison of two floats of the same number. -/
theorem feq_smp {x y : Nat} (hx : smpE x = 0) (hy : smpE y = 0) (h : smp x = smp y) : (Ieee.single.order x y == some .eq) = true := by
  obtain ⟨s, m, e, hr, hv, _, _⟩ := smp_read hx
  obtain ⟨t, n, j, kr, kv, _, _⟩ := smp_read hy
  have nx : Num Ieee.single x (Ieee.signed s m (e + 1074).toNat) := ⟨s, m, e, hr, by have := (read_single hr).2.1; omega, rfl⟩
  have ny : Num Ieee.single y (Ieee.signed t n (j + 1074).toNat) := ⟨t, n, j, kr, by have := (read_single kr).2.1; omega, rfl⟩
  rw [nx.feq ny]
  rw [h] at hv
  have : Ieee.signed s m (e + 1074).toNat = Ieee.signed t n (j + 1074).toNat := by omega
  rw [this]; simp
end Go.Proofs.YtdfpadokepmknaaGreatDoor
