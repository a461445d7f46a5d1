/- Cover: lists of lines and their errors, by the program and by the reference. -/
import Derived.Test.YtnkmencbnoipmaaGreatDoorL1
import Derived.Test.YtnkmencbnoipmaaGreatDoorK2
import Derived.Test.YtnkmencbnoipmaaGreatDoorC5
import Derived.Test.YtnkmencbnoipmaaGreatDoorC6
set_option linter.all false
/- Maps that are told names; the errors of lines by the program. -/
namespace Go.Proofs.YtnkmencbnoipmaaGreatDoor
open Go Go.Ab Go.Fl
attribute [local irreducible] SeqQ BlkQ LpQ RetQ Wc Wo WD WX Op1 Op1q Op1a Cf Cl From
attribute [local irreducible] Ieee.Format.order Ieee.Format.read Ieee.Format.nearest Ieee.Format.write Ieee.Format.mul Ieee.Format.div Ieee.Format.sqrt Ieee.Datum.order Ieee.Datum.integral K U rngE errN cntE cmpI indE ptE plaE firstNZ numsE lnE BigP isNameB nmE ascA errL chgV chgE
set_option maxRecDepth 10000
variable {G : Base} {h : H}

theorem u187 : Tryz.prog.underlying 187 = some (.map 9 4) := by kernel_rfl
theorem op_lookup {M : Mc} {l : KL} {h : H} {t : TypeId} {x k : Operand} {ok : Bool} {m key v : Value} (hx : val l x = some m) (hk : val l k = some key) (hv : alookup M.P h t m key ok = some v) : Op1 M (.lookup t x k ok) l h v h :=
  op_aop (fun _ q => by cases q) fun e he => by simp only [aop, he.val (x := x) (by simp [Op.operands]) hx, he.val (x := k) (by simp [Op.operands]) hk, hv]
theorem op_mapUpd {M : Mc} {l : KL} {h h' : H} {t : TypeId} {x k y : Operand} {m key v : Value} (hx : val l x = some m) (hk : val l k = some key) (hy : val l y = some v) (hv : amapUpdate M.P h t m key v = some h') : Op1 M (.mapUpdate t x k y) l h undef h' :=
  op_aop (fun _ q => by cases q) fun e he => by simp only [aop, he.val (x := x) (by simp [Op.operands]) hx, he.val (x := k) (by simp [Op.operands]) hk, he.val (x := y) (by simp [Op.operands]) hy, hv]
theorem op_mkMap {M : Mc} {l : KL} {h : H} {t : TypeId} : Op1 M (.makeMap t none) l h (.map (some h.nx)) (h.push (.map [])) :=
  op_aop (fun _ q => by cases q) fun e he => by simp [aop, amakeMap]
theorem ba_bq (s a : ByteArray) : (s == a) = decide (s = a) := by
  show (s.data == a.data) = _
  by_cases h : s = a
  · subst h; simp
  · rw [decide_eq_false h]
    have : s.data ≠ a.data := fun q => h (by cases s; cases a; simp at q; rw [q])
    simpa using this
def inL (s : ByteArray) (tl : List ByteArray) : Bool := tl.any fun a => decide (s = a)
/-- Names that were told. -/
def told (tl : List ByteArray) : List (Value × Value) := tl.map fun s => (.string s, .bool true)
theorem find_str (s : ByteArray) : ∀ (tl : List ByteArray) (i : Nat), (inL s tl = false ∧ afind .string (.string s) (told tl) i = some none) ∨ (inL s tl = true ∧ ∃ j, afind .string (.string s) (told tl) i = some (some (j, .bool true)))
  | [], i => .inl ⟨rfl, rfl⟩
  | a :: tl, i => by
    have e : afind .string (.string s) (told (a :: tl)) i = (match some (s == a) with | some true => some (some (i, .bool true)) | some false => afind .string (.string s) (told tl) (i + 1) | none => none) := rfl
    have e2 : inL s (a :: tl) = (decide (s = a) || inL s tl) := rfl
    rw [e, e2, ba_bq]
    by_cases h : s = a
    · rw [decide_eq_true h]; exact .inr ⟨rfl, _, rfl⟩
    · rw [decide_eq_false h]
      rcases find_str s tl (i + 1) with ⟨h1, h2⟩ | ⟨h1, j, h2⟩
      · exact .inl ⟨by rw [h1]; rfl, h2⟩
      · exact .inr ⟨by rw [h1]; rfl, j, h2⟩
theorem lk_names {h : H} {b : Nat} {tl : List ByteArray} {s : ByteArray} {v : Bool} (at1 : At h b (.map (told tl))) (hm : inL s tl = v) : alookup (mz G).P h 187 (.map (some b)) (.string s) false = some (.bool v) := by
  have zz : tzero Tryz.prog 4 = some (.bool false) := zz4
  show alookup Tryz.prog h 187 _ _ _ = _
  unfold alookup
  simp only [u187, Tryz.underlying9, zz, plainKey, plainVal, show gd (Value.bool false) = true from rfl, Bool.and_self, at1.get]
  rcases find_str s tl 0 with ⟨h1, h2⟩ | ⟨h1, j, h2⟩
  · rw [h2, ← hm, h1]; rfl
  · rw [h2, ← hm, h1]; rfl
theorem upd_names {h : H} {b : Nat} {tl : List ByteArray} {s : ByteArray} (at1 : At h b (.map (told tl))) (hm : inL s tl = false) : amapUpdate (mz G).P h 187 (.map (some b)) (.string s) (.bool true) = some (h.set b (.map (told (tl ++ [s])))) := by
  show amapUpdate Tryz.prog h 187 _ _ _ = _
  unfold amapUpdate
  simp only [u187, Tryz.underlying9, plainKey, plainVal, Bool.and_self, at1.get]
  rcases find_str s tl 0 with ⟨h1, h2⟩ | ⟨h1, j, h2⟩
  · rw [h2]; simp [told]
  · rw [hm] at h1; cases h1
@[reducible] def rcF (B : Nat) : Value := .func (.func 128) #[] #[.pointer (some ⟨B, 0, some 0⟩)]
set_option maxHeartbeats 4000000 in
theorem c70 : Cf (mz G) (.func (.func 70) #[] #[]) [] h fun r h' => r = rcF (h.nx + 1) ∧ At h' h.nx (.map (told [])) ∧ At h' (h.nx + 1) (.cells [.map (some h.nx)] 187 1 false) ∧ Grow h h' := by
  refine cf_enter0 4 [.tmp 0] Tryz.func70 rfl rfl rfl rfl ?_
  repeat' (first | with_reducible refine wo_nil ?_ | ((with_reducible refine wo_any ?_); first | ((with_reducible refine ik_assign ?_); refine wo_op rfl (op_assign rfl) rfl rfl ?_) | ((with_reducible refine ik_makeFunc ?_); refine wo_op rfl (op_makeFunc (fun _ q => by cases q) rfl rfl) rfl rfl ?_) | ((with_reducible refine ik_alloc ?_); refine wo_op rfl (op_alloc zz187 zs187 rfl rfl rfl) rfl rfl ?_) | ((with_reducible refine ik_store ?_); refine wo_op0 rfl (op_st1 rfl rfl at_A rfl zs187 rfl rfl rfl) rfl ?_)) | with_reducible refine sq_norm ?_ | with_reducible refine wc_seq ?_ | with_reducible refine wc_region ?_ | with_reducible refine wc_ret ?_ | ((with_reducible refine wo_any ?_); refine wo_op rfl (op_mkMap (M := mz G)) rfl rfl ?_))
  exact rq1 rfl ⟨rfl, at_A, at_C, gr_A⟩
set_option maxHeartbeats 4000000 in
theorem c128 {nm : ByteArray} {x y tx ty sh nx ny px py ch : Int} {a : Option Addr} {n c : Nat} {rf : List Int} {tl : List ByteArray} {b B : Nat} (s : Sl G h 1 (.slice a n c) n (rf.map (.int .i64))) (hn : n < 1000000) (hw : Wf h) (hG : ∀ a v, laidBase a = some v → G a = some v) (at1 : At h b (.map (told tl))) (at2 : At h B (.cells [.map (some b)] 187 1 false)) : Cf (mz G) (rcF B) [.agg ⟨lnC nm x y tx ty sh nx ny px py ch a n c⟩] h fun r h' => r = .int .i64 (if lnE nm x y tx ty sh nx ny px py ch rf ≠ 0 then lnE nm x y tx ty sh nx ny px py ch rf else if inL nm tl = true then 9 else 0) ∧ Keep1 b h h' ∧ Wf h' ∧ (lnE nm x y tx ty sh nx ny px py ch rf = 0 → inL nm tl = false → At h' b (.map (told (tl ++ [nm])))) := by
  have q20 := fun (h' : H) (g : Grow h h') (w' : Wf h') => c20 (nm := nm) (x := x) (y := y) (tx := tx) (ty := ty) (sh := sh) (nx := nx) (ny := ny) (px := px) (py := py) (ch := ch) (s.grow g) hn w' hG
  have l1 := at1.lt
  have l2 := at2.lt
  obtain ⟨E, hE⟩ : ∃ E, lnE nm x y tx ty sh nx ny px py ch rf = E := ⟨_, rfl⟩
  rw [hE] at q20 ⊢
  by_cases hz : E = 0
  · subst hz
    rw [if_neg (by simp)]
    cases hm : inL nm tl with
    | true =>
      have hmem := hm
      rw [if_pos rfl]
      refine cf_enter (sz := 17) (rs := [.tmp 3]) (all := [.agg ⟨lnC nm x y tx ty sh nx ny px py ch a n c⟩, .pointer (some ⟨B, 0, some 0⟩)]) Tryz.func128 rfl rfl rfl rfl rfl ?_
      repeat' (first | with_reducible refine wo_nil ?_ | ((with_reducible refine wo_any ?_); first | ((with_reducible refine ik_move ?_); refine wo_op rfl (op_move rfl) rfl rfl ?_) | ((with_reducible refine ik_assign ?_); refine wo_op rfl (op_assign rfl) rfl rfl ?_) | ((with_reducible refine ik_box ?_); refine wo_op rfl (op_boxAgg rfl zs43 rfl) rfl rfl ?_) | ((with_reducible refine ik_load ?_); first | refine wo_op rfl (op_ldAgg rfl at_A Tryz.underlying43 rfl zs43 rfl rfl) rfl rfl ?_ | refine wo_op rfl (op_ldAt rfl at_A Tryz.underlying187 rfl rfl) rfl rfl ?_ | refine wo_op rfl (op_ldAt rfl at_A Tryz.underlying9 rfl rfl) rfl rfl ?_) | ((with_reducible refine ik_bin ?_); refine wo_op rfl (op_neq rfl rfl) rfl rfl ?_) | ((with_reducible refine ik_fieldAddr ?_); refine wo_op rfl (op_fieldAddr (o := 0) rfl Tryz.underlying43 rfl zs9 rfl) rfl rfl ?_) | ((with_reducible refine ik_callv ?_); (refine wo_call rfl rfl rfl rfl (q20 _ gr_A wf_A) rfl rfl ?_; rintro _ _ ⟨rfl, hq⟩; all_goals ((try (have hqn := hq.nx)); (try simp only [H.nx_push, H.nx_set, H.nx_bump] at hqn))))) | with_reducible refine sq_norm ?_ | with_reducible refine wc_seq ?_ | with_reducible refine wc_region ?_ | with_reducible refine wc_skip ?_ | with_reducible refine wc_ret ?_ | with_reducible refine sq_ret ?_ | refine wc_ift rfl ?_ | refine wc_iff rfl ?_ | ((with_reducible refine wo_any ?_); refine wo_op rfl (op_lookup rfl rfl (lk_names at_A hmem)) rfl rfl ?_))
      exact rq1 rfl ⟨rfl, Keep1.refl.grow gr_A, wf_A, fun _ q => by cases q⟩
    | false =>
      have hmem := hm
      have hnot := hm
      rw [if_neg (by decide)]
      refine cf_enter (sz := 17) (rs := [.tmp 3]) (all := [.agg ⟨lnC nm x y tx ty sh nx ny px py ch a n c⟩, .pointer (some ⟨B, 0, some 0⟩)]) Tryz.func128 rfl rfl rfl rfl rfl ?_
      repeat' (first | with_reducible refine wo_nil ?_ | ((with_reducible refine wo_any ?_); first | ((with_reducible refine ik_move ?_); refine wo_op rfl (op_move rfl) rfl rfl ?_) | ((with_reducible refine ik_assign ?_); refine wo_op rfl (op_assign rfl) rfl rfl ?_) | ((with_reducible refine ik_box ?_); refine wo_op rfl (op_boxAgg rfl zs43 rfl) rfl rfl ?_) | ((with_reducible refine ik_load ?_); first | refine wo_op rfl (op_ldAgg rfl at_A Tryz.underlying43 rfl zs43 rfl rfl) rfl rfl ?_ | refine wo_op rfl (op_ldAt rfl at_A Tryz.underlying187 rfl rfl) rfl rfl ?_ | refine wo_op rfl (op_ldAt rfl at_A Tryz.underlying9 rfl rfl) rfl rfl ?_) | ((with_reducible refine ik_bin ?_); refine wo_op rfl (op_neq rfl rfl) rfl rfl ?_) | ((with_reducible refine ik_fieldAddr ?_); refine wo_op rfl (op_fieldAddr (o := 0) rfl Tryz.underlying43 rfl zs9 rfl) rfl rfl ?_) | ((with_reducible refine ik_callv ?_); (refine wo_call rfl rfl rfl rfl (q20 _ gr_A wf_A) rfl rfl ?_; rintro _ _ ⟨rfl, hq⟩; all_goals ((try (have hqn := hq.nx)); (try simp only [H.nx_push, H.nx_set, H.nx_bump] at hqn))))) | with_reducible refine sq_norm ?_ | with_reducible refine wc_seq ?_ | with_reducible refine wc_region ?_ | with_reducible refine wc_skip ?_ | with_reducible refine wc_ret ?_ | refine wc_iff rfl ?_ | ((with_reducible refine wo_any ?_); refine wo_op rfl (op_lookup rfl rfl (lk_names at_A hmem)) rfl rfl ?_) | ((with_reducible refine wo_any ?_); refine wo_op0 rfl (op_mapUpd rfl rfl rfl (upd_names at_A hnot)) rfl ?_))
      exact rq1 rfl ⟨rfl, (Keep1.refl.grow (show Grow h _ from gr_A)).set (At.lt (o := .map (told tl)) at_A) _, wf_A, fun _ _ => at_A⟩
  · rw [if_pos hz]
    refine cf_enter (sz := 17) (rs := [.tmp 3]) (all := [.agg ⟨lnC nm x y tx ty sh nx ny px py ch a n c⟩, .pointer (some ⟨B, 0, some 0⟩)]) Tryz.func128 rfl rfl rfl rfl rfl ?_
    repeat' (first | with_reducible refine wo_nil ?_ | ((with_reducible refine wo_any ?_); first | ((with_reducible refine ik_move ?_); refine wo_op rfl (op_move rfl) rfl rfl ?_) | ((with_reducible refine ik_assign ?_); refine wo_op rfl (op_assign rfl) rfl rfl ?_) | ((with_reducible refine ik_box ?_); refine wo_op rfl (op_boxAgg rfl zs43 rfl) rfl rfl ?_) | ((with_reducible refine ik_load ?_); refine wo_op rfl (op_ldAgg rfl at_A Tryz.underlying43 rfl zs43 rfl rfl) rfl rfl ?_) | ((with_reducible refine ik_bin ?_); refine wo_op rfl (op_neq rfl rfl) rfl rfl ?_) | ((with_reducible refine ik_callv ?_); (refine wo_call rfl rfl rfl rfl (q20 _ gr_A wf_A) rfl rfl ?_; rintro _ _ ⟨rfl, hq⟩; all_goals ((try (have hqn := hq.nx)); (try simp only [H.nx_push, H.nx_set, H.nx_bump] at hqn))))) | with_reducible refine sq_norm ?_ | with_reducible refine wc_seq ?_ | with_reducible refine wc_region ?_ | with_reducible refine wc_ret ?_ | with_reducible refine sq_ret ?_ | (refine wc_if rfl (fun hb => ?_) (fun hb => dead_A hb); (try simp only [decide_eq_true_eq, decide_eq_false_iff_not, Bool.not_eq_true', Bool.not_eq_false', Int.not_lt, Int.not_le, Decidable.not_not, not_true_eq_false, not_false_eq_true, beq_self_eq_true, reduceCtorEq] at hb)))
    exact rq1 rfl ⟨rfl, Keep1.refl.grow gr_A, wf_A, fun q => absurd q hz⟩
end Go.Proofs.YtnkmencbnoipmaaGreatDoor

/- Lists of lines; their errors by the program. -/
namespace Go.Proofs.YtnkmencbnoipmaaGreatDoor
open Go Go.Ab Go.Fl
attribute [local irreducible] SeqQ BlkQ LpQ RetQ Wc Wo WD WX Op1 Op1q Op1a Cf Cl From
attribute [local irreducible] Ieee.Format.order Ieee.Format.read Ieee.Format.nearest Ieee.Format.write Ieee.Format.mul Ieee.Format.div Ieee.Format.sqrt Ieee.Datum.order Ieee.Datum.integral K U rngE errN cntE cmpI indE ptE plaE firstNZ numsE lnE BigP isNameB nmE ascA errL chgV chgE
set_option maxRecDepth 10000
variable {G : Base} {h : H}

/-- A line as it lies in memory. -/
structure LnM where
  V : LnV
  a : Option Addr
  c : Nat
@[reducible] def LnM.cells (t : LnM) : List Value := vC t.V t.a t.V.rf.length t.c
structure LnO (G : Base) (h : H) (t : LnM) : Prop where
  sl : Sl G h 1 (.slice t.a t.V.rf.length t.c) t.V.rf.length (t.V.rf.map (.int .i64))
structure SlN (G : Base) (h : H) (v : Value) (n : Nat) (ts : List LnM) : Prop where
  sl : Sl G h 12 v n (ts.flatMap LnM.cells)
  len : ts.length = n
  ok : ∀ t ∈ ts, LnO G h t
theorem SlN.grow {h h' : H} {v : Value} {n : Nat} {ts : List LnM} (s : SlN G h v n ts) (g : Grow h h') : SlN G h' v n ts := ⟨s.sl.grow g, s.len, fun t ht => ⟨(s.ok t ht).sl.grow g⟩⟩
theorem flat_dropL : ∀ (ts : List LnM) (k : Nat) (hk : k < ts.length), (ts.flatMap LnM.cells).drop (k * 12) = (ts[k]).cells ++ (ts.drop (k + 1)).flatMap LnM.cells
  | t :: ts, 0, _ => by simp
  | t :: ts, k + 1, hk => by
    have ih := flat_dropL ts k (by simpa using hk)
    have e : ((t :: ts).flatMap LnM.cells).drop ((k + 1) * 12) = (ts.flatMap LnM.cells).drop (k * 12) := by
      rw [List.flatMap_cons, show (k + 1) * 12 = t.cells.length + k * 12 by simp; omega, List.drop_append]
      simp
    rw [e, ih]; rfl
theorem cells_left {G : Base} {h : H} {a : Addr} {x y : List Value} (c : Cells G h a (x ++ y)) : Cells G h a x := ⟨c.lt, fun i v q => c.get i v (by rw [List.getElem?_append_left (List.getElem?_eq_some_iff.1 q).1]; exact q), c.spot, c.own⟩
theorem slN_at {v : Value} {n : Nat} {ts : List LnM} (s : SlN G h v n ts) {st et : TypeId} (hu : Tryz.prog.underlying st = some (.slice et)) (hz : tsz Tryz.prog et = some 12) {i : Int} {q : Nat} (hq : q < n) (hi : i = (q : Int)) :
    ∃ ad, aindexAddr Tryz.prog st v (.int .i64 i) = some (.pointer (some ad)) ∧ Cells G h ad (ts[q]'(by rw [s.len]; exact hq)).cells := by
  have hl := s.len
  obtain ⟨ad, h1, h2⟩ := s.sl.addr (M := mz G) hu (es := 12) hz (i := i) (k := .i64) (by omega) (by omega)
  rw [show i.toNat * 12 = q * 12 by omega, flat_dropL ts q (by omega)] at h2
  exact ⟨ad, h1, cells_left h2⟩
theorem op_ldLn {M : Mc} {l : KL} {h : H} {t : TypeId} {x : Operand} {a : Addr} {c : List Value} {d : TypeDesc} {n : Nat} (hx : val l x = some (.pointer (some a))) (hu : M.P.underlying t = some d) (hd : isAggD d = true) (hn : tsz M.P t = some n) (hc : acells M.G h n a = some c) : Op1 M (.load t x) l h (.agg ⟨c⟩) h :=
  op_load hx (ld_agg hu hd hn hc)
theorem Sl.keep1 {es n b : Nat} {w : Value} {L : List Value} {h' : H} {m : List (Value × Value)} (sl : Sl G h es w n L) (hb : At h b (.map m)) (k : Keep1 b h h') : Sl G h' es w n L := by
  cases sl with
  | nil => exact .nil
  | end' b o => exact .end' b o
  | mem a _ cc _ hl hc hnc ho =>
    have hne : a.spot = some 0 → a.block ≠ b := fun q e => by
      obtain ⟨c1, e1, s1, hg⟩ := ho q
      rw [e, hb.get] at hg
      cases hg
    refine .mem a n cc L hl ⟨fun q => Nat.lt_of_lt_of_le (hc.lt q) k.nx, fun i v q => ?_, hc.spot, fun q => ?_⟩ hnc fun q => ?_
    · have := hc.get i v q
      unfold acell at this ⊢
      rcases hc.spot with hs | hs
      · simp only [aadd, hs] at this ⊢; exact this
      · simp only [aadd, hs] at this ⊢
        rw [k.get _ (hc.lt hs) (hne hs)]; exact this
    · rw [k.get _ (hc.lt q) (hne q)]; exact hc.own q
    · rw [k.get _ (hc.lt q) (hne q)]; exact ho q
theorem SlN.keep1 {v : Value} {n b : Nat} {ts : List LnM} {h' : H} {m : List (Value × Value)} (s : SlN G h v n ts) (hb : At h b (.map m)) (k : Keep1 b h h') : SlN G h' v n ts := ⟨Sl.keep1 s.sl hb k, s.len, fun t ht => ⟨Sl.keep1 (s.ok t ht).sl hb k⟩⟩
theorem Keep1.trans {b : Nat} {h1 h2 h3 : H} (x : Keep1 b h1 h2) (y : Keep1 b h2 h3) : Keep1 b h1 h3 := ⟨Nat.le_trans x.nx y.nx, fun n hn q => (y.get n (Nat.lt_of_lt_of_le hn x.nx) q).trans (x.get n hn q), fun w => y.wf (x.wf w)⟩
noncomputable def linsE : List LnV → List ByteArray → Int
  | [], _ => 0
  | L :: l, tl => if errL L ≠ 0 then errL L else if inL L.nm tl = true then 9 else linsE l (tl ++ [L.nm])
def nmsOf (ts : List LnM) : List ByteArray := ts.map fun t => t.V.nm
def vsOf (ts : List LnM) : List LnV := ts.map fun t => t.V
set_option maxHeartbeats 8000000 in
theorem c69 {v : Value} {n b B : Nat} {ts : List LnM} (s : SlN G h v n ts) (hn : n < 1000000) (hr : ∀ t ∈ ts, t.V.rf.length < 1000000) (hw : Wf h) (hG : ∀ a v, laidBase a = some v → G a = some v) (at1 : At h b (.map (told []))) (at2 : At h B (.cells [.map (some b)] 187 1 false)) (hbB : B ≠ b) : Cf (mz G) (.func (.func 69) #[] #[]) [v, rcF B] h fun r h' => r = .int .i64 (linsE (vsOf ts) []) ∧ Keep1 b h h' ∧ Wf h' := by
  obtain ⟨a, c, rfl⟩ := s.sl.form
  have hlen := s.len
  refine cf_enter0 21 [.tmp 4] Tryz.func69 rfl rfl rfl rfl ?_
  repeat' (first | with_reducible refine wo_nil ?_ | ((with_reducible refine wo_any ?_); first | ((with_reducible refine ik_move ?_); refine wo_op rfl (op_move rfl) rfl rfl ?_) | ((with_reducible refine ik_assign ?_); refine wo_op rfl (op_assign rfl) rfl rfl ?_) | ((with_reducible refine ik_callb ?_); refine wo_op rfl (op_lenSl rfl Tryz.underlying35) rfl rfl ?_)) | with_reducible refine sq_norm ?_ | with_reducible refine wc_seq ?_ | with_reducible refine wc_region ?_ | with_reducible refine wc_block ?_)
  refine wc_loop (fun k => n - k) (fun k : Nat => [(1, rcF B), (8, .slice a n c), (9, .int .i64 n), (10, .int .i64 k)]) (fun k h' => (Wf h' ∧ Keep1 b h h' ∧ At h' b (.map (told (nmsOf (ts.take k))))) ∧ k ≤ n ∧ linsE (vsOf (ts.drop k)) (nmsOf (ts.take k)) = linsE (vsOf ts) []) 0 (within_lk ⟨rfl, rfl, rfl, rfl, trivial⟩) ⟨⟨hw, .refl, at1⟩, Nat.zero_le _, rfl⟩ ?_
  rintro k h1 ⟨⟨w1, k1, m1⟩, hk, hi⟩
  have s1 := s.keep1 at1 k1
  have b1 := k1.at hbB at2
  by_cases hlt : k < n
  · obtain ⟨ad, i1, i3⟩ := slN_at s1 Tryz.underlying35 zs43 (i := (k : Int)) hlt rfl
    have ho := s1.ok _ (List.getElem_mem (by omega : k < ts.length))
    have hr1 := hr _ (List.getElem_mem (by omega : k < ts.length))
    have e1 : nmsOf (ts.take (k + 1)) = nmsOf (ts.take k) ++ [(ts[k]'(by omega)).V.nm] := by
      unfold nmsOf; rw [List.take_succ_eq_append_getElem (by omega), List.map_append, List.map_singleton]
    have e2 : vsOf (ts.drop k) = (ts[k]'(by omega)).V :: vsOf (ts.drop (k + 1)) := by
      unfold vsOf; rw [List.drop_eq_getElem_cons (by omega), List.map_cons]
    rw [e2] at hi
    obtain ⟨t, ht⟩ : ∃ t, ts[k]'(by omega) = t := ⟨_, rfl⟩
    rw [ht] at i3 ho hr1 e1 hi
    obtain ⟨⟨nm, x, y, tx, ty, sh, nx, ny, px, py, ch, rf⟩, ta, tc⟩ := t
    obtain ⟨so⟩ := ho
    dsimp only at i3 so hr1 e1 hi
    obtain ⟨tl, htl⟩ : ∃ tl, nmsOf (ts.take k) = tl := ⟨_, rfl⟩
    rw [htl] at m1 e1 hi
    rw [linsE] at hi
    rw [errL_eq] at hi
    have q128 := fun (h' : H) (g : Grow h1 h') (w' : Wf h') (ab : At h' b (.map (told tl))) (aB : At h' B (.cells [.map (some b)] 187 1 false)) => c128 (nm := nm) (x := x) (y := y) (tx := tx) (ty := ty) (sh := sh) (nx := nx) (ny := ny) (px := px) (py := py) (ch := ch) (so.grow g) hr1 w' hG ab aB
    obtain ⟨E, hE⟩ : ∃ E, lnE nm x y tx ty sh nx ny px py ch rf = E := ⟨_, rfl⟩
    rw [hE] at q128 hi
    have lm := m1.lt
    have lb := b1.lt
    clear e2 ht htl hr hG hE at1 at2
    by_cases hz : E = 0
    · subst hz
      rw [if_neg (by simp)] at hi
      cases hin : inL nm tl with
      | true =>
        rw [hin, if_pos rfl] at hi
        rw [← hi]
        rw [hin, if_neg (by simp), if_pos rfl] at q128
        repeat' (first | with_reducible refine wo_nil ?_ | ((with_reducible refine wo_any ?_); first | ((with_reducible refine ik_move ?_); refine wo_op rfl (op_move rfl) rfl rfl ?_) | ((with_reducible refine ik_assign ?_); refine wo_op rfl (op_assign rfl) rfl rfl ?_) | ((with_reducible refine ik_indexAddr ?_); refine wo_op rfl (op_indexAddr rfl rfl i1) rfl rfl ?_) | ((with_reducible refine ik_load ?_); first | refine wo_op rfl (op_ldLn rfl Tryz.underlying43 rfl zs43 i3.all) rfl rfl ?_ | refine wo_op rfl (op_ldAgg rfl at_A Tryz.underlying43 rfl zs43 rfl rfl) rfl rfl ?_) | ((with_reducible refine ik_bin ?_); first | refine wo_op rfl (op_lss rfl rfl) rfl rfl ?_ | refine wo_op rfl (op_neq rfl rfl) rfl rfl ?_) | ((with_reducible refine ik_alloc ?_); refine wo_op rfl (op_alloc zz43 zs43 rfl rfl rfl) rfl rfl ?_) | ((with_reducible refine ik_store ?_); refine wo_op0 rfl (op_stAgg rfl rfl at_A zs43 rfl rfl rfl rfl) rfl ?_) | ((with_reducible refine ik_callv ?_); (refine wo_call rfl rfl rfl rfl (q128 _ gr_A wf_A at_A at_A) rfl rfl ?_; rintro _ _ ⟨rfl, hk2, w2, hu⟩; all_goals ((try (have hqn := hq.nx)); (try simp only [H.nx_push, H.nx_set, H.nx_bump] at hqn))))) | with_reducible refine sq_norm ?_ | with_reducible refine wc_seq ?_ | with_reducible refine wc_region ?_ | with_reducible refine wc_skip ?_ | with_reducible refine wc_ret ?_ | with_reducible refine wc_block ?_ | with_reducible refine bq_ret ?_ | with_reducible refine sq_ret ?_ | with_reducible refine lq_ret ?_ | refine wc_ift rfl ?_ | (refine wc_if rfl (fun hb => ?_) (fun hb => dead_A hb); (try simp only [decide_eq_true_eq, decide_eq_false_iff_not, Bool.not_eq_true', Bool.not_eq_false', Int.not_lt, Int.not_le, Decidable.not_not, not_true_eq_false, not_false_eq_true, beq_self_eq_true, reduceCtorEq] at hb)))
        exact rq1 rfl ⟨rfl, (k1.grow (show Grow h1 _ from gr_A)).trans hk2, w2⟩
      | false =>
        rw [hin, if_neg (by decide)] at hi
        rw [hin, if_neg (by simp), if_neg (by decide)] at q128
        repeat' (first | with_reducible refine wo_nil ?_ | ((with_reducible refine wo_any ?_); first | ((with_reducible refine ik_move ?_); refine wo_op rfl (op_move rfl) rfl rfl ?_) | ((with_reducible refine ik_assign ?_); refine wo_op rfl (op_assign rfl) rfl rfl ?_) | ((with_reducible refine ik_indexAddr ?_); refine wo_op rfl (op_indexAddr rfl rfl i1) rfl rfl ?_) | ((with_reducible refine ik_load ?_); first | refine wo_op rfl (op_ldLn rfl Tryz.underlying43 rfl zs43 i3.all) rfl rfl ?_ | refine wo_op rfl (op_ldAgg rfl at_A Tryz.underlying43 rfl zs43 rfl rfl) rfl rfl ?_) | ((with_reducible refine ik_bin ?_); first | refine wo_op rfl (op_lss rfl rfl) rfl rfl ?_ | refine wo_op rfl (op_neq rfl rfl) rfl rfl ?_ | refine wo_op rfl (op_add' rfl rfl (w64 (by omega) (by omega))) rfl rfl ?_) | ((with_reducible refine ik_alloc ?_); refine wo_op rfl (op_alloc zz43 zs43 rfl rfl rfl) rfl rfl ?_) | ((with_reducible refine ik_store ?_); refine wo_op0 rfl (op_stAgg rfl rfl at_A zs43 rfl rfl rfl rfl) rfl ?_) | ((with_reducible refine ik_callv ?_); (refine wo_call rfl rfl rfl rfl (q128 _ gr_A wf_A at_A at_A) rfl rfl ?_; rintro _ _ ⟨rfl, hk2, w2, hu⟩; all_goals ((try (have hqn := hq.nx)); (try simp only [H.nx_push, H.nx_set, H.nx_bump] at hqn))))) | with_reducible refine sq_norm ?_ | with_reducible refine wc_seq ?_ | with_reducible refine wc_region ?_ | with_reducible refine wc_skip ?_ | with_reducible refine wc_block ?_ | with_reducible refine bq_norm ?_ | refine wc_iff rfl ?_ | (refine wc_if rfl (fun hb => ?_) (fun hb => dead_A hb); (try simp only [decide_eq_true_eq, decide_eq_false_iff_not, Bool.not_eq_true', Bool.not_eq_false', Int.not_lt, Int.not_le, Decidable.not_not, not_true_eq_false, not_false_eq_true, beq_self_eq_true, reduceCtorEq] at hb)))
        exact lq_norm (k + 1) (by omega) (within_lk ⟨rfl, rfl, rfl, rfl, trivial⟩) ⟨⟨w2, (k1.grow (show Grow h1 _ from gr_A)).trans hk2, by rw [e1]; exact hu rfl rfl⟩, by omega, by rw [e1]; exact hi⟩
    · rw [if_pos hz] at hi
      rw [← hi]
      rw [if_pos hz] at q128
      repeat' (first | with_reducible refine wo_nil ?_ | ((with_reducible refine wo_any ?_); first | ((with_reducible refine ik_move ?_); refine wo_op rfl (op_move rfl) rfl rfl ?_) | ((with_reducible refine ik_assign ?_); refine wo_op rfl (op_assign rfl) rfl rfl ?_) | ((with_reducible refine ik_indexAddr ?_); refine wo_op rfl (op_indexAddr rfl rfl i1) rfl rfl ?_) | ((with_reducible refine ik_load ?_); first | refine wo_op rfl (op_ldLn rfl Tryz.underlying43 rfl zs43 i3.all) rfl rfl ?_ | refine wo_op rfl (op_ldAgg rfl at_A Tryz.underlying43 rfl zs43 rfl rfl) rfl rfl ?_) | ((with_reducible refine ik_bin ?_); first | refine wo_op rfl (op_lss rfl rfl) rfl rfl ?_ | refine wo_op rfl (op_neq rfl rfl) rfl rfl ?_) | ((with_reducible refine ik_alloc ?_); refine wo_op rfl (op_alloc zz43 zs43 rfl rfl rfl) rfl rfl ?_) | ((with_reducible refine ik_store ?_); refine wo_op0 rfl (op_stAgg rfl rfl at_A zs43 rfl rfl rfl rfl) rfl ?_) | ((with_reducible refine ik_callv ?_); (refine wo_call rfl rfl rfl rfl (q128 _ gr_A wf_A at_A at_A) rfl rfl ?_; rintro _ _ ⟨rfl, hk2, w2, hu⟩; all_goals ((try (have hqn := hq.nx)); (try simp only [H.nx_push, H.nx_set, H.nx_bump] at hqn))))) | with_reducible refine sq_norm ?_ | with_reducible refine wc_seq ?_ | with_reducible refine wc_region ?_ | with_reducible refine wc_skip ?_ | with_reducible refine wc_ret ?_ | with_reducible refine wc_block ?_ | with_reducible refine bq_ret ?_ | with_reducible refine sq_ret ?_ | with_reducible refine lq_ret ?_ | (refine wc_if rfl (fun hb => ?_) (fun hb => dead_A hb); (try simp only [decide_eq_true_eq, decide_eq_false_iff_not, Bool.not_eq_true', Bool.not_eq_false', Int.not_lt, Int.not_le, Decidable.not_not, not_true_eq_false, not_false_eq_true, beq_self_eq_true, reduceCtorEq] at hb)))
      exact rq1 rfl ⟨rfl, (k1.grow (show Grow h1 _ from gr_A)).trans hk2, w2⟩
  · have hkn : k = n := by omega
    subst hkn
    repeat' (first | with_reducible refine wo_nil ?_ | ((with_reducible refine wo_any ?_); first | ((with_reducible refine ik_assign ?_); refine wo_op rfl (op_assign rfl) rfl rfl ?_) | ((with_reducible refine ik_bin ?_); refine wo_op rfl (op_lss rfl rfl) rfl rfl ?_)) | with_reducible refine sq_norm ?_ | with_reducible refine wc_seq ?_ | with_reducible refine wc_region ?_ | with_reducible refine wc_ret ?_ | with_reducible refine wc_exit ?_ | with_reducible refine sq_exit ?_ | with_reducible refine lq_exit ?_ | refine bq_eq rfl ?_ | (refine wc_if rfl (fun hb => ?_) (fun hb => ?_) <;> (try simp only [decide_eq_true_eq, decide_eq_false_iff_not, Bool.not_eq_true', Bool.not_eq_false', Int.not_lt, Int.not_le, Decidable.not_not, not_true_eq_false, not_false_eq_true, beq_self_eq_true, reduceCtorEq] at hb) <;> (try (exfalso; omega))))
    refine rq1 rfl ⟨?_, k1, w1⟩
    rw [← hi, List.drop_eq_nil_of_le (by omega)]
    rfl
set_option maxHeartbeats 4000000 in
theorem c13 {v : Value} {n : Nat} {ts : List LnM} (s : SlN G h v n ts) (hn : n < 1000000) (hr : ∀ t ∈ ts, t.V.rf.length < 1000000) (hw : Wf h) (hG : ∀ a v, laidBase a = some v → G a = some v) : Cf (mz G) (.func (.func 13) #[] #[]) [v] h fun r h' => r = .int .i64 (if 32 < n then 5 else linsE (vsOf ts) []) ∧ Grow h h' := by
  obtain ⟨a, c, rfl⟩ := s.sl.form
  by_cases h32 : 32 < n
  · rw [if_pos h32]
    refine cf_enter0 9 [.tmp 2] Tryz.func13 rfl rfl rfl rfl ?_
    repeat' (first | with_reducible refine wo_nil ?_ | ((with_reducible refine wo_any ?_); first | ((with_reducible refine ik_move ?_); refine wo_op rfl (op_move rfl) rfl rfl ?_) | ((with_reducible refine ik_assign ?_); refine wo_op rfl (op_assign rfl) rfl rfl ?_) | ((with_reducible refine ik_callb ?_); refine wo_op rfl (op_lenSl rfl Tryz.underlying35) rfl rfl ?_) | ((with_reducible refine ik_bin ?_); refine wo_op rfl (op_gtr rfl rfl) rfl rfl ?_)) | with_reducible refine sq_norm ?_ | with_reducible refine wc_seq ?_ | with_reducible refine wc_region ?_ | with_reducible refine wc_ret ?_ | with_reducible refine sq_ret ?_ | (refine wc_if rfl (fun hb => ?_) (fun hb => ?_) <;> (try simp only [decide_eq_true_eq, decide_eq_false_iff_not, Bool.not_eq_true', Bool.not_eq_false', Int.not_lt, Int.not_le, Decidable.not_not, not_true_eq_false, not_false_eq_true, beq_self_eq_true, reduceCtorEq] at hb) <;> (try (exfalso; omega))))
    exact rq1 rfl ⟨rfl, gr_A⟩
  · rw [if_neg h32]
    have q69 := fun (h' : H) (b : Nat) (g : Grow h h') (w' : Wf h') (a1 : At h' b (.map (told []))) (a2 : At h' (b + 1) (.cells [.map (some b)] 187 1 false)) (hb : h.nx ≤ b) => (c69 (s.grow g) hn hr w' hG a1 a2 (by omega)).mono (fun r h2 q => (⟨q.1, q.2.1.base g hb⟩ : r = .int .i64 (linsE (vsOf ts) []) ∧ Grow h h2))
    refine cf_enter0 9 [.tmp 2] Tryz.func13 rfl rfl rfl rfl ?_
    repeat' (first | with_reducible refine wo_nil ?_ | ((with_reducible refine wo_any ?_); first | ((with_reducible refine ik_move ?_); refine wo_op rfl (op_move rfl) rfl rfl ?_) | ((with_reducible refine ik_assign ?_); refine wo_op rfl (op_assign rfl) rfl rfl ?_) | ((with_reducible refine ik_callb ?_); refine wo_op rfl (op_lenSl rfl Tryz.underlying35) rfl rfl ?_) | ((with_reducible refine ik_bin ?_); refine wo_op rfl (op_gtr rfl rfl) rfl rfl ?_) | ((with_reducible refine ik_callF (f := 70) ?_); (refine wo_call rfl rfl rfl rfl (c70) rfl rfl ?_; rintro _ _ ⟨rfl, ma, ca, hq⟩; all_goals ((try (have hqn := hq.nx)); (try simp only [H.nx_push, H.nx_set, H.nx_bump] at hqn)))) | ((with_reducible refine ik_callv ?_); (refine wo_call rfl rfl rfl rfl (q69 _ _ gr_A wf_A at_A at_A (by omega)) rfl rfl ?_; rintro _ _ ⟨rfl, hq⟩; all_goals ((try (have hqn := hq.nx)); (try simp only [H.nx_push, H.nx_set, H.nx_bump] at hqn))))) | with_reducible refine sq_norm ?_ | with_reducible refine wc_seq ?_ | with_reducible refine wc_region ?_ | with_reducible refine wc_skip ?_ | with_reducible refine wc_ret ?_ | (refine wc_if rfl (fun hb => dead_A hb) (fun hb => ?_); (try simp only [decide_eq_true_eq, decide_eq_false_iff_not, Bool.not_eq_true', Bool.not_eq_false', Int.not_lt, Int.not_le, Decidable.not_not, not_true_eq_false, not_false_eq_true, beq_self_eq_true, reduceCtorEq] at hb)))
    exact rq1 rfl ⟨rfl, gr_A⟩
end Go.Proofs.YtnkmencbnoipmaaGreatDoor

/- The errors of lines by the reference. -/
namespace Go.Proofs.YtnkmencbnoipmaaGreatDoor
open Go Go.Ab Go.Fl
attribute [local irreducible] SeqQ BlkQ LpQ RetQ Wc Wo WD WX Op1 Op1q Op1a Cf Cl From
attribute [local irreducible] Ieee.Format.order Ieee.Format.read Ieee.Format.nearest Ieee.Format.write Ieee.Format.mul Ieee.Format.div Ieee.Format.sqrt Ieee.Datum.order Ieee.Datum.integral K U rngE errN cntE cmpI indE ptE plaE firstNZ numsE lnE BigP isNameB nmE ascA errL chgV chgE
set_option maxRecDepth 10000
variable {G : Base} {h : H}

theorem slN_atG {v : Value} {n : Nat} {ts : List LnM} (s : SlN G h v n ts) {st et : TypeId} (hu : Tryz.prog.underlying st = some (.slice et)) (hz : tsz Tryz.prog et = some 12) {i : Int} {q : Nat} (hq : q < n) (hi : i = (q : Int)) :
    ∃ ad, aindexAddr Tryz.prog st v (.int .i64 i) = some (.pointer (some ad)) ∧ ∀ h', Grow h h' → Cells G h' ad (ts[q]'(by rw [s.len]; exact hq)).cells := by
  obtain ⟨ad, h1, h2⟩ := slN_at s hu hz hq hi
  refine ⟨ad, h1, fun h' g => ?_⟩
  obtain ⟨ad', k1, k2⟩ := slN_at (s.grow g) hu hz hq hi
  rw [h1] at k1
  cases k1
  exact k2
theorem inL_step {s a : ByteArray} {tl : List ByteArray} : inL s (a :: tl) = (decide (a = s) || inL s tl) := by
  show (decide (s = a) || inL s tl) = _
  congr 1
  rw [Bool.eq_iff_iff]; simp [eq_comm]
theorem c71 {v : Value} {n : Nat} {tl : List ByteArray} {w : ByteArray} (s : Sl G h 1 v n (tl.map (.string ·))) (hn : n < 1000000) : Cl (mz G) (.func (.func 71) #[] #[]) [v, .string w] h (.bool (inL w tl)) h := by
  obtain ⟨a, c, rfl⟩ := s.form
  have hl := s.length
  simp at hl
  refine cl_of_cf (cf_enter0 18 [.tmp 4] Tryz.func71 rfl rfl rfl rfl ?_)
  repeat' (first | with_reducible refine wo_nil ?_ | ((with_reducible refine wo_any ?_); ((with_reducible refine ik_assign ?_); refine wo_op rfl (op_assign rfl) rfl rfl ?_)) | with_reducible refine sq_norm ?_ | with_reducible refine wc_seq ?_ | with_reducible refine wc_region ?_ | with_reducible refine wc_block ?_)
  refine wc_loop (fun k => n - k) (fun k : Nat => [(0, .slice a n c), (1, .string w), (5, .int .i64 k)]) (fun k h' => h' = h ∧ k ≤ n ∧ inL w (tl.drop k) = inL w tl) 0 (within_lk ⟨rfl, rfl, rfl, trivial⟩) ⟨rfl, Nat.zero_le _, rfl⟩ ?_
  rintro k h' ⟨rfl, hk, hi⟩
  by_cases hlt : k < n
  · obtain ⟨ad, i1, i2⟩ := s.addr (M := mz G) Tryz.underlying117 (es := 1) zs9 (i := k) (k := .i64) (by omega) (by omega)
    have i3 : acell G h' ad = some (.string (tl[k]'(by omega))) := i2.get 0 _ (by simp)
    rw [List.drop_eq_getElem_cons (by omega), inL_step] at hi
    obtain ⟨z, hz⟩ : ∃ z, tl[k]'(by omega) = z := ⟨_, rfl⟩
    rw [hz] at hi i3
    by_cases hd : z = w
    · have hd' : decide (z = w) = true := by simp [hd]
      rw [hd', Bool.true_or] at hi
      rw [← hi]
      subst hd
      repeat' (first | with_reducible refine wo_nil ?_ | ((with_reducible refine wo_any ?_); first | ((with_reducible refine ik_move ?_); refine wo_op rfl (op_move rfl) rfl rfl ?_) | ((with_reducible refine ik_assign ?_); refine wo_op rfl (op_assign rfl) rfl rfl ?_) | ((with_reducible refine ik_indexAddr ?_); refine wo_op rfl (op_indexAddr rfl rfl i1) rfl rfl ?_) | ((with_reducible refine ik_load ?_); refine wo_op rfl (op_ldCell rfl Tryz.underlying9 rfl i3) rfl rfl ?_) | ((with_reducible refine ik_callb ?_); refine wo_op rfl (op_lenSl rfl Tryz.underlying117) rfl rfl ?_) | ((with_reducible refine ik_bin ?_); first | refine wo_op rfl (op_lss rfl rfl) rfl rfl ?_ | refine wo_op rfl (op_seq rfl rfl) rfl rfl ?_)) | with_reducible refine sq_norm ?_ | with_reducible refine wc_seq ?_ | with_reducible refine wc_region ?_ | with_reducible refine wc_skip ?_ | with_reducible refine wc_ret ?_ | with_reducible refine wc_block ?_ | with_reducible refine bq_ret ?_ | with_reducible refine sq_ret ?_ | with_reducible refine lq_ret ?_ | (refine wc_if rfl (fun hb => ?_) (fun hb => dead_A hb); (try simp only [decide_eq_true_eq, decide_eq_false_iff_not, Bool.not_eq_true', Bool.not_eq_false', Int.not_lt, Int.not_le, Decidable.not_not, not_true_eq_false, not_false_eq_true, beq_self_eq_true, reduceCtorEq] at hb)) | (refine wc_if rfl (fun hb => ?_) (fun hb => (of_decide_eq_false hb rfl).elim); (try simp only [decide_eq_true_eq, decide_eq_false_iff_not, Bool.not_eq_true', Bool.not_eq_false', Int.not_lt, Int.not_le, Decidable.not_not, not_true_eq_false, not_false_eq_true, beq_self_eq_true, reduceCtorEq] at hb)))
      all_goals first
        | exact rq1 rfl ⟨rfl, rfl⟩
        | (exfalso; simp_all; done)
        | trace_state
    · have hd' : decide (z = w) = false := by simp [hd]
      rw [hd', Bool.false_or] at hi
      repeat' (first | with_reducible refine wo_nil ?_ | ((with_reducible refine wo_any ?_); first | ((with_reducible refine ik_move ?_); refine wo_op rfl (op_move rfl) rfl rfl ?_) | ((with_reducible refine ik_assign ?_); refine wo_op rfl (op_assign rfl) rfl rfl ?_) | ((with_reducible refine ik_indexAddr ?_); refine wo_op rfl (op_indexAddr rfl rfl i1) rfl rfl ?_) | ((with_reducible refine ik_load ?_); refine wo_op rfl (op_ldCell rfl Tryz.underlying9 rfl i3) rfl rfl ?_) | ((with_reducible refine ik_callb ?_); refine wo_op rfl (op_lenSl rfl Tryz.underlying117) rfl rfl ?_) | ((with_reducible refine ik_bin ?_); first | refine wo_op rfl (op_lss rfl rfl) rfl rfl ?_ | refine wo_op rfl (op_seq rfl rfl) rfl rfl ?_ | refine wo_op rfl (op_add' rfl rfl (w64 (by omega) (by omega))) rfl rfl ?_)) | with_reducible refine sq_norm ?_ | with_reducible refine wc_seq ?_ | with_reducible refine wc_region ?_ | with_reducible refine wc_skip ?_ | with_reducible refine wc_ret ?_ | with_reducible refine wc_block ?_ | with_reducible refine bq_norm ?_ | with_reducible refine bq_ret ?_ | with_reducible refine sq_ret ?_ | with_reducible refine lq_ret ?_ | (refine wc_if rfl (fun hb => ?_) (fun hb => ?_) <;> (try simp only [decide_eq_true_eq, decide_eq_false_iff_not, Bool.not_eq_true', Bool.not_eq_false', Int.not_lt, Int.not_le, Decidable.not_not, not_true_eq_false, not_false_eq_true, beq_self_eq_true, reduceCtorEq] at hb) <;> (try (exfalso; omega))))
      all_goals first
        | exact lq_norm (k + 1) (by omega) (within_lk ⟨rfl, rfl, rfl, trivial⟩) ⟨rfl, by omega, hi⟩
        | (exfalso; simp_all; done)
        | trace_state
  · repeat' (first | with_reducible refine wo_nil ?_ | ((with_reducible refine wo_any ?_); first | ((with_reducible refine ik_move ?_); refine wo_op rfl (op_move rfl) rfl rfl ?_) | ((with_reducible refine ik_assign ?_); refine wo_op rfl (op_assign rfl) rfl rfl ?_) | ((with_reducible refine ik_callb ?_); refine wo_op rfl (op_lenSl rfl Tryz.underlying117) rfl rfl ?_) | ((with_reducible refine ik_bin ?_); refine wo_op rfl (op_lss rfl rfl) rfl rfl ?_)) | with_reducible refine sq_norm ?_ | with_reducible refine wc_seq ?_ | with_reducible refine wc_region ?_ | with_reducible refine wc_ret ?_ | with_reducible refine wc_exit ?_ | with_reducible refine sq_exit ?_ | with_reducible refine lq_exit ?_ | refine bq_eq rfl ?_ | (refine wc_if rfl (fun hb => ?_) (fun hb => ?_) <;> (try simp only [decide_eq_true_eq, decide_eq_false_iff_not, Bool.not_eq_true', Bool.not_eq_false', Int.not_lt, Int.not_le, Decidable.not_not, not_true_eq_false, not_false_eq_true, beq_self_eq_true, reduceCtorEq] at hb) <;> (try (exfalso; omega))))
    refine rq1 rfl ⟨?_, rfl⟩
    rw [← hi, List.drop_eq_nil_of_le (by omega)]
    rfl
end Go.Proofs.YtnkmencbnoipmaaGreatDoor

/- The errors of lines by the reference. -/
namespace Go.Proofs.YtnkmencbnoipmaaGreatDoor
open Go Go.Ab Go.Fl
attribute [local irreducible] SeqQ BlkQ LpQ RetQ Wc Wo WD WX Op1 Op1q Op1a Cf Cl From
attribute [local irreducible] Ieee.Format.order Ieee.Format.read Ieee.Format.nearest Ieee.Format.write Ieee.Format.mul Ieee.Format.div Ieee.Format.sqrt Ieee.Datum.order Ieee.Datum.integral K U rngE errN cntE cmpI indE ptE plaE firstNZ numsE lnE BigP isNameB nmE ascA errL chgV chgE
set_option maxRecDepth 10000
variable {G : Base} {h : H}

set_option maxHeartbeats 8000000 in
theorem c15 {v : Value} {n : Nat} {ts : List LnM} (s : SlN G h v n ts) (hn : n < 1000000) (hr : ∀ t ∈ ts, t.V.rf.length < 1000000) (hnm : ∀ t ∈ ts, t.V.nm.size ≤ 1000000) (hw : Wf h) (hG : ∀ a v, laidBase a = some v → G a = some v) : Cf (mz G) (.func (.func 15) #[] #[]) [v] h fun r h' => r = .int .i64 (if 32 < n then 5 else linsE (vsOf ts) []) ∧ Grow h h' := by
  obtain ⟨a, c, rfl⟩ := s.sl.form
  have hlen := s.len
  by_cases h32 : 32 < n
  · rw [if_pos h32]
    refine cf_enter0 38 [.tmp 2] Tryz.func15 rfl rfl rfl rfl ?_
    repeat' (first | with_reducible refine wo_nil ?_ | ((with_reducible refine wo_any ?_); first | ((with_reducible refine ik_move ?_); refine wo_op rfl (op_move rfl) rfl rfl ?_) | ((with_reducible refine ik_assign ?_); refine wo_op rfl (op_assign rfl) rfl rfl ?_) | ((with_reducible refine ik_callb ?_); refine wo_op rfl (op_lenSl rfl Tryz.underlying26) rfl rfl ?_) | ((with_reducible refine ik_bin ?_); refine wo_op rfl (op_gtr rfl rfl) rfl rfl ?_)) | with_reducible refine sq_norm ?_ | with_reducible refine wc_seq ?_ | with_reducible refine wc_region ?_ | with_reducible refine wc_ret ?_ | with_reducible refine sq_ret ?_ | (refine wc_if rfl (fun hb => ?_) (fun hb => ?_) <;> (try simp only [decide_eq_true_eq, decide_eq_false_iff_not, Bool.not_eq_true', Bool.not_eq_false', Int.not_lt, Int.not_le, Decidable.not_not, not_true_eq_false, not_false_eq_true, beq_self_eq_true, reduceCtorEq] at hb) <;> (try (exfalso; omega))))
    exact rq1 rfl ⟨rfl, gr_A⟩
  · rw [if_neg h32]
    refine cf_enter0 38 [.tmp 2] Tryz.func15 rfl rfl rfl rfl ?_
    repeat' (first | with_reducible refine wo_nil ?_ | ((with_reducible refine wo_any ?_); first | ((with_reducible refine ik_move ?_); refine wo_op rfl (op_move rfl) rfl rfl ?_) | ((with_reducible refine ik_assign ?_); refine wo_op rfl (op_assign rfl) rfl rfl ?_) | ((with_reducible refine ik_callb ?_); refine wo_op rfl (op_lenSl rfl Tryz.underlying26) rfl rfl ?_) | ((with_reducible refine ik_bin ?_); refine wo_op rfl (op_gtr rfl rfl) rfl rfl ?_)) | with_reducible refine sq_norm ?_ | with_reducible refine wc_seq ?_ | with_reducible refine wc_region ?_ | with_reducible refine wc_skip ?_ | with_reducible refine wc_block ?_ | (refine wc_if rfl (fun hb => ?_) (fun hb => ?_) <;> (try simp only [decide_eq_true_eq, decide_eq_false_iff_not, Bool.not_eq_true', Bool.not_eq_false', Int.not_lt, Int.not_le, Decidable.not_not, not_true_eq_false, not_false_eq_true, beq_self_eq_true, reduceCtorEq] at hb) <;> (try (exfalso; omega))))
    refine wc_loop (fun p : Nat × Value => n - p.1) (fun p => [(0, .slice a n c), (3, p.2), (4, .int .i64 (p.1 : Nat))]) (fun p h' => (Wf h' ∧ Grow h h') ∧ p.1 ≤ n ∧ linsE (vsOf (ts.drop p.1)) (nmsOf (ts.take p.1)) = linsE (vsOf ts) [] ∧ ((p.2 = .slice none 0 0 ∧ p.1 = 0) ∨ ∃ e, h.nx ≤ e ∧ p.2 = .slice (some ⟨e, 0, some 0⟩) p.1 p.1 ∧ At h' e (.cells ((nmsOf (ts.take p.1)).map (.string ·)) 9 1 true))) (0, .slice none 0 0) (within_lk ⟨rfl, rfl, rfl, trivial⟩) ⟨⟨wf_A, gr_A⟩, Nat.zero_le _, rfl, .inl ⟨rfl, rfl⟩⟩ ?_
    rintro ⟨k, v⟩ h1 ⟨⟨w1, g1⟩, hk, hi, hv⟩
    simp only at hk hi hv ⊢
    have n1 := g1.nx
    by_cases hlt : k < n
    · obtain ⟨ad, i1, i3⟩ := slN_atG (s.grow g1) Tryz.underlying26 zs45 (i := (k : Int)) hlt rfl
      have ho := (s.grow g1).ok _ (List.getElem_mem (by omega : k < ts.length))
      have hr1 := hr _ (List.getElem_mem (by omega : k < ts.length))
      have hm1 := hnm _ (List.getElem_mem (by omega : k < ts.length))
      have e1 : nmsOf (ts.take (k + 1)) = nmsOf (ts.take k) ++ [(ts[k]'(by omega)).V.nm] := by
        unfold nmsOf; rw [List.take_succ_eq_append_getElem (by omega), List.map_append, List.map_singleton]
      have e2 : vsOf (ts.drop k) = (ts[k]'(by omega)).V :: vsOf (ts.drop (k + 1)) := by
        unfold vsOf; rw [List.drop_eq_getElem_cons (by omega), List.map_cons]
      rw [e2] at hi
      obtain ⟨t, ht⟩ : ∃ t, ts[k]'(by omega) = t := ⟨_, rfl⟩
      rw [ht] at i3 ho hr1 hm1 e1 hi
      obtain ⟨⟨nm, x, y, tx, ty, sh, nx, ny, px, py, ch, rf⟩, ta, tc⟩ := t
      obtain ⟨so⟩ := ho
      dsimp only [LnM.cells] at i3
      dsimp only at so hr1 hm1 e1 hi
      have htl : (nmsOf (ts.take k)).length = k := by unfold nmsOf; simp; omega
      obtain ⟨tl, he⟩ : ∃ tl, nmsOf (ts.take k) = tl := ⟨_, rfl⟩
      rw [he] at hv e1 hi htl
      rw [linsE] at hi
      rw [errL_eq] at hi
      have z0 : ∀ h', Grow h1 h' → acell G h' ad = some (.string nm) := fun h' g => (i3 h' g).get 0 _ (by simp)
      have q18 := fun (h' : H) (g : Grow h1 h') (w' : Wf h') => c18 (nm := nm) (x := x) (y := y) (tx := tx) (ty := ty) (sh := sh) (nx := nx) (ny := ny) (px := px) (py := py) (ch := ch) (so.grow g) hr1 hm1 w'
      obtain ⟨E, hE⟩ : ∃ E, lnE nm x y tx ty sh nx ny px py ch rf = E := ⟨_, rfl⟩
      rw [hE] at q18 hi
      have q71 := fun (h' : H) {v : Value} (s : Sl G h' 1 v k (tl.map (.string ·))) => c71 (w := nm) s (by omega)
      clear e2 ht hr hnm hE he hG hw
      rcases hv with ⟨rfl, rfl⟩ | ⟨e, hb, rfl, hat⟩
      · have htn : tl = [] := by simpa using htl
        subst htn
        by_cases hz : E = 0
        · subst hz
          rw [if_neg (by simp)] at hi
          cases hin : inL nm [] with
          | true =>
            rw [hin, if_pos rfl] at hi
            rw [← hi]
            rw [hin] at q71
            repeat' (first | with_reducible refine wo_nil ?_ | ((with_reducible refine wo_any ?_); first | ((with_reducible refine ik_move ?_); refine wo_op rfl (op_move rfl) rfl rfl ?_) | ((with_reducible refine ik_assign ?_); refine wo_op rfl (op_assign rfl) rfl rfl ?_) | ((with_reducible refine ik_indexAddr ?_); refine wo_op rfl (op_indexAddr rfl rfl i1) rfl rfl ?_) | ((with_reducible refine ik_load ?_); first | refine wo_op rfl (op_ldLn rfl Tryz.underlying45 rfl zs45 (i3 _ gr_A).all) rfl rfl ?_ | refine wo_op rfl (op_ldCell rfl Tryz.underlying9 rfl (z0 _ gr_A)) rfl rfl ?_) | ((with_reducible refine ik_callb ?_); refine wo_op rfl (op_lenSl rfl Tryz.underlying26) rfl rfl ?_) | ((with_reducible refine ik_bin ?_); first | refine wo_op rfl (op_lss rfl rfl) rfl rfl ?_ | refine wo_op rfl (op_neq rfl rfl) rfl rfl ?_) | ((with_reducible refine ik_fieldAddr ?_); refine wo_op rfl (op_fieldAddr (o := 0) rfl Tryz.underlying45 rfl zs9 rfl) rfl rfl ?_) | ((with_reducible refine ik_callv ?_); first | refine wo_op rfl (op_call rfl rfl (q71 _ .nil)) rfl rfl ?_ | (refine wo_call rfl rfl rfl rfl (q18 _ gr_A wf_A) rfl rfl ?_; rintro _ _ ⟨rfl, hq⟩; all_goals ((try (have hqn := hq.nx)); (try simp only [H.nx_push, H.nx_set, H.nx_bump] at hqn))))) | with_reducible refine sq_norm ?_ | with_reducible refine wc_seq ?_ | with_reducible refine wc_region ?_ | with_reducible refine wc_skip ?_ | with_reducible refine wc_ret ?_ | with_reducible refine wc_block ?_ | with_reducible refine bq_ret ?_ | with_reducible refine sq_ret ?_ | with_reducible refine lq_ret ?_ | refine wc_ift rfl ?_ | refine wc_iff rfl ?_ | (refine wc_if rfl (fun hb => ?_) (fun hb => dead_A hb); (try simp only [decide_eq_true_eq, decide_eq_false_iff_not, Bool.not_eq_true', Bool.not_eq_false', Int.not_lt, Int.not_le, Decidable.not_not, not_true_eq_false, not_false_eq_true, beq_self_eq_true, reduceCtorEq] at hb)))
            exact rq1 rfl ⟨rfl, gr_A⟩
          | false =>
            rw [hin, if_neg (by decide)] at hi
            rw [hin] at q71
            repeat' (first | with_reducible refine wo_nil ?_ | ((with_reducible refine wo_any ?_); first | ((with_reducible refine ik_move ?_); refine wo_op rfl (op_move rfl) rfl rfl ?_) | ((with_reducible refine ik_assign ?_); refine wo_op rfl (op_assign rfl) rfl rfl ?_) | ((with_reducible refine ik_indexAddr ?_); refine wo_op rfl (op_indexAddr rfl rfl i1) rfl rfl ?_) | ((with_reducible refine ik_load ?_); first | refine wo_op rfl (op_ldLn rfl Tryz.underlying45 rfl zs45 (i3 _ gr_A).all) rfl rfl ?_ | refine wo_op rfl (op_ldCell rfl Tryz.underlying9 rfl (z0 _ gr_A)) rfl rfl ?_) | ((with_reducible refine ik_callb ?_); first | refine wo_op rfl (op_append rfl rfl (append_nil_eq (M := mz G) (st := 117) (xt := 117) (m := 1) Tryz.underlying117 Tryz.underlying117 rfl zs9 zb9 zz9 rfl (Sl.ofAt at_A rfl (Nat.le_refl _)) rfl (by omega) (by omega))) rfl rfl ?_ | refine wo_op rfl (op_lenSl rfl Tryz.underlying26) rfl rfl ?_) | ((with_reducible refine ik_bin ?_); first | refine wo_op rfl (op_lss rfl rfl) rfl rfl ?_ | refine wo_op rfl (op_neq rfl rfl) rfl rfl ?_ | refine wo_op rfl (op_add' rfl rfl (w64 (by omega) (by omega))) rfl rfl ?_) | ((with_reducible refine ik_fieldAddr ?_); refine wo_op rfl (op_fieldAddr (o := 0) rfl Tryz.underlying45 rfl zs9 rfl) rfl rfl ?_) | ((with_reducible refine ik_buildSlice ?_); refine wo_op rfl (op_buildSl rfl Tryz.underlying117 zs9 zz9 rfl rfl) rfl rfl ?_) | ((with_reducible refine ik_callv ?_); first | refine wo_op rfl (op_call rfl rfl (q71 _ .nil)) rfl rfl ?_ | (refine wo_call rfl rfl rfl rfl (q18 _ gr_A wf_A) rfl rfl ?_; rintro _ _ ⟨rfl, hq⟩; all_goals ((try (have hqn := hq.nx)); (try simp only [H.nx_push, H.nx_set, H.nx_bump] at hqn))))) | with_reducible refine sq_norm ?_ | with_reducible refine wc_seq ?_ | with_reducible refine wc_region ?_ | with_reducible refine wc_skip ?_ | with_reducible refine wc_block ?_ | with_reducible refine bq_norm ?_ | refine wc_iff rfl ?_ | (refine wc_if rfl (fun hb => ?_) (fun hb => dead_A hb); (try simp only [decide_eq_true_eq, decide_eq_false_iff_not, Bool.not_eq_true', Bool.not_eq_false', Int.not_lt, Int.not_le, Decidable.not_not, not_true_eq_false, not_false_eq_true, beq_self_eq_true, reduceCtorEq] at hb)))
            exact lq_norm (0 + 1, .slice (some ⟨_, 0, some 0⟩) (0 + 1) (0 + 1)) (by simp only; omega) (within_lk ⟨rfl, rfl, rfl, trivial⟩) ⟨⟨wf_A, gr_A⟩, by simp only; omega, by simp only; rw [e1]; exact hi, .inr ⟨_, by simp only [H.nx_push, H.nx_set, H.nx_bump, H.nx_kill]; omega, rfl, by simp only; rw [e1]; simp only [List.map_append, List.map_cons, List.map_nil, List.nil_append]; exact at_A⟩⟩
        · rw [if_pos hz] at hi
          rw [← hi]
          repeat' (first | with_reducible refine wo_nil ?_ | ((with_reducible refine wo_any ?_); first | ((with_reducible refine ik_move ?_); refine wo_op rfl (op_move rfl) rfl rfl ?_) | ((with_reducible refine ik_assign ?_); refine wo_op rfl (op_assign rfl) rfl rfl ?_) | ((with_reducible refine ik_indexAddr ?_); refine wo_op rfl (op_indexAddr rfl rfl i1) rfl rfl ?_) | ((with_reducible refine ik_load ?_); refine wo_op rfl (op_ldLn rfl Tryz.underlying45 rfl zs45 (i3 _ gr_A).all) rfl rfl ?_) | ((with_reducible refine ik_callb ?_); refine wo_op rfl (op_lenSl rfl Tryz.underlying26) rfl rfl ?_) | ((with_reducible refine ik_bin ?_); first | refine wo_op rfl (op_lss rfl rfl) rfl rfl ?_ | refine wo_op rfl (op_neq rfl rfl) rfl rfl ?_) | ((with_reducible refine ik_callv ?_); (refine wo_call rfl rfl rfl rfl (q18 _ gr_A wf_A) rfl rfl ?_; rintro _ _ ⟨rfl, hq⟩; all_goals ((try (have hqn := hq.nx)); (try simp only [H.nx_push, H.nx_set, H.nx_bump] at hqn))))) | with_reducible refine sq_norm ?_ | with_reducible refine wc_seq ?_ | with_reducible refine wc_region ?_ | with_reducible refine wc_skip ?_ | with_reducible refine wc_ret ?_ | with_reducible refine wc_block ?_ | with_reducible refine bq_ret ?_ | with_reducible refine sq_ret ?_ | with_reducible refine lq_ret ?_ | (refine wc_if rfl (fun hb => ?_) (fun hb => dead_A hb); (try simp only [decide_eq_true_eq, decide_eq_false_iff_not, Bool.not_eq_true', Bool.not_eq_false', Int.not_lt, Int.not_le, Decidable.not_not, not_true_eq_false, not_false_eq_true, beq_self_eq_true, reduceCtorEq] at hb)))
          exact rq1 rfl ⟨rfl, gr_A⟩

      · have l1 := hat.lt
        by_cases hz : E = 0
        · subst hz
          rw [if_neg (by simp)] at hi
          cases hin : inL nm tl with
          | true =>
            rw [hin, if_pos rfl] at hi
            rw [← hi]
            rw [hin] at q71
            repeat' (first | with_reducible refine wo_nil ?_ | ((with_reducible refine wo_any ?_); first | ((with_reducible refine ik_move ?_); refine wo_op rfl (op_move rfl) rfl rfl ?_) | ((with_reducible refine ik_assign ?_); refine wo_op rfl (op_assign rfl) rfl rfl ?_) | ((with_reducible refine ik_indexAddr ?_); refine wo_op rfl (op_indexAddr rfl rfl i1) rfl rfl ?_) | ((with_reducible refine ik_load ?_); first | refine wo_op rfl (op_ldLn rfl Tryz.underlying45 rfl zs45 (i3 _ gr_A).all) rfl rfl ?_ | refine wo_op rfl (op_ldCell rfl Tryz.underlying9 rfl (z0 _ gr_A)) rfl rfl ?_) | ((with_reducible refine ik_callb ?_); refine wo_op rfl (op_lenSl rfl Tryz.underlying26) rfl rfl ?_) | ((with_reducible refine ik_bin ?_); first | refine wo_op rfl (op_lss rfl rfl) rfl rfl ?_ | refine wo_op rfl (op_neq rfl rfl) rfl rfl ?_) | ((with_reducible refine ik_fieldAddr ?_); refine wo_op rfl (op_fieldAddr (o := 0) rfl Tryz.underlying45 rfl zs9 rfl) rfl rfl ?_) | ((with_reducible refine ik_callv ?_); first | refine wo_op rfl (op_call rfl rfl (q71 _ (Sl.ofAt at_A (by simp; omega) (Nat.le_refl _)))) rfl rfl ?_ | (refine wo_call rfl rfl rfl rfl (q18 _ gr_A wf_A) rfl rfl ?_; rintro _ _ ⟨rfl, hq⟩; all_goals ((try (have hqn := hq.nx)); (try simp only [H.nx_push, H.nx_set, H.nx_bump] at hqn))))) | with_reducible refine sq_norm ?_ | with_reducible refine wc_seq ?_ | with_reducible refine wc_region ?_ | with_reducible refine wc_skip ?_ | with_reducible refine wc_ret ?_ | with_reducible refine wc_block ?_ | with_reducible refine bq_ret ?_ | with_reducible refine sq_ret ?_ | with_reducible refine lq_ret ?_ | refine wc_ift rfl ?_ | refine wc_iff rfl ?_ | (refine wc_if rfl (fun hb => ?_) (fun hb => dead_A hb); (try simp only [decide_eq_true_eq, decide_eq_false_iff_not, Bool.not_eq_true', Bool.not_eq_false', Int.not_lt, Int.not_le, Decidable.not_not, not_true_eq_false, not_false_eq_true, beq_self_eq_true, reduceCtorEq] at hb)))
            exact rq1 rfl ⟨rfl, gr_A⟩
          | false =>
            rw [hin, if_neg (by decide)] at hi
            rw [hin] at q71
            repeat' (first | with_reducible refine wo_nil ?_ | ((with_reducible refine wo_any ?_); first | ((with_reducible refine ik_move ?_); refine wo_op rfl (op_move rfl) rfl rfl ?_) | ((with_reducible refine ik_assign ?_); refine wo_op rfl (op_assign rfl) rfl rfl ?_) | ((with_reducible refine ik_indexAddr ?_); refine wo_op rfl (op_indexAddr rfl rfl i1) rfl rfl ?_) | ((with_reducible refine ik_load ?_); first | refine wo_op rfl (op_ldLn rfl Tryz.underlying45 rfl zs45 (i3 _ gr_A).all) rfl rfl ?_ | refine wo_op rfl (op_ldCell rfl Tryz.underlying9 rfl (z0 _ gr_A)) rfl rfl ?_) | ((with_reducible refine ik_callb ?_); first | refine wo_op rfl (op_append rfl rfl (append_own_eq (M := mz G) (st := 117) (xt := 117) (m := 1) Tryz.underlying117 Tryz.underlying117 rfl zs9 zb9 zz9 rfl (Sl.ofAt at_A rfl (Nat.le_refl _)) rfl (b := e) (c := tl.map (.string ·)) at_A (by simp; omega) (by omega) (by omega))) rfl rfl ?_ | refine wo_op rfl (op_lenSl rfl Tryz.underlying26) rfl rfl ?_) | ((with_reducible refine ik_bin ?_); first | refine wo_op rfl (op_lss rfl rfl) rfl rfl ?_ | refine wo_op rfl (op_neq rfl rfl) rfl rfl ?_ | refine wo_op rfl (op_add' rfl rfl (w64 (by omega) (by omega))) rfl rfl ?_) | ((with_reducible refine ik_fieldAddr ?_); refine wo_op rfl (op_fieldAddr (o := 0) rfl Tryz.underlying45 rfl zs9 rfl) rfl rfl ?_) | ((with_reducible refine ik_buildSlice ?_); refine wo_op rfl (op_buildSl rfl Tryz.underlying117 zs9 zz9 rfl rfl) rfl rfl ?_) | ((with_reducible refine ik_callv ?_); first | refine wo_op rfl (op_call rfl rfl (q71 _ (Sl.ofAt at_A (by simp; omega) (Nat.le_refl _)))) rfl rfl ?_ | (refine wo_call rfl rfl rfl rfl (q18 _ gr_A wf_A) rfl rfl ?_; rintro _ _ ⟨rfl, hq⟩; all_goals ((try (have hqn := hq.nx)); (try simp only [H.nx_push, H.nx_set, H.nx_bump] at hqn))))) | with_reducible refine sq_norm ?_ | with_reducible refine wc_seq ?_ | with_reducible refine wc_region ?_ | with_reducible refine wc_skip ?_ | with_reducible refine wc_block ?_ | with_reducible refine bq_norm ?_ | refine wc_iff rfl ?_ | (refine wc_if rfl (fun hb => ?_) (fun hb => dead_A hb); (try simp only [decide_eq_true_eq, decide_eq_false_iff_not, Bool.not_eq_true', Bool.not_eq_false', Int.not_lt, Int.not_le, Decidable.not_not, not_true_eq_false, not_false_eq_true, beq_self_eq_true, reduceCtorEq] at hb)))
            exact lq_norm (k + 1, .slice (some ⟨_, 0, some 0⟩) (k + 1) (k + 1)) (by simp only; omega) (within_lk ⟨rfl, rfl, rfl, trivial⟩) ⟨⟨wf_A, gr_A⟩, by simp only; omega, by simp only; rw [e1]; exact hi, .inr ⟨_, by simp only [H.nx_push, H.nx_set, H.nx_bump, H.nx_kill]; omega, rfl, by simp only; rw [e1]; simp only [List.map_append, List.map_cons, List.map_nil, List.nil_append]; exact at_A⟩⟩
        · rw [if_pos hz] at hi
          rw [← hi]
          repeat' (first | with_reducible refine wo_nil ?_ | ((with_reducible refine wo_any ?_); first | ((with_reducible refine ik_move ?_); refine wo_op rfl (op_move rfl) rfl rfl ?_) | ((with_reducible refine ik_assign ?_); refine wo_op rfl (op_assign rfl) rfl rfl ?_) | ((with_reducible refine ik_indexAddr ?_); refine wo_op rfl (op_indexAddr rfl rfl i1) rfl rfl ?_) | ((with_reducible refine ik_load ?_); refine wo_op rfl (op_ldLn rfl Tryz.underlying45 rfl zs45 (i3 _ gr_A).all) rfl rfl ?_) | ((with_reducible refine ik_callb ?_); refine wo_op rfl (op_lenSl rfl Tryz.underlying26) rfl rfl ?_) | ((with_reducible refine ik_bin ?_); first | refine wo_op rfl (op_lss rfl rfl) rfl rfl ?_ | refine wo_op rfl (op_neq rfl rfl) rfl rfl ?_) | ((with_reducible refine ik_callv ?_); (refine wo_call rfl rfl rfl rfl (q18 _ gr_A wf_A) rfl rfl ?_; rintro _ _ ⟨rfl, hq⟩; all_goals ((try (have hqn := hq.nx)); (try simp only [H.nx_push, H.nx_set, H.nx_bump] at hqn))))) | with_reducible refine sq_norm ?_ | with_reducible refine wc_seq ?_ | with_reducible refine wc_region ?_ | with_reducible refine wc_skip ?_ | with_reducible refine wc_ret ?_ | with_reducible refine wc_block ?_ | with_reducible refine bq_ret ?_ | with_reducible refine sq_ret ?_ | with_reducible refine lq_ret ?_ | (refine wc_if rfl (fun hb => ?_) (fun hb => dead_A hb); (try simp only [decide_eq_true_eq, decide_eq_false_iff_not, Bool.not_eq_true', Bool.not_eq_false', Int.not_lt, Int.not_le, Decidable.not_not, not_true_eq_false, not_false_eq_true, beq_self_eq_true, reduceCtorEq] at hb)))
          exact rq1 rfl ⟨rfl, gr_A⟩

    · have hkn : k = n := by omega
      subst hkn
      repeat' (first | with_reducible refine wo_nil ?_ | ((with_reducible refine wo_any ?_); first | ((with_reducible refine ik_move ?_); refine wo_op rfl (op_move rfl) rfl rfl ?_) | ((with_reducible refine ik_assign ?_); refine wo_op rfl (op_assign rfl) rfl rfl ?_) | ((with_reducible refine ik_callb ?_); refine wo_op rfl (op_lenSl rfl Tryz.underlying26) rfl rfl ?_) | ((with_reducible refine ik_bin ?_); refine wo_op rfl (op_lss rfl rfl) rfl rfl ?_)) | with_reducible refine sq_norm ?_ | with_reducible refine wc_seq ?_ | with_reducible refine wc_region ?_ | with_reducible refine wc_ret ?_ | with_reducible refine wc_exit ?_ | with_reducible refine sq_exit ?_ | with_reducible refine lq_exit ?_ | refine bq_eq rfl ?_ | (refine wc_if rfl (fun hb => ?_) (fun hb => ?_) <;> (try simp only [decide_eq_true_eq, decide_eq_false_iff_not, Bool.not_eq_true', Bool.not_eq_false', Int.not_lt, Int.not_le, Decidable.not_not, not_true_eq_false, not_false_eq_true, beq_self_eq_true, reduceCtorEq] at hb) <;> (try (exfalso; omega))))
      refine rq1 rfl ⟨?_, gr_A⟩
      rw [← hi, List.drop_eq_nil_of_le (by omega)]
      rfl
end Go.Proofs.YtnkmencbnoipmaaGreatDoor

/- Lines as the program's own. -/
namespace Go.Proofs.YtnkmencbnoipmaaGreatDoor
open Go Go.Ab Go.Fl
attribute [local irreducible] SeqQ BlkQ LpQ RetQ Wc Wo WD WX Op1 Op1q Op1a Cf Cl From
attribute [local irreducible] Ieee.Format.order Ieee.Format.read Ieee.Format.nearest Ieee.Format.write Ieee.Format.mul Ieee.Format.div Ieee.Format.sqrt Ieee.Datum.order Ieee.Datum.integral K U rngE errN cntE cmpI indE ptE plaE firstNZ numsE lnE BigP isNameB nmE ascA errL chgV chgE
set_option maxRecDepth 10000
variable {G : Base} {h : H}

end Go.Proofs.YtnkmencbnoipmaaGreatDoor
