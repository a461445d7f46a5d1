/- Survey: entries merged by the reference and by the program; a list of one's own shortened in place. -/
import Derived.Test.YtlioomhcdlicmaaGreatDoorC14
import Derived.Test.YtlioomhcdlicmaaGreatDoorC13
set_option linter.all false
/- Survey: entries merged by the reference; two ways to merge. -/
namespace Go.Proofs.YtlioomhcdlicmaaGreatDoor
open Go Go.Ab Go.Fl
attribute [local irreducible] SeqQ BlkQ LpQ RetQ Wc Wo WD WX Op1 Op1q Op1a Cf Cl From
attribute [local irreducible] Ieee.Format.order Ieee.Format.read Ieee.Format.nearest Ieee.Format.write Ieee.Format.mul Ieee.Format.div Ieee.Format.sqrt Ieee.Datum.order Ieee.Datum.integral K U rngE errN ptE firstNZ vesE watE sgE sgsE allE hitB sqD insB qsL lvl rn rl altB
set_option maxRecDepth 10000
variable {G : Base} {h : H}
def lm (e : En) : List En → List En
 | [] => [e]
 | x :: l => if x.c = e.c ∧ x.f = e.t then lm ⟨e.f, x.t, e.c⟩ l else e :: lm x l
def mgL : List En → List En
 | [] => []
 | e :: l => lm e l
def rm : List En → List En
 | [] => []
 | e :: l => match rm l with
   | [] => [e]
   | x :: r => if x.c = e.c ∧ x.f = e.t then ⟨e.f, x.t, e.c⟩ :: r else e :: x :: r
theorem rm_cons (e : En) (l : List En) : ∃ z r, rm (e :: l) = ⟨e.f, z, e.c⟩ :: r ∧ ∀ f : Int, rm (⟨f, e.t, e.c⟩ :: l) = ⟨f, z, e.c⟩ :: r := by
 cases h : rm l with
 | nil => exact ⟨e.t, [], by simp only [rm, h], fun f => by simp only [rm, h]⟩
 | cons x r =>
   by_cases q : x.c = e.c ∧ x.f = e.t
   · exact ⟨x.t, r, by simp only [rm, h, if_pos q], fun f => by simp only [rm, h, if_pos q]⟩
   · exact ⟨e.t, x :: r, by simp only [rm, h, if_neg q], fun f => by simp only [rm, h, if_neg q]⟩
theorem lm_rm : ∀ (l : List En) (e : En), lm e l = rm (e :: l)
 | [], e => rfl
 | x :: l, e => by
   obtain ⟨z, r, h1, h2⟩ := rm_cons x l
   have e1 : rm (e :: x :: l) = if x.c = e.c ∧ x.f = e.t then ⟨e.f, z, e.c⟩ :: r else e :: ⟨x.f, z, x.c⟩ :: r := by
     rw [rm, h1]
   rw [lm, e1]
   by_cases q : x.c = e.c ∧ x.f = e.t
   · rw [if_pos q, if_pos q, lm_rm l ⟨e.f, x.t, e.c⟩, ← q.1]
     exact h2 e.f
   · rw [if_neg q, if_neg q, lm_rm l x, h1]
theorem mgL_rm (l : List En) : mgL l = rm l := by
 cases l with
 | nil => rfl
 | cons e l => exact lm_rm l e
theorem lm_le : ∀ (l : List En) (e : En), (lm e l).length ≤ l.length + 1
 | [], e => by simp [lm]
 | x :: l, e => by
   rw [lm]
   split
   · have := lm_le l ⟨e.f, x.t, e.c⟩; simp only [List.length_cons]; omega
   · have := lm_le l x; simp only [List.length_cons]; omega
theorem mg_le (l : List En) : (mgL l).length ≤ l.length := by
 cases l with
 | nil => exact Nat.le_refl _
 | cons e l => exact lm_le l e
/- Survey: an entry that extends another; one's own list sliced, shortened in place and cleared. -/
theorem op_slcOwn {l : KL} {h : H} {x y z : Operand} {b n c lo hi : Nat} {A B : Int} {cs : List Value} {sf : Bool} (hx : val l x = some (.slice (some ⟨b, 0, some 0⟩) n c)) (hy : val l y = some (.int .i64 A)) (hz : val l z = some (.int .i64 B)) (hA : A = (lo : Int)) (hB : B = (hi : Int)) (h1 : lo ≤ hi) (h2 : hi ≤ c) (h3 : lo < c) (hat : At h b (.cells cs 133 3 sf)) :
   Op1 (mz G) (.slice 85 x (some y) (some z) none) l h (.slice (some ⟨b, lo * 3, some 0⟩) (hi - lo) (c - lo)) h := by
 subst hA hB
 refine op_slice (a := some (.int .i64 lo)) (b := some (.int .i64 hi)) (c := none) hx (by simp only [optV, hy]) (by simp only [optV, hz]) rfl ?_
 have hb0 : Nat.beq c lo = false := by rw [beq_dec]; simp; omega
 have hd : (decide ((0 : Int) ≤ (c : Int) ∧ (c : Int) ≤ c) && decide ((0 : Int) ≤ (hi : Int) ∧ (hi : Int) ≤ (c : Int)) && decide ((0 : Int) ≤ (lo : Int) ∧ (lo : Int) ≤ (hi : Int))) = true := by
   simp only [Bool.and_eq_true, decide_eq_true_eq]; omega
 have zz : tsz Tryz.prog 133 = some 3 := bt_
 show aslice Tryz.prog h 85 _ _ _ _ = _
 simp only [aslice, Tryz.underlying85, zz, optInt, asInt?, Option.isNone_none, Bool.true_or, hd, Int.toNat_natCast, hb0, hat.get, bC_]
 simp [aadd]
theorem op_slcOwn3 {l : KL} {h : H} {x y z w : Operand} {b n c lo hi m : Nat} {A B C : Int} {cs : List Value} {sf : Bool} (hx : val l x = some (.slice (some ⟨b, 0, some 0⟩) n c)) (hy : val l y = some (.int .i64 A)) (hz : val l z = some (.int .i64 B)) (hw : val l w = some (.int .i64 C)) (hA : A = (lo : Int)) (hB : B = (hi : Int)) (hC : C = (m : Int)) (h1 : lo ≤ hi) (h2 : hi ≤ m) (h3 : lo < m) (h4 : m ≤ c) (hat : At h b (.cells cs 133 3 sf)) :
   Op1 (mz G) (.slice 85 x (some y) (some z) (some w)) l h (.slice (some ⟨b, lo * 3, some 0⟩) (hi - lo) (m - lo)) h := by
 subst hA hB hC
 refine op_slice (a := some (.int .i64 lo)) (b := some (.int .i64 hi)) (c := some (.int .i64 m)) hx (by simp only [optV, hy]) (by simp only [optV, hz]) (by simp only [optV, hw]) ?_
 have hb0 : Nat.beq m lo = false := by rw [beq_dec]; simp; omega
 have hd : (decide ((0 : Int) ≤ (m : Int) ∧ (m : Int) ≤ c) && decide ((0 : Int) ≤ (hi : Int) ∧ (hi : Int) ≤ (m : Int)) && decide ((0 : Int) ≤ (lo : Int) ∧ (lo : Int) ≤ (hi : Int))) = true := by
   simp only [Bool.and_eq_true, decide_eq_true_eq]; omega
 have zz : tsz Tryz.prog 133 = some 3 := bt_
 show aslice Tryz.prog h 85 _ _ _ _ = _
 simp only [aslice, Tryz.underlying85, zz, optInt, asInt?, Option.isSome_some, Bool.or_true, hd, Int.toNat_natCast, hb0, hat.get, bC_]
 simp [aadd]
theorem op_slcOwnH {l : KL} {h : H} {x z : Operand} {b n c hi : Nat} {B : Int} {cs : List Value} {sf : Bool} (hx : val l x = some (.slice (some ⟨b, 0, some 0⟩) n c)) (hz : val l z = some (.int .i64 B)) (hB : B = (hi : Int)) (h2 : hi ≤ c) (h3 : 0 < c) (hat : At h b (.cells cs 133 3 sf)) :
   Op1 (mz G) (.slice 85 x none (some z) none) l h (.slice (some ⟨b, 0, some 0⟩) hi c) h := by
 subst hB
 refine op_slice (a := none) (b := some (.int .i64 hi)) (c := none) hx rfl (by simp only [optV, hz]) rfl ?_
 have hb0 : Nat.beq c 0 = false := by rw [beq_dec]; simp; omega
 have hd : (decide ((0 : Int) ≤ (c : Int) ∧ (c : Int) ≤ c) && decide ((0 : Int) ≤ (hi : Int) ∧ (hi : Int) ≤ (c : Int)) && decide ((0 : Int) ≤ (0 : Int) ∧ (0 : Int) ≤ (hi : Int))) = true := by
   simp only [Bool.and_eq_true, decide_eq_true_eq]; omega
 have zz : tsz Tryz.prog 133 = some 3 := bt_
 show aslice Tryz.prog h 85 _ _ _ _ = _
 simp only [aslice, Tryz.underlying85, zz, optInt, asInt?, Option.isNone_none, Bool.true_or, hd, Int.toNat_natCast, Int.toNat_zero, hb0, hat.get, bC_]
 simp [aadd]
theorem op_slcLoG {M : Mc} {l : KL} {h : H} {x : Operand} {t e : TypeId} {n es : Nat} {a : Option Addr} {c : Nat} {L : List Value} {lo : Nat} {k : IntKind} {A : Int} {xa : Operand} (hx : val l x = some (.slice a n c)) (hxa : val l xa = some (.int k A)) (sl : Sl M.G h es (.slice a n c) n L) (hu : M.P.underlying t = some (.slice e)) (hn : tsz M.P e = some es) (h1 : lo ≤ n) (hA : A = (lo : Int)) :
   Op1 M (.slice t x (some xa) none none) l h (.slice (cutA es a c lo) (n - lo) (c - lo)) h :=
 op_slice (a := some (.int k A)) (b := none) hx (by simp only [optV, hxa]) rfl rfl (by
   have := sl.slice hu hn h1 (Nat.le_refl n) (k := k) (k' := .i64) hA rfl
   rw [← this]; unfold aslice; rw [hu]; rfl)
theorem app_in {h : H} {b c i m : Nat} {cs new : List Value} {sf : Bool} {w : Value} (hat : At h b (.cells cs 133 3 sf)) (hc : cs.length = c * 3) (sl : Sl G h 3 w m new) (hone : new.all one = true) (him : i + m ≤ c) (hm : m ≠ 0) (hn : c < 1000000) :
   aappend (mz G).P (mz G).G h 85 85 (.slice (some ⟨b, 0, some 0⟩) i c) w = some (.slice (some ⟨b, 0, some 0⟩) (i + m) c, h.set b (.cells (cs.take (i * 3) ++ (new ++ cs.drop (i * 3 + m * 3))) 133 3 sf)) := by
 have hlen := sl.length
 obtain ⟨wa, wc, rfl⟩ := sl.form
 have hf : afirst (mz G).G h 3 m (.slice wa m wc) = some new := sl.first
 have z1 : tsz (mz G).P 133 = some 3 := bt_
 obtain ⟨by', z2⟩ : ∃ k, tby (mz G).P 133 = some k := ⟨_, zb133⟩
 obtain ⟨z', z3⟩ : ∃ k, tzero (mz G).P 133 = some k := ⟨_, zz133⟩
 have zb : tby (mz G).P 133 = some _ := zb133
 have zz : tzero (mz G).P 133 = some _ := zz133
 have han : anews (mz G).P (mz G).G h 85 3 z'.cells.toList (.slice wa m wc) = some (m, new) := by
   unfold anews
   rw [show (mz G).P.underlying 85 = _ from Tryz.underlying85]
   simp only [alen, hf]
 cases zb.symm.trans z2
 cases zz.symm.trans z3
 unfold aappend
 have hb0 : Nat.ble (i + m) c = true := by rw [cD_]; simp; omega
 have hb1 : Nat.beq m 0 = false := by rw [beq_dec]; simp; omega
 have hb2 : ∀ k : Nat, k ≤ 64 → Nat.ble ((i + m) * k) 70368744177664 = true := fun k hk => by
   rw [cD_, decide_eq_true_eq]
   exact Nat.le_trans (Nat.mul_le_mul (show i + m ≤ 1000000 by omega) hk) (by decide)
 simp only [show (mz G).P.underlying 85 = _ from Tryz.underlying85, z1, zb, zz, han, hb0, hb1, hone, hlen, bC_, hb2 _ (show 32 ≤ 64 by decide)]
 simp only [asto, aadd, hat.get, Nat.zero_add]
 have h1 : Nat.ble (i * 3 + m * 3) cs.length = true := by rw [cD_, hc, decide_eq_true_eq]; omega
 simp [hone, hlen, gd]
 simp only [h1]
 rfl
theorem clear1 {h : H} {b c i k : Nat} {cs : List Value} {sf : Bool} (hat : At h b (.cells cs 133 3 sf)) (hc : cs.length = c * 3) (hi : i < c) : aclear (mz G).P h 85 (.slice (some ⟨b, i * 3, some 0⟩) (0 + 1) k) = some (h.set b (.cells (cs.take (i * 3) ++ ([.int .i64 0, .int .i64 0, .string .empty] ++ cs.drop (i * 3 + 3))) 133 3 sf)) := by
 have zz : tzero Tryz.prog 133 = some _ := zz133
 show aclear Tryz.prog h 85 _ = _
 unfold aclear
 simp only [Tryz.underlying85, zz]
 show (match gd (Value.agg #[.int .i64 0, .int .i64 0, .string .empty]) with | true => asto h ⟨b, i * 3, some 0⟩ [.int .i64 0, .int .i64 0, .string .empty] | false => none) = _
 simp only [show gd (Value.agg #[.int .i64 0, .int .i64 0, .string .empty]) = true from rfl]
 unfold asto
 have h1 : Nat.ble (i * 3 + 3) cs.length = true := by rw [cD_, hc, decide_eq_true_eq]; omega
 have h2 : [Value.int .i64 0, .int .i64 0, .string .empty].all one = true := rfl
 have h3 : [Value.int .i64 0, .int .i64 0, .string .empty].length = 3 := rfl
 simp only [hat.get, h1, h2, h3, Bool.and_self]
def extE (x y : En) : Bool := decide (x.c = y.c) && decide (x.f = y.t)
set_option maxHeartbeats 4000000 in
theorem c106 {x y : En} (hw : Wf h) : Cf (mz G) (.func (.func 106) #[] #[]) [.agg ⟨x.cells⟩, .agg ⟨y.cells⟩] h fun r h' => r = .bool (extE x y) ∧ Grow h h' := by
 obtain ⟨f, t, a⟩ := x
 obtain ⟨f', t', b⟩ := y
 unfold extE
 dsimp only [En.cells]
 by_cases hab : a = b
 · rw [decide_eq_true hab, Bool.true_and]
   refine ak_ 19 [.tmp 4] Tryz.func106 rfl rfl rfl rfl ?_
   repeat' (first | with_reducible refine ad_ ?_ | ((with_reducible refine ac_ ?_); first | ((with_reducible refine bG_ ?_); refine aq_ (op_seqE rfl rfl hab) ?_) | ((with_reducible refine al_ ?_); refine aq_ (ae_ rfl ah_ Tryz.underlying9 rfl rfl) ?_) | ((with_reducible refine cC_ ?_); first | ((with_reducible refine bB_ ?_); refine ai_ rfl rfl rfl (op_eql rfl rfl) rfl rfl ?_) | ((with_reducible refine bc_ ?_); first | refine ai_ rfl rfl rfl (ab_ (o := 0) rfl Tryz.underlying133 rfl zs79 rfl) rfl rfl ?_ | refine ai_ rfl rfl rfl (ab_ (o := 0) rfl Tryz.underlying79 rfl zs3 rfl) rfl rfl ?_ | refine ai_ rfl rfl rfl (ab_ (o := 1) rfl Tryz.underlying79 rfl zs3 rfl) rfl rfl ?_) | ((with_reducible refine bF_ ?_); refine ai_ rfl rfl rfl (ae_ rfl ah_ Tryz.underlying3 rfl rfl) rfl rfl ?_)) | refine ao_ ?_) | refine ap_ ?_)
   all_goals exact rq1 rfl ⟨by first | (congr 1; simp; omega) | (congr 1; exact (decide_eq_true (by omega)).symm) | (congr 1; exact (decide_eq_false (by omega)).symm) | rfl, au_⟩
 · rw [decide_eq_false hab, Bool.false_and]
   refine ak_ 19 [.tmp 4] Tryz.func106 rfl rfl rfl rfl ?_
   repeat' (first | with_reducible refine ad_ ?_ | ((with_reducible refine ac_ ?_); first | ((with_reducible refine bG_ ?_); refine aq_ (op_seqN rfl rfl hab) ?_) | ((with_reducible refine al_ ?_); refine aq_ (ae_ rfl ah_ Tryz.underlying9 rfl rfl) ?_) | ((with_reducible refine cC_ ?_); refine bn_ rfl rfl rfl rfl rfl rfl ?_) | refine ao_ ?_) | refine ap_ ?_)
   exact rq1 rfl ⟨rfl, au_⟩
/- Survey: one entry deleted from a list of one's own. -/
theorem flat_dropL {α : Type} {f : α → List Value} {w : Nat} (hf : ∀ a, (f a).length = w) : ∀ (l : List α) (k : Nat), (l.flatMap f).drop (k * w) = (l.drop k).flatMap f
 | [], k => by simp
 | x :: l, 0 => by simp
 | x :: l, k + 1 => by
   rw [List.drop_succ_cons, List.flatMap_cons, ← flat_dropL hf l k, List.drop_append, List.drop_eq_nil_of_le (by rw [hf]; exact Nat.le_mul_of_pos_left _ (by omega)), hf, Nat.succ_mul, Nat.add_sub_cancel, List.nil_append]
theorem flat_takeL {α : Type} {f : α → List Value} {w : Nat} (hf : ∀ a, (f a).length = w) : ∀ (l : List α) (k : Nat), (l.flatMap f).take (k * w) = (l.take k).flatMap f
 | [], k => by simp
 | x :: l, 0 => by simp
 | x :: l, k + 1 => by
   rw [List.take_succ_cons, List.flatMap_cons, List.flatMap_cons, ← flat_takeL hf l k, List.take_append, List.take_of_length_le (by rw [hf]; exact Nat.le_mul_of_pos_left _ (by omega)), hf, Nat.succ_mul, Nat.add_sub_cancel]
theorem En.ones (l : List En) : (l.flatMap En.cells).all one = true := by
 induction l with
 | nil => rfl
 | cons x l ih => rw [List.flatMap_cons, List.all_append, ih]; rfl
theorem own_pre {h : H} {b c m : Nat} {L : List En} {sf : Bool} (hat : At h b (.cells (L.flatMap En.cells) 133 3 sf)) (hc : L.length = c) (hm : m ≤ c) (h0 : 0 < c) : Sl G h 3 (.slice (some ⟨b, 0, some 0⟩) m c) m ((L.take m).flatMap En.cells) := by
 have s : Sl G h 3 (.slice (some ⟨b, 0, some 0⟩) c c) c (L.flatMap En.cells) := Sl.ofAt hat (by rw [En.flat, hc]) (Nat.le_refl _)
 have q := s.part (Nat.zero_le m) hm
 have hb0 : Nat.beq c 0 = false := by rw [beq_dec]; simp; omega
 simp only [Nat.zero_mul, List.drop_zero, cutA, hb0, aadd, Nat.sub_zero, Nat.add_zero] at q
 rw [flat_takeL En.len] at q
 exact q
theorem own_post {h : H} {b c m j : Nat} {L : List En} {sf : Bool} (hat : At h b (.cells (L.flatMap En.cells) 133 3 sf)) (hc : L.length = c) (hm : m ≤ c) (h0 : 0 < c) (hj : j ≤ m) : Sl G h 3 (.slice (cutA 3 (some ⟨b, 0, some 0⟩) c j) (m - j) (c - j)) (m - j) (((L.take m).drop j).flatMap En.cells) := by
 have q := (own_pre (G := G) hat hc hm h0).part hj (Nat.le_refl m)
 rw [flat_dropL En.len, flat_takeL En.len, List.take_of_length_le (by rw [List.length_drop, List.length_take]; omega)] at q
 exact q
theorem app_in0 {h : H} {b c i : Nat} {w : Value} (sl : Sl G h 3 w 0 []) (hi : i ≤ c) (hn : c < 1000000) :
   aappend (mz G).P (mz G).G h 85 85 (.slice (some ⟨b, 0, some 0⟩) i c) w = some (.slice (some ⟨b, 0, some 0⟩) i c, h) := by
 obtain ⟨wa, wc, rfl⟩ := sl.form
 have hf : afirst (mz G).G h 3 0 (.slice wa 0 wc) = some [] := sl.first
 have z1 : tsz (mz G).P 133 = some 3 := bt_
 have zb : tby (mz G).P 133 = some _ := zb133
 have zz : tzero (mz G).P 133 = some _ := zz133
 have han : ∀ z : Value, anews (mz G).P (mz G).G h 85 3 z.cells.toList (.slice wa 0 wc) = some (0, []) := fun z => by
   unfold anews
   rw [show (mz G).P.underlying 85 = _ from Tryz.underlying85]
   simp only [alen, hf]
 unfold aappend
 have hb0 : Nat.ble (i + 0) c = true := by rw [cD_]; simp; omega
 have hb2 : Nat.ble ((i + 0) * 32) 70368744177664 = true := by
   rw [cD_, decide_eq_true_eq]; omega
 simp only [show (mz G).P.underlying 85 = _ from Tryz.underlying85, z1, zb, zz, han, hb0, hb2]
 rfl
theorem clearE {h : H} {b c i w k : Nat} {L : List En} {sf : Bool} (hat : At h b (.cells (L.flatMap En.cells) 133 3 sf)) (hc : L.length = c) (hi : i < c) (hw : w = 1) : aclear (mz G).P h 85 (.slice (some ⟨b, i * 3, some 0⟩) w k) = some (h.set b (.cells ((L.take i ++ ⟨0, 0, .empty⟩ :: L.drop (i + 1)).flatMap En.cells) 133 3 sf)) := by
 subst hw
 rw [show (1 : Nat) = 0 + 1 from rfl, clear1 hat (by rw [En.flat, hc]) hi, flat_takeL En.len, show i * 3 + 3 = (i + 1) * 3 by omega, flat_dropL En.len, List.flatMap_append, List.flatMap_cons]
theorem appE {h : H} {b c i m : Nat} {L N : List En} {sf : Bool} {w : Value} (hat : At h b (.cells (L.flatMap En.cells) 133 3 sf)) (hc : L.length = c) (sl : Sl G h 3 w m (N.flatMap En.cells)) (him : i + m ≤ c) (hm : m ≠ 0) (hn : c < 1000000) :
   aappend (mz G).P (mz G).G h 85 85 (.slice (some ⟨b, 0, some 0⟩) i c) w = some (.slice (some ⟨b, 0, some 0⟩) (i + m) c, h.set b (.cells ((L.take i ++ (N ++ L.drop (i + m))).flatMap En.cells) 133 3 sf)) := by
 rw [app_in hat (by rw [En.flat, hc]) sl (En.ones N) him hm hn, flat_takeL En.len, ← Nat.add_mul, flat_dropL En.len, List.flatMap_append, List.flatMap_append]
set_option maxHeartbeats 8000000 in
theorem c107 {b c m i : Nat} {L : List En} {sf : Bool} (hat : At h b (.cells (L.flatMap En.cells) 133 3 sf)) (hc : L.length = c) (hm : m ≤ c) (hi : i < m) (hn : c < 1000000) (hw : Wf h) :
   Cf (mz G) (.func (.func 107) #[] #[]) [.slice (some ⟨b, 0, some 0⟩) m c, .int .i64 (i : Nat), .int .i64 ((i : Int) + 1)] h fun r h' => r = .slice (some ⟨b, 0, some 0⟩) (m - 1) c ∧ Keep1 b h h' ∧ Wf h' ∧ ∃ L' : List En, L'.length = c ∧ At h' b (.cells (L'.flatMap En.cells) 133 3 sf) ∧ L'.take (m - 1) = L.take i ++ (L.take m).drop (i + 1) := by
 have lb := hat.lt
 have hfl : (L.flatMap En.cells).length = c * 3 := by rw [En.flat, hc]
 have sp := fun (h' : H) (g : Grow h h') => own_pre (G := G) (hat.grow g) hc hm (by omega)
 have sq := fun (h' : H) (g : Grow h h') => own_post (G := G) (j := i + 1) (hat.grow g) hc hm (by omega) (by omega)
 by_cases hl : i + 1 = m
 · subst hl
   have e1 : ((L.take (i + 1)).drop (i + 1)) = [] := List.drop_eq_nil_of_le (by simp; omega)
   have sq : ∀ (h' : H), Grow h h' → Sl G h' 3 (.slice (cutA 3 (some ⟨b, 0, some 0⟩) c (i + 1)) (i + 1 - (i + 1)) (c - (i + 1))) 0 [] := fun h' g => by
     have q := sq h' g
     rw [e1] at q
     have e2 : i + 1 - (i + 1) = 0 := by omega
     rw [e2] at q ⊢
     exact q
   simp only [e1, List.append_nil, Nat.add_sub_cancel]
   refine ak_ 33 [.tmp 6] Tryz.func107 rfl rfl rfl rfl ?_
   repeat' (first | with_reducible refine ad_ ?_ | ((with_reducible refine ac_ ?_); first | ((with_reducible refine ik_slice ?_); first | refine aq_ (op_slcOwn3 (lo := i) (hi := i + 1) (m := i + 1) rfl rfl rfl rfl rfl rfl rfl (by omega) (by omega) (by omega) (by omega) ah_) ?_ | refine aq_ (op_slcOwn (lo := i) (hi := i + 1) rfl rfl rfl rfl rfl (by omega) (by omega) (by omega) ah_) ?_) | ((with_reducible refine av_ ?_); refine aq_ (ax_ rfl Tryz.underlying85) ?_) | refine ao_ ?_) | ((with_reducible refine bb_ ?_); ((with_reducible refine bd_ ?_); first | ((with_reducible refine ba_ ?_); refine aH_ (aa_ rfl) rfl rfl (ar_ rfl (aD_ rfl)) rfl rfl rfl ?_) | ((with_reducible refine bm_ ?_); refine aH_ (aa_ rfl) rfl rfl (ar_ rfl (aW_ rfl)) rfl rfl rfl ?_) | ((with_reducible refine xk_slice ?_); first | refine aO_ (aa_ rfl) rfl (ar_ rfl (op_slcOwnH (hi := i) rfl rfl rfl (by omega) (by omega) ah_)) rfl rfl rfl ?_ | refine aO_ (aa_ rfl) rfl (ar_ rfl (op_slcLoG (lo := i + 1) rfl rfl (sp _ au_) Tryz.underlying85 bt_ (by omega) rfl)) rfl rfl rfl ?_) | ((with_reducible refine xk_callb ?_); refine wx_ee (aa_ rfl) rfl rfl (bl_ rfl rfl (app_in0 (sq _ au_) (by omega) hn)) rfl rfl ?_) | with_reducible refine bj_ ?_ ?_)) | with_reducible exact aP_ | with_reducible refine aJ_ ?_ ?_ | ((with_reducible refine bi_ ?_); first | exact aS_ | refine aQ_ rfl ?_ | refine am_ rfl rfl (ar_ rfl (op_slcOwnH (hi := i) rfl rfl rfl (by omega) (by omega) ah_)) ?_ | refine am_ rfl rfl (ar_ rfl (op_slcLoG (lo := i + 1) rfl rfl (sp _ au_) Tryz.underlying85 bt_ (by omega) rfl)) ?_) | refine ap_ ?_ | (refine aG_ rfl (fun hb => aw_ hb) (fun hb => ?_); (try simp only [aX_, reduceCtorEq] at hb)) | refine aF_ (id := 5) 8 [0, 0, 3, 0, 0, 24, 63, 127] [0, 1, 2, 3, 4, 5, 6, 7] (by kernel_rfl) (by kernel_rfl) rfl rfl ?_ | ((with_reducible refine ac_ ?_); (with_reducible refine av_ ?_); refine bQ_ (op_clear rfl (clearE (i := i) ah_ hc (by omega) (by omega))) ?_))
   refine rq1 rfl ⟨rfl, (Keep1.refl.grow au_).set lt_A _, aA_, _, ?_, ah_, ?_⟩
   · simp only [List.length_append, List.length_cons, List.length_take, List.length_drop]; omega
   · rw [List.take_append_of_le_length (by rw [List.length_take]; omega), List.take_take, Nat.min_self]
 · obtain ⟨N, hN⟩ : ∃ N, (L.take m).drop (i + 1) = N := ⟨_, rfl⟩
   have hNl : N.length = m - (i + 1) := by rw [← hN, List.length_drop, List.length_take]; omega
   obtain ⟨k, hk⟩ : ∃ k, m - (i + 1) = k := ⟨_, rfl⟩
   rw [hN, hk] at sq
   rw [hk] at hNl
   rw [hN]
   clear hN
   have h1c : (L.take i ++ (N ++ L.drop (i + k))).length = c := by
     simp only [List.length_append, List.length_take, List.length_drop]; omega
   have hv : ∀ h' : H, Grow h h' → aappend (mz G).P (mz G).G h' 85 85 (.slice (some ⟨b, 0, some 0⟩) i c) (.slice (cutA 3 (some ⟨b, 0, some 0⟩) c (i + 1)) (m - (i + 1)) (c - (i + 1))) = some (.slice (some ⟨b, 0, some 0⟩) (i + k) c, h'.set b (.cells ((L.take i ++ (N ++ L.drop (i + k))).flatMap En.cells) 133 3 sf)) := fun h' g => by
     rw [hk]
     exact appE (hat.grow g) hc (sq h' g) (by omega) (by omega) hn
   refine ak_ 33 [.tmp 6] Tryz.func107 rfl rfl rfl rfl ?_
   repeat' (first | with_reducible refine ad_ ?_ | ((with_reducible refine ac_ ?_); first | ((with_reducible refine ik_slice ?_); first | refine aq_ (op_slcOwn3 (lo := i) (hi := i + 1) (m := m) rfl rfl rfl rfl rfl rfl rfl (by omega) (by omega) (by omega) (by omega) ah_) ?_ | refine aq_ (op_slcOwn (lo := i + k) (hi := m) rfl rfl rfl rfl rfl (by omega) (by omega) (by omega) ah_) ?_) | ((with_reducible refine av_ ?_); refine aq_ (ax_ rfl Tryz.underlying85) ?_) | refine ao_ ?_) | ((with_reducible refine bb_ ?_); ((with_reducible refine bd_ ?_); first | ((with_reducible refine ba_ ?_); refine aH_ (aa_ rfl) rfl rfl (ar_ rfl (aD_ rfl)) rfl rfl rfl ?_) | ((with_reducible refine bm_ ?_); refine aH_ (aa_ rfl) rfl rfl (ar_ rfl (aW_ rfl)) rfl rfl rfl ?_) | ((with_reducible refine xk_slice ?_); first | refine aO_ (aa_ rfl) rfl (ar_ rfl (op_slcOwnH (hi := i) rfl rfl rfl (by omega) (by omega) ah_)) rfl rfl rfl ?_ | refine aO_ (aa_ rfl) rfl (ar_ rfl (op_slcLoG (lo := i + 1) rfl rfl (sp _ au_) Tryz.underlying85 bt_ (by omega) rfl)) rfl rfl rfl ?_) | ((with_reducible refine xk_callb ?_); refine wx_ee (aa_ rfl) rfl rfl (bl_ rfl rfl (hv _ au_)) rfl rfl ?_) | with_reducible refine bj_ ?_ ?_)) | with_reducible exact aP_ | with_reducible refine aJ_ ?_ ?_ | ((with_reducible refine bi_ ?_); first | exact aS_ | refine aQ_ rfl ?_ | refine am_ rfl rfl (ar_ rfl (op_slcOwnH (hi := i) rfl rfl rfl (by omega) (by omega) ah_)) ?_ | refine am_ rfl rfl (ar_ rfl (op_slcLoG (lo := i + 1) rfl rfl (sp _ au_) Tryz.underlying85 bt_ (by omega) rfl)) ?_) | refine ap_ ?_ | (refine aG_ rfl (fun hb => aw_ hb) (fun hb => ?_); (try simp only [aX_, reduceCtorEq] at hb)) | refine aF_ (id := 5) 8 [0, 0, 3, 0, 0, 24, 63, 127] [0, 1, 2, 3, 4, 5, 6, 7] (by kernel_rfl) (by kernel_rfl) rfl rfl ?_ | ((with_reducible refine ac_ ?_); (with_reducible refine av_ ?_); refine bQ_ (op_clear rfl (clearE (i := i + k) ah_ h1c (by omega) (by omega))) ?_))
   refine rq1 rfl ⟨by congr 1; omega, ((Keep1.refl.grow au_).set lt_A _).set lt_A _, aA_, _, ?_, ah_, ?_⟩
   · simp only [List.length_append, List.length_cons, List.length_take, List.length_drop]; omega
   · rw [show m - 1 = i + k by omega, List.take_append_of_le_length (by rw [List.length_take, h1c]; omega), List.take_take, Nat.min_self, ← List.append_assoc, List.take_append_of_le_length (by simp only [List.length_append, List.length_take]; omega), List.take_of_length_le (by simp only [List.length_append, List.length_take]; omega)]
/- Survey: entries copied. -/
set_option maxHeartbeats 4000000 in
theorem c105 {v : Value} {n : Nat} {l : List En} (s : Sl G h 3 v n (l.flatMap En.cells)) (hl : l.length = n) (hn : n < 1000000) (hw : Wf h) :
   Cf (mz G) (.func (.func 105) #[] #[]) [v] h fun r h' => ((r = .slice none 0 0 ∧ n = 0) ∨ ∃ b sf, r = .slice (some ⟨b, 0, some 0⟩) n n ∧ h.nx ≤ b ∧ At h' b (.cells (l.flatMap En.cells) 133 3 sf)) ∧ Grow h h' ∧ Wf h' := by
 obtain ⟨a, c, rfl⟩ := s.form
 cases a with
 | none =>
   have hn0 : n = 0 ∧ c = 0 := by generalize l.flatMap En.cells = L at s; cases s; exact ⟨rfl, rfl⟩
   obtain ⟨rfl, rfl⟩ := hn0
   have hnn : ∀ x y : Operand, prun (mz G).P (do eqGuard .eql 85 x y (.slice none 0 0) (.slice none 0 0); binOp .eql 85 (.slice none 0 0) (.slice none 0 0)) = some (.bool true) := fun x y => by
     first | rfl | (simp [eqGuard, binOp, Op.intArith, Op.intCmp, Op.intDiv, Op.intBits, Op.floatCmp, Op.floatArith, Op.stringOp, bI_, bind_pure_comp, Tryz.underlying85]; done) | skip
   refine ak_ 8 [.tmp 2] Tryz.func105 rfl rfl rfl rfl ?_
   repeat' (first | with_reducible refine ad_ ?_ | ((with_reducible refine ac_ ?_); first | ((with_reducible refine bG_ ?_); refine aq_ (op_bin (a := .slice none 0 0) (b := .slice none 0 0) (w := .bool true) rfl rfl rfl rfl (hnn _ _) rfl) ?_) | refine ao_ ?_) | refine ap_ ?_)
   exact rq1 rfl ⟨.inl ⟨rfl, rfl⟩, au_, aA_⟩
 | some a =>
   obtain ⟨r, h2, hap, s2, hg, hw2⟩ := append_copy2 (M := mz G) (st := 85) (xt := 85) (h := h.push (.cells [] 133 3 false)) Tryz.underlying85 Tryz.underlying85 rfl bt_ zb133 zz133 rfl (At.new _ _) (s.grow ((Grow.refl _).push _)) (En.ones l) (by omega)
   obtain ⟨b, sf, e, hb, hat⟩ := s2
   have hw3 := hw2 aA_
   refine ak_ 8 [.tmp 2] Tryz.func105 rfl rfl rfl rfl ?_
   repeat' (first | with_reducible refine ad_ ?_ | ((with_reducible refine ac_ ?_); first | ((with_reducible refine bG_ ?_); refine aq_ (op_aeq (r := false) rfl rfl rfl (by show aeq Tryz.prog 85 _ _ = _; simp only [aeq, Tryz.underlying85])) ?_) | ((with_reducible refine av_ ?_); refine aq_ (bl_ rfl rfl hap) ?_) | ((with_reducible refine aE_ ?_); refine aq_ (aR_ rfl Tryz.underlying85 bt_ zz133 rfl rfl) ?_) | refine ao_ ?_) | refine ap_ ?_)
   exact rq1 rfl ⟨.inr ⟨b, sf, e, by omega, hat⟩, Grow.trans au_ hg, hw3⟩
/- Survey: entries merged from the right, a step. -/
theorem rm_step {l : List En} {i : Nat} (h0 : 0 < i) (hi : i < l.length) : ∃ y r, rm (l.drop i) = y :: r ∧ rm (l.drop (i - 1)) = if y.c = (l.getD (i - 1) ⟨0, 0, .empty⟩).c ∧ y.f = (l.getD (i - 1) ⟨0, 0, .empty⟩).t then ⟨(l.getD (i - 1) ⟨0, 0, .empty⟩).f, y.t, (l.getD (i - 1) ⟨0, 0, .empty⟩).c⟩ :: r else l.getD (i - 1) ⟨0, 0, .empty⟩ :: y :: r := by
 obtain ⟨j, rfl⟩ : ∃ j, i = j + 1 := ⟨i - 1, by omega⟩
 have e1 : l.drop (j + 1) = l.getD (j + 1) ⟨0, 0, .empty⟩ :: l.drop (j + 1 + 1) := by
   rw [List.drop_eq_getElem_cons hi]; simp [List.getD, List.getElem?_eq_getElem hi]
 have hj : j < l.length := by omega
 have e2 : l.drop j = l.getD j ⟨0, 0, .empty⟩ :: l.drop (j + 1) := by
   rw [List.drop_eq_getElem_cons hj]; simp [List.getD, List.getElem?_eq_getElem hj]
 obtain ⟨z, r, q, _⟩ := rm_cons (l.getD (j + 1) ⟨0, 0, .empty⟩) (l.drop (j + 1 + 1))
 rw [← e1] at q
 refine ⟨_, r, q, ?_⟩
 rw [Nat.add_sub_cancel, e2, rm, q]
theorem rm_start {l : List En} (h0 : 0 < l.length) : l.take (l.length - 1) ++ rm (l.drop (l.length - 1)) = l := by
 have hj : l.length - 1 < l.length := by omega
 have e : l.drop (l.length - 1) = [l[l.length - 1]] := by
   rw [List.drop_eq_getElem_cons hj, List.drop_eq_nil_of_le (by omega)]
 have e2 : rm (l.drop (l.length - 1)) = l.drop (l.length - 1) := by rw [e]; rfl
 rw [e2, List.take_append_drop]
/- Survey: entries merged by the program. -/
attribute [local irreducible] spE numM cauW cnum cauN enE hrK ensE
theorem mg_split {l L : List En} {i m : Nat} (h0 : 0 < i) (hi : i < l.length) (hL : L.take m = l.take i ++ rm (l.drop i)) :
   ∃ y r, L = l.take (i - 1) ++ l.getD (i - 1) ⟨0, 0, .empty⟩ :: y :: (r ++ L.drop m) ∧ L.take m = l.take (i - 1) ++ l.getD (i - 1) ⟨0, 0, .empty⟩ :: y :: r ∧ rm (l.drop (i - 1)) = if y.c = (l.getD (i - 1) ⟨0, 0, .empty⟩).c ∧ y.f = (l.getD (i - 1) ⟨0, 0, .empty⟩).t then ⟨(l.getD (i - 1) ⟨0, 0, .empty⟩).f, y.t, (l.getD (i - 1) ⟨0, 0, .empty⟩).c⟩ :: r else l.getD (i - 1) ⟨0, 0, .empty⟩ :: y :: r := by
 obtain ⟨y, r, h1, h2⟩ := rm_step h0 hi
 have e1 : l.take i = l.take (i - 1) ++ [l.getD (i - 1) ⟨0, 0, .empty⟩] := by
   have := cf_ (l := l) (k := i - 1) ⟨0, 0, .empty⟩ (by omega)
   rwa [Nat.sub_add_cancel h0] at this
 have e2 : L.take m = l.take (i - 1) ++ l.getD (i - 1) ⟨0, 0, .empty⟩ :: y :: r := by
   rw [hL, h1, e1, List.append_assoc]; rfl
 refine ⟨y, r, ?_, e2, h2⟩
 calc L = L.take m ++ L.drop m := (List.take_append_drop m L).symm
   _ = _ := by rw [e2, List.append_assoc]; rfl
theorem en_set2 {D T : List En} {f z t' : Int} {c : ByteArray} : ((D ++ ⟨f, z, c⟩ :: T).flatMap En.cells).set (D.length * 3 + 1) (.int .i64 t') = (D ++ ⟨f, t', c⟩ :: T).flatMap En.cells := by
 rw [List.flatMap_append, List.flatMap_append, List.flatMap_cons, List.flatMap_cons, List.set_append_right _ _ (by rw [En.flat]; omega), En.flat, Nat.add_sub_cancel_left]
 rfl
def mgdL (l : List En) : List En := if ensE l = 0 then rm l else []
set_option maxHeartbeats 16000000 in
theorem c39 {v : Value} {n : Nat} {l : List En} (s : Sl G h 3 v n (l.flatMap En.cells)) (hl : l.length = n) (hn : n < 1000000) (hw : Wf h) : Cf (mz G) (.func (.func 39) #[] #[]) [v] h fun r h' => (∃ a c, r = .tuple #[.slice a (mgdL l).length c, .int .i64 (ensE l)] ∧ Sl G h' 3 (.slice a (mgdL l).length c) (mgdL l).length ((mgdL l).flatMap En.cells)) ∧ Grow h h' := by
 have q49 := fun (h' : H) (g : Grow h h') (w' : Wf h') => c49 (s.grow g) hl hn w'
 by_cases he : ensE l = 0
 case neg =>
   have e1 : mgdL l = [] := by unfold mgdL; rw [if_neg he]
   rw [e1]
   generalize ensE l = E at he q49 ⊢
   obtain ⟨a, c, rfl⟩ := s.form
   refine ak_ 49 [.tmp 2, .tmp 3] Tryz.func39 rfl rfl rfl rfl ?_
   repeat' (first | with_reducible refine ad_ ?_ | ((with_reducible refine ac_ ?_); first | ((with_reducible refine at_ ?_); (refine as_ rfl rfl rfl rfl (q49 _ au_ aA_) rfl rfl ?_; rintro _ _ ⟨rfl, hq⟩; all_goals (try (have hqn := hq.nx); try simp only [aU_] at hqn))) | refine ao_ ?_) | refine ap_ ?_ | (refine aG_ rfl (fun hb => ?_) (fun hb => aw_ hb); (try simp only [aX_, reduceCtorEq] at hb)))
   exact rq2 rfl rfl ⟨⟨none, 0, rfl, .nil⟩, au_⟩
 have e1 : mgdL l = rm l := by unfold mgdL; rw [if_pos he]
 rw [e1, he]
 rw [he] at q49
 have q105 := fun (h' : H) (g : Grow h h') (w' : Wf h') => c105 (s.grow g) hl hn w'
 clear e1 he
 obtain ⟨a, c, rfl⟩ := s.form
 refine ak_ 49 [.tmp 2, .tmp 3] Tryz.func39 rfl rfl rfl rfl ?_
 refine bq_ (ι := Unit) (fun _ => [(0, .slice a n c)]) (fun _ h' => Wf h' ∧ Grow h h') ?_ ?_
 · repeat' (first | with_reducible refine ad_ ?_ | ((with_reducible refine ac_ ?_); ((with_reducible refine cx_ ?_); refine aq_ (aW_ rfl) ?_)) | with_reducible refine bk_ ?_)
   exact ⟨rfl, (), af_ ⟨rfl, trivial⟩, aA_, au_⟩
 rintro _ h1 ⟨w1, g1⟩
 refine bq_ (ι := Unit) (fun _ => [(0, .slice a n c)]) (fun _ h' => Wf h' ∧ Grow h h') ?_ ?_
 · repeat' (first | with_reducible refine ad_ ?_ | ((with_reducible refine ac_ ?_); first | ((with_reducible refine at_ ?_); (refine as_ rfl rfl rfl rfl (q49 _ (g1.trans au_) aA_) rfl rfl ?_; rintro _ _ ⟨rfl, hq⟩; all_goals (try (have hqn := hq.nx); try simp only [aU_] at hqn))) | refine ao_ ?_) | refine ap_ ?_)
   exact ⟨rfl, (), af_ ⟨rfl, trivial⟩, aA_, g1.trans au_⟩
 clear w1 g1 q49
 rintro _ h1 ⟨w1, g1⟩
 refine bq_ (ι := Value) (fun w => [(5, w)]) (fun w h' => ((w = .slice none 0 0 ∧ n = 0) ∨ ∃ b sf, w = .slice (some ⟨b, 0, some 0⟩) n n ∧ h.nx ≤ b ∧ At h' b (.cells (l.flatMap En.cells) 133 3 sf)) ∧ Wf h' ∧ Grow h h') ?_ ?_
 · have n1 := g1.nx
   repeat' (first | with_reducible refine ad_ ?_ | ((with_reducible refine ac_ ?_); first | ((with_reducible refine at_ ?_); (refine as_ rfl rfl rfl rfl (q105 _ (g1.trans au_) aA_) rfl rfl ?_; rintro _ _ ⟨hv, hq, hwf⟩; all_goals (try (have hqn := hq.nx); try simp only [aU_] at hqn))) | refine ao_ ?_) | with_reducible refine bk_ ?_)
   refine ⟨rfl, _, af_ ⟨rfl, trivial⟩, ?_, aA_, g1.trans au_⟩
   rcases hv with q | ⟨b, sf, q1, q2, q3⟩
   · exact .inl q
   · exact .inr ⟨b, sf, q1, by omega, q3⟩
 clear w1 g1 q105
 rintro w h2 ⟨hv, w1, g1⟩
 have n1 := g1.nx
 by_cases h0 : n = 0
 · subst h0
   have e : l = [] := by simpa using hl
   subst e
   obtain ⟨x, y, rfl, sx⟩ : ∃ x y, w = .slice x 0 y ∧ Sl G h2 3 (.slice x 0 y) 0 [] := by
     rcases hv with ⟨rfl, _⟩ | ⟨b, sf, rfl, _, hat⟩
     · exact ⟨none, 0, rfl, .nil⟩
     · exact ⟨_, _, rfl, Sl.ofAt hat rfl (Nat.le_refl _)⟩
   repeat' (first | with_reducible refine ad_ ?_ | ((with_reducible refine ac_ ?_); first | ((with_reducible refine av_ ?_); refine aq_ (ax_ rfl Tryz.underlying85) ?_) | refine ao_ ?_) | refine ap_ ?_)
   refine bo_ (fun _ : Unit => 0) (fun _ => [(5, .slice x 0 y), (6, .int .i64 (-1))]) (fun _ h' => h2 = h') () (af_ ⟨rfl, rfl, trivial⟩) rfl ?_
   rintro _ h3 rfl
   repeat' (first | with_reducible refine ad_ ?_ | ((with_reducible refine ac_ ?_); refine ao_ ?_) | refine ap_ ?_)
   exact rq2 rfl rfl ⟨⟨_, _, rfl, sx⟩, g1⟩
 obtain ⟨b, sf, rfl, hb0, hat⟩ : ∃ b sf, w = .slice (some ⟨b, 0, some 0⟩) n n ∧ h.nx ≤ b ∧ At h2 b (.cells (l.flatMap En.cells) 133 3 sf) := by
   rcases hv with ⟨_, q⟩ | q
   · exact absurd q h0
   · exact q
 clear hv
 repeat' (first | with_reducible refine ad_ ?_ | ((with_reducible refine ac_ ?_); first | ((with_reducible refine av_ ?_); refine aq_ (ax_ rfl Tryz.underlying85) ?_) | refine ao_ ?_) | refine ap_ ?_)
 refine bo_ (fun p : Int × Nat => p.1.toNat) (fun p => [(5, .slice (some ⟨b, 0, some 0⟩) p.2 n), (6, .int .i64 p.1)]) (fun p h' => (Wf h' ∧ Grow h h') ∧ ∃ (i : Nat) (L : List En), p.1 = (i : Int) ∧ i < p.2 ∧ p.2 ≤ n ∧ L.length = n ∧ L.take p.2 = l.take i ++ rm (l.drop i) ∧ At h' b (.cells (L.flatMap En.cells) 133 3 sf)) ((n : Int) - 1, n) (af_ ⟨rfl, rfl, trivial⟩) ⟨⟨w1, g1⟩, n - 1, l, by simp only; omega, by simp only; omega, Nat.le_refl _, hl, by simp only; rw [← hl, rm_start (by omega), List.take_length], hat⟩ ?_
 clear hat w1 g1 n1
 rintro ⟨x, m⟩ h3 ⟨⟨w1, g1⟩, i, L, hx, him, hm, hLl, hL, hat⟩
 simp only at hx him hm hL ⊢
 subst hx
 have n1 := g1.nx
 have l1 := hat.lt
 by_cases hi0 : 0 < i
 · obtain ⟨y0, r, e1, e2, e3⟩ := mg_split hi0 (by omega) hL
   have hDl : (l.take (i - 1)).length = i - 1 := by rw [List.length_take]; omega
   have sp := own_pre (G := G) hat hLl hm (by omega)
   have htl : (L.take m).length = m := by rw [List.length_take]; omega
   obtain ⟨D, hD⟩ : ∃ D, l.take (i - 1) = D := ⟨_, rfl⟩
   obtain ⟨x0, hx0⟩ : ∃ x, l.getD (i - 1) ⟨0, 0, .empty⟩ = x := ⟨_, rfl⟩
   obtain ⟨R, hR⟩ : ∃ R, r ++ L.drop m = R := ⟨_, rfl⟩
   have hRt : R.take r.length = r := by rw [← hR, List.take_left']; rfl
   rw [hD, hx0] at e2
   rw [hx0] at e3
   rw [hD, hx0, hR] at e1
   rw [hD] at hDl
   obtain ⟨id, i1, i3⟩ := cw_ En.len ⟨0, 0, .empty⟩ sp htl Tryz.underlying85 bt_ (i := (i : Int)) him rfl
   obtain ⟨jd, j1, j3⟩ := cw_ En.len ⟨0, 0, .empty⟩ sp htl Tryz.underlying85 bt_ (i := (i : Int) - 1) (q := i - 1) (by omega) (by omega)
   have ej : jd = ⟨b, D.length * 3, some 0⟩ := by
     have zz : tsz Tryz.prog 133 = some 3 := bt_
     have q : aindexAddr Tryz.prog 85 (.slice (some ⟨b, 0, some 0⟩) m n) (.int .i64 ((i : Int) - 1)) = some (.pointer (some ⟨b, D.length * 3, some 0⟩)) := by
       simp only [aindexAddr, asInt?, Tryz.underlying85, zz, decide_eq_true (And.intro (show (0 : Int) ≤ (i : Int) - 1 by omega) (show (i : Int) - 1 < ((m : Nat) : Int) by omega))]
       rw [show D.length * 3 = 0 + ((i : Int) - 1).toNat * 3 by omega]
       rfl
     rw [q] at j1
     cases j1
     rfl
   subst ej
   have e4 : (L.take m).getD i ⟨0, 0, .empty⟩ = y0 := by
     rw [e2, List.getD, List.getElem?_append_right (by omega), hDl, show i - (i - 1) = 1 by omega]; rfl
   have e5 : (L.take m).getD (i - 1) ⟨0, 0, .empty⟩ = x0 := by
     rw [e2, List.getD, List.getElem?_append_right (by omega), hDl, Nat.sub_self]; rfl
   rw [e4] at i3
   rw [e5] at j3
   have hrl : D.length + 2 + r.length = m := by have := congrArg List.length e2; rw [htl] at this; simp at this; omega
   obtain ⟨f, z, cz⟩ := x0
   obtain ⟨f', t', c'⟩ := y0
   dsimp only [En.cells] at i3 j3
   dsimp only at e3
   have q106 := fun (h' : H) (w' : Wf h') => c106 (G := G) (h := h') (x := ⟨f', t', c'⟩) (y := ⟨f, z, cz⟩) w'
   dsimp only [En.cells] at q106
   have it := fun (h' : H) (g' : Grow h3 h') => (show acell G h' (aadd (aadd id 0) 1) = some (.int .i64 t') from (i3 h' g').get 1 _ rfl)
   by_cases hxy : c' = cz ∧ f' = z
   · rw [if_pos hxy] at e3
     have hB : extE ⟨f', t', c'⟩ ⟨f, z, cz⟩ = true := by unfold extE; simp [hxy.1, hxy.2]
     rw [hB] at q106
     have hll : (L.flatMap En.cells).length = n * 3 := by rw [En.flat, hLl]
     have hst : (L.flatMap En.cells).set (D.length * 3 + 1) (.int .i64 t') = (D ++ ⟨f, t', cz⟩ :: ⟨f', t', c'⟩ :: R).flatMap En.cells := by rw [e1, en_set2]
     have hl2 : (D ++ ⟨f, t', cz⟩ :: ⟨f', t', c'⟩ :: R).length = n := by rw [← hLl, e1]; simp
     have q107 := fun (h' : H) (hat' : At h' b (.cells ((D ++ ⟨f, t', cz⟩ :: ⟨f', t', c'⟩ :: R).flatMap En.cells) 133 3 sf)) (w' : Wf h') => c107 (G := G) (i := i) hat' hl2 hm him hn w'
     have hfin : ∀ L' : List En, L'.take (m - 1) = (D ++ ⟨f, t', cz⟩ :: ⟨f', t', c'⟩ :: R).take i ++ ((D ++ ⟨f, t', cz⟩ :: ⟨f', t', c'⟩ :: R).take m).drop (i + 1) → L'.take (m - 1) = l.take (i - 1) ++ rm (l.drop (i - 1)) := fun L' q => by
       rw [q, hD, e3]
       have a1 : (D ++ (⟨f, t', cz⟩ : En) :: ⟨f', t', c'⟩ :: R).take i = D ++ [⟨f, t', cz⟩] := by
         rw [List.take_append, List.take_of_length_le (by omega), hDl, show i - (i - 1) = 1 by omega]; rfl
       have a2 : (D ++ (⟨f, t', cz⟩ : En) :: ⟨f', t', c'⟩ :: R).take m = D ++ (⟨f, t', cz⟩ : En) :: ⟨f', t', c'⟩ :: r := by
         rw [List.take_append, List.take_of_length_le (by omega), show m - D.length = r.length + 1 + 1 by omega, List.take_succ_cons, List.take_succ_cons, hRt]
       have a3 : (D ++ (⟨f, t', cz⟩ : En) :: ⟨f', t', c'⟩ :: r).drop (i + 1) = r := by
         rw [List.drop_append, List.drop_of_length_le (by omega), show i + 1 - D.length = 2 by omega]; rfl
       rw [a1, a2, a3, List.append_assoc]; rfl
     clear e1 e2 e3 e4 e5 hD hx0 hR hL hB hxy hRt
     generalize hLc : L.flatMap En.cells = LC at hat hll hst
     clear hLc sp htl
     repeat' (first | with_reducible refine ad_ ?_ | ((with_reducible refine ac_ ?_); first | ((with_reducible refine an_ ?_); first | refine aq_ (ag_ rfl rfl i1) ?_ | refine aq_ (ag_ rfl rfl j1) ?_) | ((with_reducible refine al_ ?_); refine aq_ (az_ rfl Tryz.underlying3 rfl (it _ au_)) ?_) | ((with_reducible refine ay_ ?_); refine bQ_ (bA_ (b := b) (o := D.length * 3 + 1) rfl rfl ah_ rfl zs3 (by rw [hll]; omega) rfl hst) ?_) | ((with_reducible refine at_ ?_); (refine as_ rfl rfl rfl rfl (q107 _ ah_ aA_) rfl rfl ?_; rintro _ _ ⟨rfl, hq, hwf, L', hL', hat', hfi⟩; all_goals (try (have hqn := hq.nx); try simp only [aU_] at hqn))) | refine ao_ ?_) | ((with_reducible refine bb_ ?_); ((with_reducible refine bd_ ?_); first | ((with_reducible refine ba_ ?_); refine aH_ (aa_ rfl) rfl rfl (ar_ rfl (aD_ rfl)) rfl rfl rfl ?_) | ((with_reducible refine aT_ ?_); first | refine aH_ (aa_ rfl) rfl rfl (ar_ rfl (ag_ rfl rfl i1)) rfl rfl rfl ?_ | refine aH_ (aa_ rfl) rfl rfl (ar_ rfl (ag_ rfl rfl j1)) rfl rfl rfl ?_) | ((with_reducible refine aZ_ ?_); first | refine aO_ (aa_ rfl) rfl (ar_ rfl (aN_ rfl Tryz.underlying133 rfl bt_ (i3 _ au_).all)) rfl rfl rfl ?_ | refine aO_ (aa_ rfl) rfl (ar_ rfl (aN_ rfl Tryz.underlying133 rfl bt_ (j3 _ au_).all)) rfl rfl rfl ?_) | ((with_reducible refine bD_ ?_); refine aH_ (aa_ rfl) rfl rfl (ar_ rfl (bY_ rfl rfl (w64 (by omega) (by omega)))) rfl rfl rfl ?_) | ((with_reducible refine aV_ ?_); (refine aM_ (aa_ rfl) rfl rfl rfl rfl (q106 _ aA_) rfl rfl ?_; rintro _ _ ⟨rfl, hq⟩; all_goals (try (have hqn := hq.nx); try simp only [aU_] at hqn))) | with_reducible refine bj_ ?_ ?_)) | with_reducible exact aP_ | with_reducible refine aJ_ ?_ ?_ | ((with_reducible refine bi_ ?_); first | exact aS_ | refine aQ_ rfl ?_ | refine am_ rfl rfl (ar_ rfl (aN_ rfl Tryz.underlying133 rfl bt_ (i3 _ au_).all)) ?_ | refine am_ rfl rfl (ar_ rfl (aN_ rfl Tryz.underlying133 rfl bt_ (j3 _ au_).all)) ?_) | refine ap_ ?_ | (refine aG_ rfl (fun hb => ?_) (fun hb => aw_ hb); (try simp only [aX_, reduceCtorEq] at hb)) | refine aF_ (id := 8) 10 [0, 0, 3, 7, 0, 0, 32, 112, 240, 511] [0, 1, 2, 3, 4, 5, 6, 7, 8, 9] (by kernel_rfl) (by kernel_rfl) rfl rfl ?_)
     refine aI_ ((i : Int) - 1, m - 1) (by simp only; omega) (af_ ⟨rfl, rfl, trivial⟩) ⟨⟨hwf, hq.base au_ hb0⟩, i - 1, L', by simp only; omega, by simp only; omega, by simp only; omega, hL', hfin L' hfi, hat'⟩
   · rw [if_neg hxy] at e3
     have hB : extE ⟨f', t', c'⟩ ⟨f, z, cz⟩ = false := by unfold extE; rw [← Bool.not_eq_true]; simpa using hxy
     rw [hB] at q106
     have hfin : L.take m = l.take (i - 1) ++ rm (l.drop (i - 1)) := by rw [e2, hD, e3]
     clear e1 e2 e3 e4 e5 hD hx0 hR hL hB hxy hRt
     repeat' (first | with_reducible refine ad_ ?_ | ((with_reducible refine ac_ ?_); refine ao_ ?_) | ((with_reducible refine bb_ ?_); ((with_reducible refine bd_ ?_); first | ((with_reducible refine ba_ ?_); refine aH_ (aa_ rfl) rfl rfl (ar_ rfl (aD_ rfl)) rfl rfl rfl ?_) | ((with_reducible refine aT_ ?_); first | refine aH_ (aa_ rfl) rfl rfl (ar_ rfl (ag_ rfl rfl i1)) rfl rfl rfl ?_ | refine aH_ (aa_ rfl) rfl rfl (ar_ rfl (ag_ rfl rfl j1)) rfl rfl rfl ?_) | ((with_reducible refine aZ_ ?_); first | refine aO_ (aa_ rfl) rfl (ar_ rfl (aN_ rfl Tryz.underlying133 rfl bt_ (i3 _ au_).all)) rfl rfl rfl ?_ | refine aO_ (aa_ rfl) rfl (ar_ rfl (aN_ rfl Tryz.underlying133 rfl bt_ (j3 _ au_).all)) rfl rfl rfl ?_) | ((with_reducible refine bD_ ?_); refine aH_ (aa_ rfl) rfl rfl (ar_ rfl (bY_ rfl rfl (w64 (by omega) (by omega)))) rfl rfl rfl ?_) | ((with_reducible refine aV_ ?_); (refine aM_ (aa_ rfl) rfl rfl rfl rfl (q106 _ aA_) rfl rfl ?_; rintro _ _ ⟨rfl, hq⟩; all_goals (try (have hqn := hq.nx); try simp only [aU_] at hqn))) | with_reducible refine bj_ ?_ ?_)) | with_reducible exact aP_ | with_reducible refine aJ_ ?_ ?_ | ((with_reducible refine bi_ ?_); first | exact aS_ | refine aQ_ rfl ?_ | refine am_ rfl rfl (ar_ rfl (aN_ rfl Tryz.underlying133 rfl bt_ (i3 _ au_).all)) ?_ | refine am_ rfl rfl (ar_ rfl (aN_ rfl Tryz.underlying133 rfl bt_ (j3 _ au_).all)) ?_) | refine ap_ ?_ | (refine aG_ rfl (fun hb => ?_) (fun hb => aw_ hb); (try simp only [aX_, reduceCtorEq] at hb)) | refine aF_ (id := 8) 10 [0, 0, 3, 7, 0, 0, 32, 112, 240, 511] [0, 1, 2, 3, 4, 5, 6, 7, 8, 9] (by kernel_rfl) (by kernel_rfl) rfl rfl ?_)
     exact aI_ ((i : Int) - 1, m) (by simp only; omega) (af_ ⟨rfl, rfl, trivial⟩) ⟨⟨aA_, au_⟩, i - 1, L, by simp only; omega, by simp only; omega, by simp only; omega, hLl, hfin, ah_⟩
 · have hi : i = 0 := by omega
   subst hi
   simp only [List.take_zero, List.nil_append, List.drop_zero] at hL
   have sp := own_pre (G := G) hat hLl hm (by omega)
   rw [hL] at sp
   have hml : m = (rm l).length := by rw [← hL, List.length_take]; omega
   subst hml
   repeat' (first | with_reducible refine ad_ ?_ | ((with_reducible refine ac_ ?_); refine ao_ ?_) | refine ap_ ?_)
   exact rq2 rfl rfl ⟨⟨_, _, rfl, sp⟩, g1⟩
end Go.Proofs.YtlioomhcdlicmaaGreatDoor
