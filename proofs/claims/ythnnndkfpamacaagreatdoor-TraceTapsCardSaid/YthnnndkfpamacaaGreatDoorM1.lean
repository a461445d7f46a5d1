/- Slices of slices, lists of structs; shots copied and held against one another. -/
import Derived.Test.YthnnndkfpamacaaGreatDoorK2
import Derived.Test.YthnnndkfpamacaaGreatDoorN3
set_option linter.all false
/- Lists of structs made, copied and cut. -/
namespace Go.Ab
open Go

section
variable {M : Mc} {l : KL} {h h' : H} {v u : Value} {x y z : Operand} {t ty : TypeId} {b off es : Nat} {c cs vs : List Value} {e : TypeId} {s : Bool} {dd : TypeDesc} {n : Nat}

/-- A part of a slice. -/
def cutA (es : Nat) (a : Option Addr) (c lo : Nat) : Option Addr :=
  match a with
  | none => none
  | some a => match a.spot with
    | none => some (match Nat.beq c lo with | true => a | false => aadd a (lo * es))
    | some 0 => match Nat.beq c lo with | true => some ⟨a.block, a.off, some 1⟩ | false => some (aadd a (lo * es))
    | _ => some a
theorem Sl.slice {a : Option Addr} {c : Nat} {L : List Value} (sl : Sl M.G h es (.slice a n c) n L) (hu : M.P.underlying t = some (.slice e)) (hn : tsz M.P e = some es) {lo hi : Nat} (h1 : lo ≤ hi) (h2 : hi ≤ n) {k k' : IntKind} {A B : Int} (hA : A = (lo : Int)) (hB : B = (hi : Int)) :
    aslice M.P h t (.slice a n c) (some (.int k A)) (some (.int k' B)) none = some (.slice (cutA es a c lo) (hi - lo) (c - lo)) := by
  subst hA hB
  cases sl with
  | nil =>
    have hl0 : lo = 0 := by omega
    have hh0 : hi = 0 := by omega
    subst hl0 hh0
    simp [aslice, hu, hn, optInt, asInt?, cutA]
  | end' b o =>
    have hl0 : lo = 0 := by omega
    have hh0 : hi = 0 := by omega
    subst hl0 hh0
    simp [aslice, hu, hn, optInt, asInt?, cutA]
  | mem a _ cc _ hl hc hnc ho =>
    have hd : (decide ((0 : Int) ≤ (c : Int) ∧ (c : Int) ≤ c) && decide ((0 : Int) ≤ (hi : Int) ∧ (hi : Int) ≤ (c : Int)) && decide ((0 : Int) ≤ (lo : Int) ∧ (lo : Int) ≤ (hi : Int))) = true := by
      rw [decide_eq_true (by omega), decide_eq_true (by omega), decide_eq_true (by omega)]; rfl
    by_cases hml : c = lo
    · subst hml
      have hhi : hi = c := by omega
      subst hhi
      rcases hc.spot with hs | hs
      · simp [aslice, hu, hn, optInt, asInt?, hs, nbeq_self, cutA]
      · obtain ⟨c1, e1, s1, hg⟩ := ho hs
        simp [aslice, hu, hn, optInt, asInt?, hs, hg, nbeq_self, cutA]
    · have hb0 : Nat.beq c lo = false := by rw [beq_dec]; simpa using hml
      rcases hc.spot with hs | hs
      · simp only [aslice, hu, hn, optInt, asInt?, Option.isNone_none, Option.isSome_some, Bool.or_self, hd, Int.toNat_natCast, hs, hb0, cutA]
      · obtain ⟨c1, e1, s1, hg⟩ := ho hs
        simp only [aslice, hu, hn, optInt, asInt?, Option.isNone_none, Option.isSome_some, Bool.or_self, hd, Int.toNat_natCast, hs, hb0, hg, nbeq_self, cutA]
theorem Sl.part {a : Option Addr} {c : Nat} {L : List Value} {G : Base} (sl : Sl G h es (.slice a n c) n L) {lo hi : Nat} (h1 : lo ≤ hi) (h2 : hi ≤ n) : Sl G h es (.slice (cutA es a c lo) (hi - lo) (c - lo)) (hi - lo) ((L.drop (lo * es)).take ((hi - lo) * es)) := by
  cases sl with
  | nil =>
    have hl0 : lo = 0 := by omega
    have hh0 : hi = 0 := by omega
    subst hl0 hh0
    simpa [cutA] using Sl.nil
  | end' b o =>
    have hl0 : lo = 0 := by omega
    have hh0 : hi = 0 := by omega
    subst hl0 hh0
    simpa [cutA] using Sl.end' b o
  | mem a _ cc _ hl hc hnc ho =>
    have hln : ((L.drop (lo * es)).take ((hi - lo) * es)).length = (hi - lo) * es := by
      rw [List.length_take, List.length_drop, hl]
      have : (hi - lo) * es ≤ n * es - lo * es := by rw [← Nat.sub_mul]; exact Nat.mul_le_mul_right _ (by omega)
      omega
    have hcl : Cells G h (aadd a (lo * es)) ((L.drop (lo * es)).take ((hi - lo) * es)) := (hc.drop _).take _
    by_cases hml : c = lo
    · subst hml
      have hhi : hi = c := by omega
      subst hhi
      simp only [Nat.sub_self, Nat.zero_mul, List.take_zero]
      rcases hc.spot with hs | hs
      · have e : cutA es (some a) hi hi = some a := by simp [cutA, hs, nbeq_self]
        rw [e]
        refine .mem a 0 0 [] (by simp) (hc.take 0) (Nat.le_refl _) ?_
        intro q; rw [hs] at q; cases q
      · have e : cutA es (some a) hi hi = some ⟨a.block, a.off, some 1⟩ := by simp [cutA, hs, nbeq_self]
        rw [e]
        exact .end' _ _
    · have hb0 : Nat.beq c lo = false := by rw [beq_dec]; simpa using hml
      have e : cutA es (some a) c lo = some (aadd a (lo * es)) := by rcases hc.spot with hs | hs <;> simp [cutA, hs, hb0]
      rw [e]
      exact .mem _ _ _ _ hln hcl (by omega) (fun q => ho q)
/-! operations of which an end is told, not which -/
/-- What other cells' width another block has stays. -/
theorem Sl.set_ne {G : Base} {es' : Nat} {w : Value} {L : List Value} (sl : Sl G h es w n L) (hat : At h b (.cells c e es' s)) (hne : es ≠ es') (o : AObj) : Sl G (h.set b o) es w n L := by
  cases sl with
  | nil => exact .nil
  | end' b o => exact .end' b o
  | mem a _ cc _ hl hc hnc ho =>
    have hb : a.spot = some 0 → a.block ≠ b := fun q e => by
      obtain ⟨c1, e1, s1, hg⟩ := ho q
      rw [e, hat.get] at hg
      cases hg
      exact hne rfl
    refine .mem a n cc L hl ⟨fun q => hc.lt q, fun i v q => ?_, hc.spot, fun q => ?_⟩ hnc fun q => ?_
    · have := hc.get i v q
      unfold acell at this ⊢
      rcases hc.spot with hs | hs
      · simp only [aadd, hs] at this ⊢; exact this
      · simp only [aadd, hs] at this ⊢
        rw [H.get_set, if_neg (hb hs)]; exact this
    · rw [H.get_set, if_neg (hb q)]; exact hc.own q
    · rw [H.get_set, if_neg (hb q)]; exact ho q
theorem Sl.kill_ne {G : Base} {es' : Nat} {w : Value} {L : List Value} (sl : Sl G h es w n L) (hat : At h b (.cells c e es' s)) (hne : es ≠ es') : Sl G (h.kill b) es w n L := by
  cases sl with
  | nil => exact .nil
  | end' b o => exact .end' b o
  | mem a _ cc _ hl hc hnc ho =>
    have hb : a.spot = some 0 → a.block ≠ b := fun q e => by
      obtain ⟨c1, e1, s1, hg⟩ := ho q
      rw [e, hat.get] at hg
      cases hg
      exact hne rfl
    refine .mem a n cc L hl ⟨fun q => hc.lt q, fun i v q => ?_, hc.spot, fun q => ?_⟩ hnc fun q => ?_
    · have := hc.get i v q
      unfold acell at this ⊢
      rcases hc.spot with hs | hs
      · simp only [aadd, hs] at this ⊢; exact this
      · simp only [aadd, hs] at this ⊢
        rw [H.get_kill, if_neg (hb hs)]; exact this
    · rw [H.get_kill, if_neg (hb q)]; exact hc.own q
    · rw [H.get_kill, if_neg (hb q)]; exact ho q
end
end Go.Ab

/- Traces and shots held against one another; shots told and owned. -/
namespace Go.Proofs.YthnnndkfpamacaaGreatDoor
open Go Go.Ab Go.Fl
attribute [local irreducible] SeqQ BlkQ LpQ RetQ Wc Wo WD WX Op1 Op1q Op1a Cf Cl From
attribute [local irreducible] Ieee.Format.order Ieee.Format.read Ieee.Format.nearest Ieee.Format.write Ieee.Format.mul Ieee.Format.div Ieee.Datum.order Ieee.Datum.integral smpE smp smpW K J U trE hdrE lchk firstNZ isNameB wid mism shE offs shortB
set_option maxRecDepth 10000
variable {G : Base} {h : H}

/-! fresh lists -/
/-! equality -/
def fEqL (l l' : List Nat) : Prop := l.length = l'.length ∧ ∀ i (q : i < l.length) (q' : i < l'.length), (Ieee.single.order l[i] l'[i] == some .eq) = true
theorem smpW_feq {x : Nat} (h : smpE x = 0) : (Ieee.single.order (smpW (smp x)) x == some .eq) = true := by
  obtain ⟨s, m, e, hr, hv, hlo, hhi⟩ := smp_read h
  obtain ⟨_, v, hn, hv2⟩ := div16 (n := smp x) (by omega)
  have hx : Num Ieee.single x (Ieee.signed s m (e + 1074).toNat) := ⟨s, m, e, hr, by have := (read_single hr).2.1; omega, rfl⟩
  rw [hn.feq hx]
  have : v = Ieee.signed s m (e + 1074).toNat := by omega
  simp [this]
set_option maxHeartbeats 4000000 in
theorem c84g {v w : Value} {n : Nat} {l l' : List Nat} (s : Sl G h 1 v n (l.map (.float .f32))) (u : Sl G h 1 w n (l'.map (.float .f32))) (hn : n < 1000000) (hs : fEqL l l') : Cf (mz G) (.func (.func 84) #[] #[]) [v, w] h fun r h' => r = .bool true ∧ Grow h h' := by
  obtain ⟨a, c, rfl⟩ := s.form
  obtain ⟨b, d, rfl⟩ := u.form
  have hl := s.length
  have hl' := u.length
  simp at hl hl'
  refine cf_enter0 26 [.tmp 4] Tryz.func84 rfl rfl rfl rfl ?_
  repeat' (first | with_reducible refine wo_nil ?_ | ((with_reducible refine wo_any ?_); first | ((with_reducible refine ik_move ?_); refine wo_op rfl (op_move rfl) rfl rfl ?_) | ((with_reducible refine ik_assign ?_); refine wo_op rfl (op_assign rfl) rfl rfl ?_) | ((with_reducible refine ik_callb ?_); refine wo_op rfl (op_lenSl rfl Tryz.underlying45) rfl rfl ?_) | ((with_reducible refine ik_bin ?_); refine wo_op rfl (op_neq rfl rfl) rfl rfl ?_)) | with_reducible refine sq_norm ?_ | with_reducible refine wc_seq ?_ | with_reducible refine wc_region ?_ | with_reducible refine wc_skip ?_ | with_reducible refine wc_block ?_ | (refine wc_if rfl (fun hb => ?_) (fun hb => ?_) <;> (try simp only [decide_eq_true_eq, decide_eq_false_iff_not, Bool.not_eq_true', Bool.not_eq_false', Int.not_lt, Int.not_le, Decidable.not_not, not_true_eq_false, not_false_eq_true, beq_self_eq_true, reduceCtorEq] at hb) <;> (try (exfalso; omega))))
  refine wc_loop (fun k => n - k) (fun k : Nat => [(0, .slice a n c), (1, .slice b n d), (5, .int .i64 k)]) (fun k h' => Grow h h' ∧ k ≤ n) 0 (within_lk ⟨rfl, rfl, rfl, trivial⟩) ⟨.refl _, Nat.zero_le _⟩ ?_
  rintro k h' ⟨hgr, hk⟩
  by_cases hlt : k < n
  · obtain ⟨ad, h1, h3⟩ := sl_at (s.grow hgr) (i := (k : Int)) hlt rfl
    obtain ⟨bd, g1, g3⟩ := sl_at (u.grow hgr) (i := (k : Int)) hlt rfl
    have he := hs.2 k (by omega) (by omega)
    repeat' (first | with_reducible refine wo_nil ?_ | ((with_reducible refine wo_any ?_); first | ((with_reducible refine ik_move ?_); refine wo_op rfl (op_move rfl) rfl rfl ?_) | ((with_reducible refine ik_assign ?_); refine wo_op rfl (op_assign rfl) rfl rfl ?_) | ((with_reducible refine ik_bin ?_); first | refine wo_op rfl (op_lss rfl rfl) rfl rfl ?_ | refine wo_op rfl (op_add' rfl rfl (w64 (by omega) (by omega))) rfl rfl ?_) | ((with_reducible refine ik_callb ?_); refine wo_op rfl (op_lenSl rfl Tryz.underlying45) rfl rfl ?_)) | ((with_reducible refine xk_any ?_); ((with_reducible refine xk_as0 ?_); first | ((with_reducible refine xk_move ?_); refine wx_q (wt_none rfl) rfl rfl (op_q rfl (op_move rfl)) rfl rfl rfl ?_) | ((with_reducible refine xk_indexAddr ?_); first | refine wx_q (wt_none rfl) rfl rfl (op_q rfl (op_indexAddr rfl rfl h1)) rfl rfl rfl ?_ | refine wx_q (wt_none rfl) rfl rfl (op_q rfl (op_indexAddr rfl rfl g1)) rfl rfl rfl ?_) | ((with_reducible refine xk_load ?_); first | refine wx_h0 (wt_none rfl) rfl (op_q rfl (op_ldCell rfl Tryz.underlying23 rfl h3)) rfl rfl rfl ?_ | refine wx_h0 (wt_none rfl) rfl (op_q rfl (op_ldCell rfl Tryz.underlying23 rfl g3)) rfl rfl rfl ?_) | ((with_reducible refine xk_bin ?_); refine wx_q (wt_none rfl) rfl rfl (op_q rfl (op_fneq rfl rfl he)) rfl rfl rfl ?_) | with_reducible refine wx_nil0 ?_ ?_)) | with_reducible exact obl_nil | with_reducible refine obl_cons ?_ ?_ | ((with_reducible refine ik_obs ?_); first | exact obs_nil | refine obs_chkn rfl rfl (op_q rfl (op_ldCell rfl Tryz.underlying23 rfl h3)) ?_ | refine obs_chkn rfl rfl (op_q rfl (op_ldCell rfl Tryz.underlying23 rfl g3)) ?_) | with_reducible refine sq_norm ?_ | with_reducible refine wc_seq ?_ | with_reducible refine wc_region ?_ | with_reducible refine wc_skip ?_ | with_reducible refine wc_block ?_ | with_reducible refine bq_norm ?_ | refine wc_iff rfl ?_ | (refine wc_if rfl (fun hb => ?_) (fun hb => ?_) <;> (try simp only [decide_eq_true_eq, decide_eq_false_iff_not, Bool.not_eq_true', Bool.not_eq_false', Int.not_lt, Int.not_le, Decidable.not_not, not_true_eq_false, not_false_eq_true, beq_self_eq_true, reduceCtorEq] at hb) <;> (try (exfalso; omega))) | refine wc_drawB (id := 6) 9 [0, 0, 3, 7, 0, 0, 48, 112, 255] [0, 1, 2, 3, 4, 5, 6, 7, 8] (by kernel_rfl) (by kernel_rfl) rfl rfl ?_)
    exact lq_norm (k + 1) (by omega) (within_lk ⟨rfl, rfl, rfl, trivial⟩) ⟨gr_A, by omega⟩
  · repeat' (first | with_reducible refine wo_nil ?_ | ((with_reducible refine wo_any ?_); first | ((with_reducible refine ik_move ?_); refine wo_op rfl (op_move rfl) rfl rfl ?_) | ((with_reducible refine ik_assign ?_); refine wo_op rfl (op_assign rfl) rfl rfl ?_) | ((with_reducible refine ik_callb ?_); refine wo_op rfl (op_lenSl rfl Tryz.underlying45) rfl rfl ?_) | ((with_reducible refine ik_bin ?_); refine wo_op rfl (op_lss rfl rfl) rfl rfl ?_)) | with_reducible refine sq_norm ?_ | with_reducible refine wc_seq ?_ | with_reducible refine wc_region ?_ | with_reducible refine wc_ret ?_ | with_reducible refine wc_exit ?_ | with_reducible refine sq_exit ?_ | with_reducible refine lq_exit ?_ | refine bq_eq rfl ?_ | (refine wc_if rfl (fun hb => ?_) (fun hb => ?_) <;> (try simp only [decide_eq_true_eq, decide_eq_false_iff_not, Bool.not_eq_true', Bool.not_eq_false', Int.not_lt, Int.not_le, Decidable.not_not, not_true_eq_false, not_false_eq_true, beq_self_eq_true, reduceCtorEq] at hb) <;> (try (exfalso; omega))))
    exact rq1 rfl ⟨rfl, hgr⟩
end Go.Proofs.YthnnndkfpamacaaGreatDoor

/- Shots told and owned. -/
namespace Go.Proofs.YthnnndkfpamacaaGreatDoor
open Go Go.Ab Go.Fl
attribute [local irreducible] SeqQ BlkQ LpQ RetQ Wc Wo WD WX Op1 Op1q Op1a Cf Cl From
attribute [local irreducible] Ieee.Format.order Ieee.Format.read Ieee.Format.nearest Ieee.Format.write Ieee.Format.mul Ieee.Format.div Ieee.Datum.order Ieee.Datum.integral smpE smp smpW K J U trE hdrE lchk firstNZ isNameB wid mism shE offs shortB
set_option maxRecDepth 10000
variable {G : Base} {h : H}

end Go.Proofs.YthnnndkfpamacaaGreatDoor

/- A shot, changed by the program: each trace that is no hole by a function of her integers. -/
namespace Go.Proofs.YthnnndkfpamacaaGreatDoor
open Go Go.Ab Go.Fl
attribute [local irreducible] SeqQ BlkQ LpQ RetQ Wc Wo WD WX Op1 Op1q Op1a Cf Cl From
attribute [local irreducible] Ieee.Format.order Ieee.Format.read Ieee.Format.nearest Ieee.Format.write Ieee.Format.mul Ieee.Format.div Ieee.Datum.order Ieee.Datum.integral smpE smp smpW K J U trE hdrE lchk firstNZ isNameB wid mism shE offs shortB anyLarge
set_option maxRecDepth 10000
variable {G : Base} {h : H}

abbrev Key := (Nat → Int) × Bool × Nat × List Nat
/-- Samples of one's own, or none. -/
def TrN (h : H) (lo : Nat) (t : Trc) : Prop := (t.sa = none ∧ t.n = 0 ∧ t.c = 0 ∧ t.l = []) ∨ TrAt h lo t
theorem TrN.grow {h h' : H} {lo : Nat} {t : Trc} (o : TrN h lo t) (g : Grow h h') : TrN h' lo t := o.imp id fun o => o.grow g
theorem TrN.set {h : H} {lo B : Nat} {t : Trc} (o : TrN h lo t) (hB : B < lo) (ob : AObj) : TrN (h.set B ob) lo t := o.imp id fun o => o.set hB ob
theorem TrAt.kill {h : H} {lo B : Nat} {t : Trc} (o : TrAt h lo t) (hB : B < lo) : TrAt (h.kill B) lo t := by
  obtain ⟨b, sf, e1, e2, e3⟩ := o.at'
  exact ⟨⟨b, sf, e1, e2, e3.kill_ne (by omega)⟩, o.len, o.cap⟩
theorem TrN.kill {h : H} {lo B : Nat} {t : Trc} (o : TrN h lo t) (hB : B < lo) : TrN (h.kill B) lo t := o.imp id fun o => o.kill hB
theorem TrN.push {h : H} {lo : Nat} {t : Trc} (o : TrN h lo t) (ob : AObj) : TrN (h.push ob) lo t := o.grow ((Grow.refl _).push _)
theorem TrN.bumpB {h : H} {lo k : Nat} {t : Trc} (o : TrN h lo t) : TrN (h.bump k) lo t := o.grow ((Grow.refl _).bumpB _)
theorem TrN.ok {h : H} {lo : Nat} {t : Trc} (o : TrN h lo t) : TrOk G h t := by
  rcases o with ⟨e1, e2, e3, e4⟩ | o
  · refine ⟨?_⟩
    rw [e1, e2, e3, e4]
    exact .nil
  · exact o.ok
/-- What a function of integers makes of a trace. -/
def chKey (F : Nat → List Int → List Int) (i : Nat) (t : Trc) : Key := if t.hole = true then (t.hd, true, 0, []) else (t.hd, false, (F i (t.l.map smp)).length, (F i (t.l.map smp)).map smpW)
@[reducible] def zShot : List Value := [.string .empty, .slice none 0 0]

end Go.Proofs.YthnnndkfpamacaaGreatDoor
