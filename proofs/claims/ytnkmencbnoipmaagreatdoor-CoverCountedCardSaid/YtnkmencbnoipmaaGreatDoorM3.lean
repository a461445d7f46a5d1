/- Cover: the places of a line by the program, which are told by an iterator within an iterator. -/
import Derived.Test.YtnkmencbnoipmaaGreatDoorM2
set_option linter.all false
/- The iterator of places. -/
namespace Go.Proofs.YtnkmencbnoipmaaGreatDoor
open Go Go.Ab Go.Fl
attribute [local irreducible] SeqQ BlkQ LpQ RetQ Wc Wo WD WX Op1 Op1q Op1a Cf Cl From
attribute [local irreducible] Ieee.Format.order Ieee.Format.read Ieee.Format.nearest Ieee.Format.write Ieee.Format.mul Ieee.Format.div Ieee.Format.sqrt Ieee.Datum.order Ieee.Datum.integral K U rngE errN cntE cmpI indE ptE plaE firstNZ numsE lnE BigP isNameB nmE ascA errL chgV chgE
set_option maxRecDepth 10000
variable {G : Base} {h : H}

@[reducible] def plF (B : Nat) : Value := .func (.func 130) #[] #[.pointer (some ⟨B, 0, some 0⟩)]
def NoLoop (o : AObj) : Prop := ∀ a b c d e f, o ≠ .loop a b c d e f
theorem noLoop_cells {c : List Value} {e : TypeId} {n : Nat} {s : Bool} : NoLoop (.cells c e n s) := by intro _ _ _ _ _ _ q; cases q
theorem kpL {a b c d e f} : Kp (.loop a b c d e f) := by intro _ _ q; cases q
theorem kpY {c : List Value} {s : Bool} : Kp (.cells c 189 1 s) := by intro _ _ q; simp at q
theorem kp43 {c : List Value} {s : Bool} : Kp (.cells c 43 12 s) := by intro _ _ q; simp at q
theorem ne_loop {h : H} {N b m : Nat} {o : AObj} {p q r s t u} (hb : b < N ∨ NoLoop o) (hm : N ≤ m) (ha : At h b o) (c : At h m (.loop p q r s t u)) : b ≠ m := by
  rcases hb with hb | hb
  · omega
  · rintro rfl
    have := ha.get.symm.trans c.get
    injection this with this
    exact hb _ _ _ _ _ _ this
/-- Only loops from a block on may have gone on. -/
structure Still (N : Nat) (g g' : H) : Prop where
  nx : N ≤ g'.nx
  grow : ∀ h1 : H, h1.nx ≤ N → Grow h1 g → Grow h1 g'
  at' : ∀ b o, (b < N ∨ NoLoop o) → At g b o → At g' b o
theorem Still.of {N : Nat} {g g' : H} (x : Grow g g') (hn : N ≤ g.nx) : Still N g g' := ⟨Nat.le_trans hn x.nx, fun _ _ q => q.trans x, fun _ _ _ q => q.grow x⟩
theorem c73 {nm : ByteArray} {x y tx ty nx ny px py : Int} {sh ch : Nat} {a : Option Addr} {n c : Nat} {rf : List Int} : Cf (mz G) (.func (.func 73) #[] #[]) [.agg ⟨lnC nm x y tx ty sh nx ny px py ch a n c⟩] h fun r h' => r = plF h.nx ∧ h' = h.push (.cells (lnC nm x y tx ty sh nx ny px py ch a n c) 43 12 false) := by
  refine cf_enter0 4 [.tmp 2] Tryz.func73 rfl rfl rfl rfl ?_
  repeat' (first | with_reducible refine wo_nil ?_ | ((with_reducible refine wo_any ?_); first | ((with_reducible refine ik_assign ?_); refine wo_op rfl (op_assign rfl) rfl rfl ?_) | ((with_reducible refine ik_makeFunc ?_); refine wo_op rfl (op_makeFunc (fun _ q => by cases q) rfl rfl) rfl rfl ?_) | ((with_reducible refine ik_box ?_); refine wo_op rfl (op_boxAgg rfl zs43 rfl) rfl rfl ?_)) | with_reducible refine sq_norm ?_ | with_reducible refine wc_seq ?_ | with_reducible refine wc_region ?_ | with_reducible refine wc_ret ?_)
  exact rq1 rfl ⟨rfl, rfl⟩
set_option maxHeartbeats 8000000 in
theorem c130 {Y B N : Nat} (J : Nat → Nat → H → Prop) {nm : ByteArray} {x y tx ty nx ny px py : Int} {sh ch : Nat} {a : Option Addr} {n c : Nat} {rf : List Int} (hn : n < 1000000) (bd : LnOk x y tx ty nx ny px py sh ch)
    (hB : ∀ i k g, J i k g → At g B (.cells (lnC nm x y tx ty sh nx ny px py ch a n c) 43 12 false) ∧ N ≤ g.nx ∧ Wf g ∧ Sl G g 1 (.slice a n c) n (rf.map (.int .i64))) (hBN : B < N)
    (hst : ∀ i k g g', J i k g → Still N g g' → Wf g' → J i k g')
    (hr : ∀ i g, i < sh → J i ch g → J (i + 1) 0 g)
    (hs : ∀ i k g, i < sh → k < ch → decide ((i : Int) ∈ rf) = true → J i k g → J i (k + 1) g)
    (hy : ∀ i k g, i < sh → k < ch → decide ((i : Int) ∈ rf) = false → J i k g → Cf (mz G) (.func (.yield Y) #[] #[]) [.agg ⟨[.int .i64 (x + (i : Int) * tx), .int .i64 (y + (i : Int) * ty), .int .i64 (x + (i : Int) * tx + 1 * nx + (k : Int) * px), .int .i64 (y + (i : Int) * ty + 1 * ny + (k : Int) * py)]⟩] g fun v g' => v = .bool true ∧ J i (k + 1) g' ∧ Later N g g')
    (h0 : J 0 0 h) : Cf (mz G) (plF B) [.func (.yield Y) #[] #[]] h fun _ g => J sh 0 g := by
  obtain ⟨e1, e2, e3, e4⟩ := hB 0 0 h h0
  have hJ1 := fun g' (gr : Grow h g') (w : Wf g') => hst 0 0 h g' h0 (Still.of gr e2) w
  have q80 := fun (h' : H) => c80 (G := G) (h := h') (nm := nm) (x := x) (y := y) (tx := tx) (ty := ty) (sh := sh) (nx := nx) (ny := ny) (px := px) (py := py) (ch := ch) (a := a) (n := n) (c := c)
  refine cf_enter (sz := 20) (rs := []) (all := [.func (.yield Y) #[] #[], .pointer (some ⟨B, 0, some 0⟩)]) Tryz.func130 rfl rfl rfl rfl rfl ?_
  repeat' (first | with_reducible refine wo_nil ?_ | ((with_reducible refine wo_any ?_); first | ((with_reducible refine ik_box ?_); refine wo_op rfl (op_box1 rfl rfl zs189) rfl rfl ?_) | ((with_reducible refine ik_load ?_); refine wo_op rfl (op_ldAgg rfl at_A Tryz.underlying43 rfl zs43 rfl rfl) rfl rfl ?_) | ((with_reducible refine ik_callv ?_); (refine wo_call rfl rfl rfl rfl (q80 _) rfl rfl ?_; rintro _ _ ⟨rfl, rfl⟩; all_goals ((try (have hqn := hq.nx)); (try simp only [H.nx_push, H.nx_set, H.nx_bump] at hqn))))) | with_reducible refine sq_norm ?_ | with_reducible refine wc_seq ?_ | with_reducible refine wc_region ?_ | with_reducible refine wc_block ?_)
  refine wc_cut (ι := Nat) (fun b => [(1, .pointer (some ⟨B, 0, some 0⟩)), (2, .pointer (some ⟨h.nx, 0, some 0⟩)), (6, trF b)]) (fun b h' => b < h'.nx ∧ Wf h' ∧ J 0 0 h' ∧ At h' h.nx (.cells [.func (.yield Y) #[] #[]] 189 1 false) ∧ At h' b (.cells (lnC nm x y tx ty sh nx ny px py ch a n c) 43 12 false) ∧ h.nx < b) (h.nx + 1) (within_lk ⟨rfl, rfl, rfl, trivial⟩) ⟨?_, wf_A, hJ1 _ gr_A wf_A, at_A, at_A, ?_⟩ ?_
  · simp only [H.nx_push]; omega
  · omega
  clear hJ1 q80 e1 e3 e4
  rintro b h0 ⟨z1, w0, j0, a1, a2, z2⟩
  refine wc_rangeFunc2 rfl fun e lp he hlp => ?_
  refine (c138 (N := h0.nx + 1) (nm := nm) (x := x) (y := y) (tx := tx) (ty := ty) (sh := sh) (nx := nx) (ny := ny) (px := px) (py := py) (ch := ch) (a := a) (n := n) (c := c) (fun i k g => J i k g ∧ Wf g ∧ h0.nx + 1 ≤ g.nx ∧ At g h.nx (.cells [.func (.yield Y) #[] #[]] 189 1 false) ∧ At g b (.cells (lnC nm x y tx ty sh nx ny px py ch a n c) 43 12 false) ∧ At g h0.nx lp) (fun _ => False) bd ?_ ?_ ?_ ?_ ?_).mono ?_
  · rintro i k g ⟨_, w, nx', _, b', _⟩
    exact ⟨b', nx', w⟩
  · rintro i k g g' ⟨j, w, nx', c1, c2, c3⟩ gg ww
    exact ⟨hst _ _ _ _ j (Still.of gg (by omega)) ww, ww, Nat.le_trans nx' gg.nx, c1.grow gg, c2.grow gg, c3.grow gg⟩
  · rintro i g hi ⟨j, q⟩
    exact ⟨hr i g hi j, q⟩
  · rintro i k g hi hk ⟨j, w, nx', c1, c2, c3⟩
    have lc1 := c1.lt
    have lc2 := c2.lt
    obtain ⟨aB, _, _, sg⟩ := hB i k g j
    have lB := aB.lt
    have q131 := fun (h' : H) (x : Sl G h' 1 (.slice a n c) n (rf.map (.int .i64))) => c131 (z := (i : Int)) x hn
    have hyk := fun g' (st : Still N g g') (w : Wf g') (q : decide ((i : Int) ∈ rf) = false) => hy i k g' hi hk q (hst i k g g' j st w)
    have hsk := fun g' (st : Still N g g') (w : Wf g') (q : decide ((i : Int) ∈ rf) = true) => hs i k g' hi hk q (hst i k g g' j st w)
    have hsl := fun g' (st : Still N g g') (w : Wf g') => (hB i k g' (hst i k g g' j st w)).2.2.2
    clear hy hs hr j
    generalize x + (i : Int) * tx = X at hyk ⊢
    generalize y + (i : Int) * ty = Z at hyk ⊢
    generalize X + 1 * nx + (k : Int) * px = U at hyk ⊢
    generalize Z + 1 * ny + (k : Int) * py = V at hyk ⊢
    cases hin : decide ((i : Int) ∈ rf) with
    | true =>
      rw [hin] at q131
      have hsk := fun g' st w => hsk g' st w hin
      subst hlp
      refine cf_round c3.get he rfl rfl ?_
      repeat' (first | with_reducible refine wo_nil ?_ | ((with_reducible refine wo_any ?_); first | ((with_reducible refine ik_assign ?_); refine wo_op rfl (op_assign rfl) rfl rfl ?_) | ((with_reducible refine ik_alloc ?_); refine wo_op rfl (op_alloc zz81 zs81 rfl rfl rfl) rfl rfl ?_) | ((with_reducible refine ik_store ?_); refine wo_op0 rfl (op_stAgg rfl rfl at_A zs81 rfl rfl rfl rfl) rfl ?_)) | with_reducible refine sq_norm ?_ | with_reducible refine wc_seq ?_ | with_reducible refine wc_region ?_)
      refine ⟨rfl, _, _, _, _, _, At.get (b := h0.nx) (o := .loop .ready none e _ _ _) at_A, ?_⟩
      repeat' (first | with_reducible refine wo_nil ?_ | ((with_reducible refine wo_any ?_); first | ((with_reducible refine ik_move ?_); refine wo_op rfl (op_move rfl) rfl rfl ?_) | ((with_reducible refine ik_load ?_); refine wo_op rfl (op_ldAt rfl at_A Tryz.underlying41 rfl rfl) rfl rfl ?_) | ((with_reducible refine ik_fieldAddr ?_); refine wo_op rfl (op_fieldAddr (o := 11) rfl Tryz.underlying43 rfl zs41 rfl) rfl rfl ?_) | ((with_reducible refine ik_un ?_); refine wo_op rfl (op_not rfl) rfl rfl ?_) | ((with_reducible refine ik_pick ?_); refine wo_op rfl (op_pickf rfl rfl) rfl rfl ?_) | ((with_reducible refine ik_callv ?_); (refine wo_call rfl rfl rfl rfl (q131 _ (hsl _ ⟨by (try simp only [H.nx_push, H.nx_set]); omega, fun h1 hn gr => gr_A, fun b' o hb ha => by have lb := ha.lt; have ne := ne_loop hb (by omega) ha c3; exact at_A⟩ wf_A)) rfl rfl ?_; rintro _ _ ⟨rfl, hq⟩; all_goals ((try (have hqn := hq.nx)); (try simp only [H.nx_push, H.nx_set, H.nx_bump] at hqn)))) | ((with_reducible refine ik_g ?_); refine wo_gskip rfl rfl rfl rfl rfl rfl ?_)) | with_reducible refine sq_norm ?_ | with_reducible refine wc_seq ?_ | with_reducible refine wc_region ?_ | with_reducible refine wc_skip ?_ | with_reducible refine wc_block ?_ | with_reducible refine bq_norm ?_ | refine wc_iff rfl ?_)
      refine ⟨_, _, _, _, _, _, At.get (b := h0.nx) (o := .loop .busy none e _ _ _) at_A, .inl ⟨rfl, ⟨hsk _ ?_ wf_A, wf_A, ?_, at_A, at_A, at_A⟩, fun b' o hb _ ha => by have lb := ha.lt; exact at_A⟩⟩
      · exact ⟨by (try simp only [H.nx_push, H.nx_set]); omega, fun h1 hn gr => gr_A, fun b' o hb ha => by have lb := ha.lt; have ne := ne_loop hb (by omega) ha c3; exact at_A⟩
      · simp only [H.nx_push, H.nx_set]; omega
    | false =>
      rw [hin] at q131
      have hyk := fun g' st w => hyk g' st w hin
      subst hlp
      refine cf_round c3.get he rfl rfl ?_
      repeat' (first | with_reducible refine wo_nil ?_ | ((with_reducible refine wo_any ?_); first | ((with_reducible refine ik_assign ?_); refine wo_op rfl (op_assign rfl) rfl rfl ?_) | ((with_reducible refine ik_alloc ?_); refine wo_op rfl (op_alloc zz81 zs81 rfl rfl rfl) rfl rfl ?_) | ((with_reducible refine ik_store ?_); refine wo_op0 rfl (op_stAgg rfl rfl at_A zs81 rfl rfl rfl rfl) rfl ?_)) | with_reducible refine sq_norm ?_ | with_reducible refine wc_seq ?_ | with_reducible refine wc_region ?_)
      refine ⟨rfl, _, _, _, _, _, At.get (b := h0.nx) (o := .loop .ready none e _ _ _) at_A, ?_⟩
      repeat' (first | with_reducible refine wo_nil ?_ | ((with_reducible refine wo_any ?_); first | ((with_reducible refine ik_move ?_); refine wo_op rfl (op_move rfl) rfl rfl ?_) | ((with_reducible refine ik_load ?_); refine wo_op rfl (op_ldAt rfl at_A Tryz.underlying41 rfl rfl) rfl rfl ?_) | ((with_reducible refine ik_fieldAddr ?_); refine wo_op rfl (op_fieldAddr (o := 11) rfl Tryz.underlying43 rfl zs41 rfl) rfl rfl ?_) | ((with_reducible refine ik_un ?_); refine wo_op rfl (op_not rfl) rfl rfl ?_) | ((with_reducible refine ik_pick ?_); refine wo_op rfl (op_pickt rfl rfl) rfl rfl ?_) | ((with_reducible refine ik_callv ?_); (refine wo_call rfl rfl rfl rfl (q131 _ (hsl _ ⟨by (try simp only [H.nx_push, H.nx_set]); omega, fun h1 hn gr => gr_A, fun b' o hb ha => by have lb := ha.lt; have ne := ne_loop hb (by omega) ha c3; exact at_A⟩ wf_A)) rfl rfl ?_; rintro _ _ ⟨rfl, hq⟩; all_goals ((try (have hqn := hq.nx)); (try simp only [H.nx_push, H.nx_set, H.nx_bump] at hqn)))) | ((with_reducible refine ik_g ?_); first | ((with_reducible refine ig_load ?_); first | refine wo_grun rfl rfl rfl (op_ldAt rfl at_A Tryz.underlying189 rfl rfl) rfl rfl ?_ | refine wo_grun rfl rfl rfl (op_ldAgg rfl at_A Tryz.underlying81 rfl zs81 rfl rfl) rfl rfl ?_) | ((with_reducible refine ig_un ?_); refine wo_grun rfl rfl rfl (op_not rfl) rfl rfl ?_) | ((with_reducible refine ig_callv ?_); (refine wo_gcall rfl rfl rfl rfl rfl rfl ((hyk _ ⟨by (try simp only [H.nx_push, H.nx_set]); omega, fun h1 hn gr => gr_A, fun b' o hb ha => by have lb := ha.lt; have ne := ne_loop hb (by omega) ha c3; exact at_A⟩ wf_A)) rfl rfl ?_; rintro _ _ ⟨rfl, hj, hla⟩; all_goals ((try (have hqn := hq.nx)); (try simp only [H.nx_push, H.nx_set, H.nx_bump] at hqn)))))) | with_reducible refine sq_norm ?_ | with_reducible refine wc_seq ?_ | with_reducible refine wc_region ?_ | with_reducible refine wc_skip ?_ | with_reducible refine wc_block ?_ | with_reducible refine bq_norm ?_ | refine wc_iff rfl ?_)
      have c4 := hla h0.nx (.loop .busy none e _ _ _) (by omega) kpL at_A
      have c5 := hla h.nx (.cells [.func (.yield Y) #[] #[]] 189 1 false) (by omega) kpY at_A
      have c6 := hla b (.cells (lnC nm x y tx ty sh nx ny px py ch a n c) 43 12 false) (by omega) kp43 at_A
      have l4 := c4.lt
      have l5 := c5.lt
      have l6 := c6.lt
      have w4 := (hB _ _ _ hj).2.2.1
      refine ⟨_, _, _, _, _, _, c4.get, .inl ⟨rfl, ⟨hst _ _ _ _ hj ⟨by (try simp only [H.nx_push, H.nx_set]); omega, fun h1 hn gr => gr_A, fun b' o hb ha => by have lb := ha.lt; have ne := ne_loop hb (by omega) ha c4; exact at_A⟩ wf_A, wf_A, by simp only [H.nx_push, H.nx_set]; omega, at_A, at_A, at_A⟩, fun b' o hb kp ha => by have lb := ha.lt; exact (hla b' o (by omega) kp at_A).set_ne (by omega) _⟩⟩
  · exact ⟨hst _ _ _ _ j0 (Still.of gr_A (by omega)) wf_A, wf_A, (by simp only [H.nx_push, H.nx_bump]; omega), at_A, at_A, at_A⟩
  · rintro _ g (⟨j, w, nx', c1, c2, c3⟩ | q)
    · subst hlp
      refine ⟨_, _, _, _, _, _, c3.get, by simp, ?_⟩
      repeat' (with_reducible refine bq_norm ?_)
      exact rq0n (hst _ _ _ _ j ⟨by rw [H.nx_kill]; omega, fun h1 hn gr => gr_A, fun b' o hb ha => ha.kill_ne (ne_loop hb (by omega) ha c3)⟩ wf_A)
    · exact q.elim
end Go.Proofs.YtnkmencbnoipmaaGreatDoor

/- The places of a line by the program. -/
namespace Go.Proofs.YtnkmencbnoipmaaGreatDoor
open Go Go.Ab Go.Fl
attribute [local irreducible] SeqQ BlkQ LpQ RetQ Wc Wo WD WX Op1 Op1q Op1a Cf Cl From
attribute [local irreducible] Ieee.Format.order Ieee.Format.read Ieee.Format.nearest Ieee.Format.write Ieee.Format.mul Ieee.Format.div Ieee.Format.sqrt Ieee.Datum.order Ieee.Datum.integral K U rngE errN cntE cmpI indE ptE plaE firstNZ numsE lnE BigP isNameB nmE ascA errL chgV chgE
set_option maxRecDepth 10000
variable {G : Base} {h : H}

def OutR (lo : Nat) (h' : H) (v : Value) (out : List Pl) : Prop := (v = .slice none 0 0 ∧ out = []) ∨ ∃ e, lo ≤ e ∧ v = .slice (some ⟨e, 0, some 0⟩) out.length out.length ∧ At h' e (.cells (out.flatMap Pl.cells) 81 4 true)
theorem OutR.sl {lo : Nat} {v : Value} {out : List Pl} (q : OutR lo h v out) : Sl G h 4 v out.length (out.flatMap Pl.cells) := by
  rcases q with ⟨rfl, rfl⟩ | ⟨e, _, rfl, hat⟩
  · exact .nil
  · exact Sl.ofAt hat (flat_lenP _) (Nat.le_refl _)
theorem OutR.still {lo N : Nat} {h h' : H} {v : Value} {out : List Pl} (q : OutR lo h v out) (g : Still N h h') : OutR lo h' v out := by
  rcases q with q | ⟨e, h1, h2, hat⟩
  · exact .inl q
  · exact .inr ⟨e, h1, h2, g.at' _ _ (.inr noLoop_cells) hat⟩
def outI (x y tx ty nx ny px py : Int) (rf : List Int) (ch i k : Nat) : List Pl := plsP x y tx ty nx ny px py rf ch i ++ rowP x y tx ty nx ny px py rf k i
theorem rowP_0 {x y tx ty nx ny px py : Int} {rf : List Int} {i : Nat} : rowP x y tx ty nx ny px py rf 0 i = [] := by unfold rowP; split <;> rfl
theorem outI_row {x y tx ty nx ny px py : Int} {rf : List Int} {ch i : Nat} : outI x y tx ty nx ny px py rf ch i ch = outI x y tx ty nx ny px py rf ch (i + 1) 0 := by
  unfold outI; rw [plsP_next, rowP_0, List.append_nil]
theorem outI_in {x y tx ty nx ny px py : Int} {rf : List Int} {ch i k : Nat} (q : decide ((i : Int) ∈ rf) = true) : outI x y tx ty nx ny px py rf ch i (k + 1) = outI x y tx ty nx ny px py rf ch i k := by
  unfold outI; rw [rowP_in q, rowP_in q]
theorem outI_out {x y tx ty nx ny px py : Int} {rf : List Int} {ch i k : Nat} (q : decide ((i : Int) ∈ rf) = false) : outI x y tx ty nx ny px py rf ch i (k + 1) = outI x y tx ty nx ny px py rf ch i k ++ [plAt x y tx ty nx ny px py i k] := by
  unfold outI; rw [rowP_out q, rowP_out q, List.range_succ, List.map_append, List.append_assoc]; rfl
theorem outI_len {x y tx ty nx ny px py : Int} {rf : List Int} {ch i k : Nat} (h1 : i ≤ 64) (h2 : ch ≤ 16) (h3 : k ≤ 16) : (outI x y tx ty nx ny px py rf ch i k).length ≤ 2000 := by
  unfold outI
  rw [List.length_append]
  have a := plsP_len (x := x) (y := y) (tx := tx) (ty := ty) (nx := nx) (ny := ny) (px := px) (py := py) (rf := rf) (ch := ch) i
  have b := rowP_len (x := x) (y := y) (tx := tx) (ty := ty) (nx := nx) (ny := ny) (px := px) (py := py) (rf := rf) (ch := k) (i := i)
  have c : i * ch ≤ 64 * 16 := Nat.mul_le_mul h1 h2
  omega
theorem ne_kp {h : H} {b e : Nat} {o : AObj} {c : List Value} {s : Bool} (hk : Kp o) (ha : At h b o) (hat : At h e (.cells c 81 4 s)) : b ≠ e := by
  rintro rfl
  have := ha.get.symm.trans hat.get
  injection this with this
  exact hk _ _ this
set_option maxHeartbeats 8000000 in
theorem c129 {B : Nat} {nm : ByteArray} {x y tx ty nx ny px py : Int} {sh ch : Nat} {a : Option Addr} {n c : Nat} {rf : List Int} (s : Sl G h 1 (.slice a n c) n (rf.map (.int .i64))) (hn : n < 1000000) (bd : LnOk x y tx ty nx ny px py sh ch) (hw : Wf h) (at1 : At h B (.cells (lnC nm x y tx ty sh nx ny px py ch a n c) 43 12 false)) : Cf (mz G) (.func (.func 129) #[] #[]) [.slice none 0 0, plF B] h fun r h' => Sl G h' 4 r (plsP x y tx ty nx ny px py rf ch sh).length ((plsP x y tx ty nx ny px py rf ch sh).flatMap Pl.cells) ∧ Grow h h' := by
  have hS := bd.hS
  have hC := bd.hC
  have lB := at1.lt
  refine cf_enter0 13 [.tmp 4] Tryz.func129 rfl rfl rfl rfl ?_
  repeat' (first | with_reducible refine wo_nil ?_ | ((with_reducible refine wo_any ?_); first | ((with_reducible refine ik_move ?_); refine wo_op rfl (op_move rfl) rfl rfl ?_) | ((with_reducible refine ik_assign ?_); refine wo_op rfl (op_assign rfl) rfl rfl ?_) | ((with_reducible refine ik_box ?_); refine wo_op rfl (op_box1 rfl rfl zs38) rfl rfl ?_)) | with_reducible refine sq_norm ?_ | with_reducible refine wc_seq ?_ | with_reducible refine wc_region ?_ | with_reducible refine wc_block ?_)
  refine wc_cut (ι := Unit) (fun _ => [(2, .pointer (some ⟨h.nx, 0, some 0⟩)), (6, plF B)]) (fun _ h' => Wf h' ∧ Grow h h' ∧ At h' h.nx (.cells [.slice none 0 0] 38 1 false)) () (within_lk ⟨rfl, rfl, trivial⟩) ⟨wf_A, gr_A, at_A⟩ ?_
  rintro _ h0 ⟨w0, g0, a1⟩
  have n0 := g0.nx
  have l1 := a1.lt
  have aB := at1.grow g0
  refine wc_rangeFunc2 rfl fun e0 lp he hlp => ?_
  refine (c130 (N := h0.nx + 1) (nm := nm) (a := a) (n := n) (c := c) (rf := rf) (fun i k g => (Wf g ∧ Grow h g ∧ h0.nx + 1 ≤ g.nx) ∧ At g B (.cells (lnC nm x y tx ty sh nx ny px py ch a n c) 43 12 false) ∧ At g h0.nx lp ∧ ∃ v, At g h.nx (.cells [v] 38 1 false) ∧ OutR (h.nx + 1) g v (outI x y tx ty nx ny px py rf ch i k)) hn bd ?_ (by omega) ?_ ?_ ?_ ?_ ?_).mono ?_
  · rintro i k g ⟨⟨w, gr, nx'⟩, b', _⟩
    exact ⟨b', nx', w, s.grow gr⟩
  · rintro i k g g' ⟨⟨w, gr, nx'⟩, c1, c2, v, c3, c4⟩ st ww
    exact ⟨⟨ww, st.grow _ (by omega) gr, st.nx⟩, st.at' _ _ (.inl (by omega)) c1, st.at' _ _ (.inl (by omega)) c2, v, st.at' _ _ (.inl (by omega)) c3, c4.still st⟩
  · rintro i g hi ⟨q1, q2, q3, v, q4, q5⟩
    exact ⟨q1, q2, q3, v, q4, by rw [← outI_row]; exact q5⟩
  · rintro i k g hi hk hin ⟨q1, q2, q3, v, q4, q5⟩
    exact ⟨q1, q2, q3, v, q4, by rw [outI_in hin]; exact q5⟩
  · rintro i k g hi hk hin ⟨⟨w, gr, nx'⟩, c1, c2, v, c3, c4⟩
    have lc1 := c1.lt
    have lc3 := c3.lt
    have gn := gr.nx
    have hlen := outI_len (x := x) (y := y) (tx := tx) (ty := ty) (nx := nx) (ny := ny) (px := px) (py := py) (rf := rf) (ch := ch) (i := i) (k := k) (by omega) (by omega) (by omega)
    have nxt := outI_out (x := x) (y := y) (tx := tx) (ty := ty) (nx := nx) (ny := ny) (px := px) (py := py) (ch := ch) (k := k) hin
    obtain ⟨out, hout⟩ : ∃ l, outI x y tx ty nx ny px py rf ch i k = l := ⟨_, rfl⟩
    rw [hout] at nxt c4 hlen
    obtain ⟨P, hP⟩ : ∃ P, plAt x y tx ty nx ny px py i k = P := ⟨_, rfl⟩
    rw [hP] at nxt
    unfold plAt at hP
    generalize x + (i : Int) * tx = X at hP ⊢
    generalize y + (i : Int) * ty = Z at hP ⊢
    generalize X + 1 * nx + (k : Int) * px = U at hP ⊢
    generalize Z + 1 * ny + (k : Int) * py = V at hP ⊢
    subst hP
    subst hlp
    refine cf_round c2.get he rfl rfl ?_
    repeat' (first | with_reducible refine wo_nil ?_ | ((with_reducible refine wo_any ?_); first | ((with_reducible refine ik_alloc ?_); refine wo_op rfl (op_alloc zz81 zs81 rfl rfl rfl) rfl rfl ?_) | ((with_reducible refine ik_store ?_); refine wo_op0 rfl (op_stAgg rfl rfl at_A zs81 rfl rfl rfl rfl) rfl ?_)) | with_reducible refine wc_region ?_)
    refine ⟨rfl, _, _, _, _, _, At.get (b := h0.nx) (o := .loop .ready none e0 _ _ _) at_A, ?_⟩
    rcases c4 with ⟨rfl, rfl⟩ | ⟨e, hb, rfl, hat⟩
    · repeat' (first | with_reducible refine wo_nil ?_ | ((with_reducible refine wo_any ?_); first | ((with_reducible refine ik_callb ?_); refine wo_op rfl (op_append rfl rfl (append_nil_eq (M := mz G) (st := 38) (xt := 38) (m := 1) Tryz.underlying38 Tryz.underlying38 rfl zs81 zb81 zz81 rfl (Sl.ofAt at_A rfl (Nat.le_refl _)) rfl (by omega) (by omega))) rfl rfl ?_) | ((with_reducible refine ik_store ?_); refine wo_op0 rfl (op_st1 rfl rfl at_A rfl zs38 rfl rfl rfl) rfl ?_) | ((with_reducible refine ik_load ?_); first | refine wo_op rfl (op_ldAt rfl at_A Tryz.underlying38 rfl rfl) rfl rfl ?_ | refine wo_op rfl (op_ldAgg rfl at_A Tryz.underlying81 rfl zs81 rfl rfl) rfl rfl ?_) | ((with_reducible refine ik_buildSlice ?_); refine wo_op rfl (op_buildSl rfl Tryz.underlying38 zs81 zz81 rfl rfl) rfl rfl ?_)) | with_reducible refine wc_region ?_ | with_reducible refine wc_block ?_ | with_reducible refine bq_norm ?_)
      refine ⟨_, _, _, _, _, _, At.get (b := h0.nx) (o := .loop .busy none e0 _ _ _) at_A, ⟨rfl, ⟨⟨wf_A, gr_A, ?_⟩, at_A, at_A, _, at_A, ?_⟩, ?_⟩⟩
      · simp only [H.nx_push, H.nx_set, H.nx_bump, H.nx_kill]; omega
      · rw [nxt]
        refine .inr ⟨_, ?_, rfl, at_A⟩
        simp only [H.nx_push, H.nx_set, H.nx_bump, H.nx_kill]; omega
      · exact fun b' o hb kp ha => by have lb := ha.lt; exact at_A
    · have le := hat.lt
      have nee := ne_loop (N := h0.nx) (.inr noLoop_cells) (Nat.le_refl _) hat c2
      repeat' (first | with_reducible refine wo_nil ?_ | ((with_reducible refine wo_any ?_); first | ((with_reducible refine ik_callb ?_); refine wo_op rfl (op_append rfl rfl (append_own_eq (M := mz G) (st := 38) (xt := 38) (m := 1) Tryz.underlying38 Tryz.underlying38 rfl zs81 zb81 zz81 rfl (Sl.ofAt at_A rfl (Nat.le_refl _)) rfl (b := e) (c := out.flatMap Pl.cells) at_A (flat_lenP _) (by omega) (by omega))) rfl rfl ?_) | ((with_reducible refine ik_store ?_); refine wo_op0 rfl (op_st1 rfl rfl at_A rfl zs38 rfl rfl rfl) rfl ?_) | ((with_reducible refine ik_load ?_); first | refine wo_op rfl (op_ldAt rfl at_A Tryz.underlying38 rfl rfl) rfl rfl ?_ | refine wo_op rfl (op_ldAgg rfl at_A Tryz.underlying81 rfl zs81 rfl rfl) rfl rfl ?_) | ((with_reducible refine ik_buildSlice ?_); refine wo_op rfl (op_buildSl rfl Tryz.underlying38 zs81 zz81 rfl rfl) rfl rfl ?_)) | with_reducible refine wc_region ?_ | with_reducible refine wc_block ?_ | with_reducible refine bq_norm ?_)
      refine ⟨_, _, _, _, _, _, At.get (b := h0.nx) (o := .loop .busy none e0 _ _ _) at_A, ⟨rfl, ⟨⟨wf_A, gr_A, ?_⟩, at_A, at_A, _, at_A, ?_⟩, ?_⟩⟩
      · simp only [H.nx_push, H.nx_set, H.nx_bump, H.nx_kill]; omega
      · rw [nxt]
        refine .inr ⟨_, ?_, by rw [List.length_append]; rfl, by rw [List.flatMap_append]; exact at_A⟩
        simp only [H.nx_push, H.nx_set, H.nx_bump, H.nx_kill]; omega
      · exact fun b' o hb kp ha => by have lb := ha.lt; have ne := ne_kp kp ha hat; exact at_A
  · exact ⟨⟨wf_A, gr_A, (by simp only [H.nx_push]; omega)⟩, at_A, at_A, _, at_A, .inl ⟨rfl, by unfold outI plsP; rw [rowP_0]; rfl⟩⟩
  · rintro _ g ⟨⟨w, gr, nx'⟩, c1, c2, v, c3, c4⟩
    subst hlp
    refine ⟨_, _, _, _, _, _, c2.get, by simp, ?_⟩
    repeat' (first | with_reducible refine wo_nil ?_ | ((with_reducible refine wo_any ?_); first | ((with_reducible refine ik_assign ?_); refine wo_op rfl (op_assign rfl) rfl rfl ?_) | ((with_reducible refine ik_load ?_); refine wo_op rfl (op_ldAt rfl at_A Tryz.underlying38 rfl rfl) rfl rfl ?_)) | with_reducible refine sq_norm ?_ | with_reducible refine wc_seq ?_ | with_reducible refine wc_region ?_ | with_reducible refine wc_ret ?_ | with_reducible refine bq_norm ?_)
    refine rq1 rfl ⟨?_, gr_A⟩
    have e1 : outI x y tx ty nx ny px py rf ch sh 0 = plsP x y tx ty nx ny px py rf ch sh := by unfold outI; rw [rowP_0, List.append_nil]
    rw [e1] at c4
    have st : Still (h0.nx) g (g.kill h0.nx) := ⟨by rw [H.nx_kill]; omega, fun h1 hn gr => gr_A, fun b' o hb ha => ha.kill_ne (ne_loop hb (by omega) ha c2)⟩
    exact (c4.still st).sl
end Go.Proofs.YtnkmencbnoipmaaGreatDoor

/- Places by the program. -/
namespace Go.Proofs.YtnkmencbnoipmaaGreatDoor
open Go Go.Ab Go.Fl
attribute [local irreducible] SeqQ BlkQ LpQ RetQ Wc Wo WD WX Op1 Op1q Op1a Cf Cl From
attribute [local irreducible] Ieee.Format.order Ieee.Format.read Ieee.Format.nearest Ieee.Format.write Ieee.Format.mul Ieee.Format.div Ieee.Format.sqrt Ieee.Datum.order Ieee.Datum.integral K U rngE errN cntE cmpI indE ptE plaE firstNZ numsE lnE BigP isNameB nmE ascA errL chgV chgE
set_option maxRecDepth 10000
variable {G : Base} {h : H}

theorem c72 {B : Nat} {nm : ByteArray} {x y tx ty nx ny px py : Int} {sh ch : Nat} {a : Option Addr} {n c : Nat} {rf : List Int} (s : Sl G h 1 (.slice a n c) n (rf.map (.int .i64))) (hn : n < 1000000) (bd : LnOk x y tx ty nx ny px py sh ch) (hw : Wf h) (at1 : At h B (.cells (lnC nm x y tx ty sh nx ny px py ch a n c) 43 12 false)) : Cf (mz G) (.func (.func 72) #[] #[]) [plF B] h fun r h' => Sl G h' 4 r (plsP x y tx ty nx ny px py rf ch sh).length ((plsP x y tx ty nx ny px py rf ch sh).flatMap Pl.cells) ∧ Grow h h' := by
  have q129 := fun (h' : H) (g : Grow h h') (w' : Wf h') => c129 (nm := nm) (rf := rf) (s.grow g) hn bd w' (at1.grow g)
  refine cf_enter0 5 [.tmp 2] Tryz.func72 rfl rfl rfl rfl ?_
  repeat' (first | with_reducible refine wo_nil ?_ | ((with_reducible refine wo_any ?_); first | ((with_reducible refine ik_move ?_); refine wo_op rfl (op_move rfl) rfl rfl ?_) | ((with_reducible refine ik_assign ?_); refine wo_op rfl (op_assign rfl) rfl rfl ?_) | ((with_reducible refine ik_callv ?_); (refine wo_call rfl rfl rfl rfl (q129 _ gr_A wf_A) rfl rfl ?_; rintro _ _ ⟨hs, hq⟩; all_goals ((try (have hqn := hq.nx)); (try simp only [H.nx_push, H.nx_set, H.nx_bump] at hqn))))) | with_reducible refine sq_norm ?_ | with_reducible refine wc_seq ?_ | with_reducible refine wc_region ?_ | with_reducible refine wc_ret ?_)
  exact rq1 rfl ⟨hs, gr_A⟩
set_option maxHeartbeats 4000000 in
theorem c16 {nm : ByteArray} {x y tx ty nx ny px py : Int} {shi chi : Int} {a : Option Addr} {n c : Nat} {rf : List Int} (s : Sl G h 1 (.slice a n c) n (rf.map (.int .i64))) (hn : n < 1000000) (hw : Wf h) (hG : ∀ a v, laidBase a = some v → G a = some v) : Cf (mz G) (.func (.func 16) #[] #[]) [.agg ⟨lnC nm x y tx ty shi nx ny px py chi a n c⟩] h fun r h' => ∃ (v : Value) (ps : List Pl), r = .tuple #[v, .int .i64 (lnE nm x y tx ty shi nx ny px py chi rf)] ∧ Sl G h' 4 v ps.length (ps.flatMap Pl.cells) ∧ (lnE nm x y tx ty shi nx ny px py chi rf ≠ 0 → ps = []) ∧ (∀ sh ch : Nat, shi = (sh : Int) → chi = (ch : Int) → lnE nm x y tx ty shi nx ny px py chi rf = 0 → ps = (plsP x y tx ty nx ny px py rf ch sh)) ∧ Grow h h' := by
  have q20 := fun (h' : H) (g : Grow h h') (w' : Wf h') => c20 (nm := nm) (x := x) (y := y) (tx := tx) (ty := ty) (sh := shi) (nx := nx) (ny := ny) (px := px) (py := py) (ch := chi) (s.grow g) hn w' hG
  obtain ⟨E, hE⟩ : ∃ E, lnE nm x y tx ty shi nx ny px py chi rf = E := ⟨_, rfl⟩
  rw [hE] at q20 ⊢
  by_cases hz : E = 0
  · subst hz
    obtain ⟨sh, ch, rfl, rfl, _, _, bd⟩ := nums_lnok (lnE_inv hE).2.1
    clear hE
    have q73 := fun (h' : H) => c73 (G := G) (h := h') (nm := nm) (x := x) (y := y) (tx := tx) (ty := ty) (sh := sh) (nx := nx) (ny := ny) (px := px) (py := py) (ch := ch) (a := a) (n := n) (c := c) (rf := rf)
    have q72 := fun (h' : H) (B : Nat) (g : Grow h h') (w' : Wf h') (a1 : At h' B (.cells (lnC nm x y tx ty sh nx ny px py ch a n c) 43 12 false)) => c72 (nm := nm) (rf := rf) (s.grow g) hn bd w' a1
    refine cf_enter0 13 [.tmp 2, .tmp 3] Tryz.func16 rfl rfl rfl rfl ?_
    repeat' (first | with_reducible refine wo_nil ?_ | ((with_reducible refine wo_any ?_); first | ((with_reducible refine ik_move ?_); refine wo_op rfl (op_move rfl) rfl rfl ?_) | ((with_reducible refine ik_assign ?_); refine wo_op rfl (op_assign rfl) rfl rfl ?_) | ((with_reducible refine ik_box ?_); refine wo_op rfl (op_boxAgg rfl zs43 rfl) rfl rfl ?_) | ((with_reducible refine ik_load ?_); refine wo_op rfl (op_ldAgg rfl at_A Tryz.underlying43 rfl zs43 rfl rfl) rfl rfl ?_) | ((with_reducible refine ik_bin ?_); refine wo_op rfl (op_neq rfl rfl) rfl rfl ?_) | ((with_reducible refine ik_callv ?_); first | (refine wo_call rfl rfl rfl rfl (q20 _ gr_A wf_A) rfl rfl ?_; rintro _ _ ⟨rfl, hq⟩; all_goals ((try (have hqn := hq.nx)); (try simp only [H.nx_push, H.nx_set, H.nx_bump] at hqn))) | (refine wo_call rfl rfl rfl rfl (q73 _) rfl rfl ?_; rintro _ _ ⟨rfl, rfl⟩; all_goals ((try (have hqn := hq.nx)); (try simp only [H.nx_push, H.nx_set, H.nx_bump] at hqn))) | (refine wo_call rfl rfl rfl rfl (q72 _ _ gr_A wf_A at_A) rfl rfl ?_; rintro _ _ ⟨hs, hq⟩; all_goals ((try (have hqn := hq.nx)); (try simp only [H.nx_push, H.nx_set, H.nx_bump] at hqn))))) | with_reducible refine sq_norm ?_ | with_reducible refine wc_seq ?_ | with_reducible refine wc_region ?_ | with_reducible refine wc_skip ?_ | with_reducible refine wc_ret ?_ | refine wc_iff rfl ?_)
    exact rq2 rfl rfl ⟨_, _, rfl, hs, fun q => absurd rfl q, fun sh' ch' e1 e2 _ => by rw [show sh' = sh by omega, show ch' = ch by omega], gr_A⟩
  · refine cf_enter0 13 [.tmp 2, .tmp 3] Tryz.func16 rfl rfl rfl rfl ?_
    repeat' (first | with_reducible refine wo_nil ?_ | ((with_reducible refine wo_any ?_); first | ((with_reducible refine ik_move ?_); refine wo_op rfl (op_move rfl) rfl rfl ?_) | ((with_reducible refine ik_assign ?_); refine wo_op rfl (op_assign rfl) rfl rfl ?_) | ((with_reducible refine ik_box ?_); refine wo_op rfl (op_boxAgg rfl zs43 rfl) rfl rfl ?_) | ((with_reducible refine ik_load ?_); refine wo_op rfl (op_ldAgg rfl at_A Tryz.underlying43 rfl zs43 rfl rfl) rfl rfl ?_) | ((with_reducible refine ik_bin ?_); refine wo_op rfl (op_neq rfl rfl) rfl rfl ?_) | ((with_reducible refine ik_callv ?_); (refine wo_call rfl rfl rfl rfl (q20 _ gr_A wf_A) rfl rfl ?_; rintro _ _ ⟨rfl, hq⟩; all_goals ((try (have hqn := hq.nx)); (try simp only [H.nx_push, H.nx_set, H.nx_bump] at hqn))))) | with_reducible refine sq_norm ?_ | with_reducible refine wc_seq ?_ | with_reducible refine wc_region ?_ | with_reducible refine wc_ret ?_ | with_reducible refine sq_ret ?_ | (refine wc_if rfl (fun hb => ?_) (fun hb => dead_A hb); (try simp only [decide_eq_true_eq, decide_eq_false_iff_not, Bool.not_eq_true', Bool.not_eq_false', Int.not_lt, Int.not_le, Decidable.not_not, not_true_eq_false, not_false_eq_true, beq_self_eq_true, reduceCtorEq] at hb)))
    exact rq2 rfl rfl ⟨_, [], rfl, .nil, fun _ => rfl, fun _ _ _ _ q => absurd q hz, gr_A⟩
end Go.Proofs.YtnkmencbnoipmaaGreatDoor
