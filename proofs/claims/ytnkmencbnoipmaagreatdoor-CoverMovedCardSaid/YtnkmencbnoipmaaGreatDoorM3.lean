/- Cover: the places of a line by the program, which are told by an iterator within an iterator. -/
import Derived.Test.YtnkmencbnoipmaaGreatDoorM2
set_option linter.all false
/- The iterator of places. -/
namespace Go.Proofs.YtnkmencbnoipmaaGreatDoor
open Go Go.Ab Go.Fl
attribute [local irreducible] SeqQ BlkQ LpQ RetQ Wc Wo WD WX Op1 Op1q Op1a Cf Cl From
attribute [local irreducible] Ieee.Format.order Ieee.Format.read Ieee.Format.nearest Ieee.Format.write Ieee.Format.mul Ieee.Format.div Ieee.Format.sqrt Ieee.Datum.order Ieee.Datum.integral K U rngE errN cntE cmpI indE ptE plaE firstNZ numsE lnE BigP isNameB nmE ascA errL chgV chgE
set_option maxRecDepth 10000
variable {G : Base} {h : H}

@[reducible] def plF (B : Nat) : Value := .func (.func 130) #[] #[.pointer (some ⟨B, 0, some 0⟩)]
def NoLoop (o : AObj) : Prop := ∀ a b c d e f, o ≠ .loop a b c d e f
theorem noLoop_cells {c : List Value} {e : TypeId} {n : Nat} {s : Bool} : NoLoop (.cells c e n s) := by intro _ _ _ _ _ _ q; cases q
theorem kpL {a b c d e f} : Kp (.loop a b c d e f) := by intro _ _ q; cases q
theorem kpY {c : List Value} {s : Bool} : Kp (.cells c 189 1 s) := by intro _ _ q; simp at q
theorem kp43 {c : List Value} {s : Bool} : Kp (.cells c 43 12 s) := by intro _ _ q; simp at q
theorem ne_loop {h : H} {N b m : Nat} {o : AObj} {p q r s t u} (hb : b < N ∨ NoLoop o) (hm : N ≤ m) (ha : At h b o) (c : At h m (.loop p q r s t u)) : b ≠ m := by
  rcases hb with hb | hb
  · omega
  · rintro rfl
    have := ha.get.symm.trans c.get
    injection this with this
    exact hb _ _ _ _ _ _ this
/-- Only loops from a block on may have gone on. -/
structure Still (N : Nat) (g g' : H) : Prop where
  nx : N ≤ g'.nx
  grow : ∀ h1 : H, h1.nx ≤ N → Grow h1 g → Grow h1 g'
  at' : ∀ b o, (b < N ∨ NoLoop o) → At g b o → At g' b o
theorem Still.of {N : Nat} {g g' : H} (x : Grow g g') (hn : N ≤ g.nx) : Still N g g' := ⟨Nat.le_trans hn x.nx, fun _ _ q => q.trans x, fun _ _ _ q => q.grow x⟩
theorem c73 {nm : ByteArray} {x y tx ty nx ny px py : Int} {sh ch : Nat} {a : Option Addr} {n c : Nat} {rf : List Int} : Cf (mz G) (.func (.func 73) #[] #[]) [.agg ⟨lnC nm x y tx ty sh nx ny px py ch a n c⟩] h fun r h' => r = plF h.nx ∧ h' = h.push (.cells (lnC nm x y tx ty sh nx ny px py ch a n c) 43 12 false) := by
  refine cf_enter0 4 [.tmp 2] Tryz.func73 rfl rfl rfl rfl ?_
  repeat' (first | with_reducible refine wo_nil ?_ | ((with_reducible refine wo_any ?_); first | ((with_reducible refine ik_assign ?_); refine wo_op rfl (op_assign rfl) rfl rfl ?_) | ((with_reducible refine ik_makeFunc ?_); refine wo_op rfl (op_makeFunc (fun _ q => by cases q) rfl rfl) rfl rfl ?_) | ((with_reducible refine ik_box ?_); refine wo_op rfl (op_boxAgg rfl zs43 rfl) rfl rfl ?_)) | with_reducible refine sq_norm ?_ | with_reducible refine wc_seq ?_ | with_reducible refine wc_region ?_ | with_reducible refine wc_ret ?_)
  exact rq1 rfl ⟨rfl, rfl⟩
set_option maxHeartbeats 8000000 in
theorem c130 {Y B N : Nat} (J : Nat → Nat → H → Prop) {nm : ByteArray} {x y tx ty nx ny px py : Int} {sh ch : Nat} {a : Option Addr} {n c : Nat} {rf : List Int} (hn : n < 1000000) (bd : LnOk x y tx ty nx ny px py sh ch)
    (hB : ∀ i k g, J i k g → At g B (.cells (lnC nm x y tx ty sh nx ny px py ch a n c) 43 12 false) ∧ N ≤ g.nx ∧ Wf g ∧ Sl G g 1 (.slice a n c) n (rf.map (.int .i64))) (hBN : B < N)
    (hst : ∀ i k g g', J i k g → Still N g g' → Wf g' → J i k g')
    (hr : ∀ i g, i < sh → J i ch g → J (i + 1) 0 g)
    (hs : ∀ i k g, i < sh → k < ch → decide ((i : Int) ∈ rf) = true → J i k g → J i (k + 1) g)
    (hy : ∀ i k g, i < sh → k < ch → decide ((i : Int) ∈ rf) = false → J i k g → Cf (mz G) (.func (.yield Y) #[] #[]) [.agg ⟨[.int .i64 (x + (i : Int) * tx), .int .i64 (y + (i : Int) * ty), .int .i64 (x + (i : Int) * tx + 1 * nx + (k : Int) * px), .int .i64 (y + (i : Int) * ty + 1 * ny + (k : Int) * py)]⟩] g fun v g' => v = .bool true ∧ J i (k + 1) g' ∧ Later N g g')
    (h0 : J 0 0 h) : Cf (mz G) (plF B) [.func (.yield Y) #[] #[]] h fun _ g => J sh 0 g := by
  obtain ⟨e1, e2, e3, e4⟩ := hB 0 0 h h0
  have hJ1 := fun g' (gr : Grow h g') (w : Wf g') => hst 0 0 h g' h0 (Still.of gr e2) w
  have q80 := fun (h' : H) => c80 (G := G) (h := h') (nm := nm) (x := x) (y := y) (tx := tx) (ty := ty) (sh := sh) (nx := nx) (ny := ny) (px := px) (py := py) (ch := ch) (a := a) (n := n) (c := c)
  refine cf_enter (sz := 20) (rs := []) (all := [.func (.yield Y) #[] #[], .pointer (some ⟨B, 0, some 0⟩)]) Tryz.func130 rfl rfl rfl rfl rfl ?_
  repeat' (first | with_reducible refine wo_nil ?_ | ((with_reducible refine wo_any ?_); first | ((with_reducible refine ik_box ?_); refine wo_op rfl (op_box1 rfl rfl zs189) rfl rfl ?_) | ((with_reducible refine ik_load ?_); refine wo_op rfl (op_ldAgg rfl at_A Tryz.underlying43 rfl zs43 rfl rfl) rfl rfl ?_) | ((with_reducible refine ik_callv ?_); (refine wo_call rfl rfl rfl rfl (q80 _) rfl rfl ?_; rintro _ _ ⟨rfl, rfl⟩; all_goals ((try (have hqn := hq.nx)); (try simp only [H.nx_push, H.nx_set, H.nx_bump] at hqn))))) | with_reducible refine sq_norm ?_ | with_reducible refine wc_seq ?_ | with_reducible refine wc_region ?_ | with_reducible refine wc_block ?_)
  refine wc_cut (ι := Nat) (fun b => [(1, .pointer (some ⟨B, 0, some 0⟩)), (2, .pointer (some ⟨h.nx, 0, some 0⟩)), (6, trF b)]) (fun b h' => b < h'.nx ∧ Wf h' ∧ J 0 0 h' ∧ At h' h.nx (.cells [.func (.yield Y) #[] #[]] 189 1 false) ∧ At h' b (.cells (lnC nm x y tx ty sh nx ny px py ch a n c) 43 12 false) ∧ h.nx < b) (h.nx + 1) (within_lk ⟨rfl, rfl, rfl, trivial⟩) ⟨?_, wf_A, hJ1 _ gr_A wf_A, at_A, at_A, ?_⟩ ?_
  · simp only [H.nx_push]; omega
  · omega
  clear hJ1 q80 e1 e3 e4
  rintro b h0 ⟨z1, w0, j0, a1, a2, z2⟩
  refine wc_rangeFunc2 rfl fun e lp he hlp => ?_
  refine (c138 (N := h0.nx + 1) (nm := nm) (x := x) (y := y) (tx := tx) (ty := ty) (sh := sh) (nx := nx) (ny := ny) (px := px) (py := py) (ch := ch) (a := a) (n := n) (c := c) (fun i k g => J i k g ∧ Wf g ∧ h0.nx + 1 ≤ g.nx ∧ At g h.nx (.cells [.func (.yield Y) #[] #[]] 189 1 false) ∧ At g b (.cells (lnC nm x y tx ty sh nx ny px py ch a n c) 43 12 false) ∧ At g h0.nx lp) (fun _ => False) bd ?_ ?_ ?_ ?_ ?_).mono ?_
  · rintro i k g ⟨_, w, nx', _, b', _⟩
    exact ⟨b', nx', w⟩
  · rintro i k g g' ⟨j, w, nx', c1, c2, c3⟩ gg ww
    exact ⟨hst _ _ _ _ j (Still.of gg (by omega)) ww, ww, Nat.le_trans nx' gg.nx, c1.grow gg, c2.grow gg, c3.grow gg⟩
  · rintro i g hi ⟨j, q⟩
    exact ⟨hr i g hi j, q⟩
  · rintro i k g hi hk ⟨j, w, nx', c1, c2, c3⟩
    have lc1 := c1.lt
    have lc2 := c2.lt
    obtain ⟨aB, _, _, sg⟩ := hB i k g j
    have lB := aB.lt
    have q131 := fun (h' : H) (x : Sl G h' 1 (.slice a n c) n (rf.map (.int .i64))) => c131 (z := (i : Int)) x hn
    have hyk := fun g' (st : Still N g g') (w : Wf g') (q : decide ((i : Int) ∈ rf) = false) => hy i k g' hi hk q (hst i k g g' j st w)
    have hsk := fun g' (st : Still N g g') (w : Wf g') (q : decide ((i : Int) ∈ rf) = true) => hs i k g' hi hk q (hst i k g g' j st w)
    have hsl := fun g' (st : Still N g g') (w : Wf g') => (hB i k g' (hst i k g g' j st w)).2.2.2
    clear hy hs hr j
    generalize x + (i : Int) * tx = X at hyk ⊢
    generalize y + (i : Int) * ty = Z at hyk ⊢
    generalize X + 1 * nx + (k : Int) * px = U at hyk ⊢
    generalize Z + 1 * ny + (k : Int) * py = V at hyk ⊢
    cases hin : decide ((i : Int) ∈ rf) with
    | true =>
      rw [hin] at q131
      have hsk := fun g' st w => hsk g' st w hin
      subst hlp
      refine cf_round c3.get he rfl rfl ?_
      repeat' (first | with_reducible refine wo_nil ?_ | ((with_reducible refine wo_any ?_); first | ((with_reducible refine ik_assign ?_); refine wo_op rfl (op_assign rfl) rfl rfl ?_) | ((with_reducible refine ik_alloc ?_); refine wo_op rfl (op_alloc zz81 zs81 rfl rfl rfl) rfl rfl ?_) | ((with_reducible refine ik_store ?_); refine wo_op0 rfl (op_stAgg rfl rfl at_A zs81 rfl rfl rfl rfl) rfl ?_)) | with_reducible refine sq_norm ?_ | with_reducible refine wc_seq ?_ | with_reducible refine wc_region ?_)
      refine ⟨rfl, _, _, _, _, _, At.get (b := h0.nx) (o := .loop .ready none e _ _ _) at_A, ?_⟩
      repeat' (first | with_reducible refine wo_nil ?_ | ((with_reducible refine wo_any ?_); first | ((with_reducible refine ik_move ?_); refine wo_op rfl (op_move rfl) rfl rfl ?_) | ((with_reducible refine ik_load ?_); refine wo_op rfl (op_ldAt rfl at_A Tryz.underlying41 rfl rfl) rfl rfl ?_) | ((with_reducible refine ik_fieldAddr ?_); refine wo_op rfl (op_fieldAddr (o := 11) rfl Tryz.underlying43 rfl zs41 rfl) rfl rfl ?_) | ((with_reducible refine ik_un ?_); refine wo_op rfl (op_not rfl) rfl rfl ?_) | ((with_reducible refine ik_pick ?_); refine wo_op rfl (op_pickf rfl rfl) rfl rfl ?_) | ((with_reducible refine ik_callv ?_); (refine wo_call rfl rfl rfl rfl (q131 _ (hsl _ ⟨by (try simp only [H.nx_push, H.nx_set]); omega, fun h1 hn gr => gr_A, fun b' o hb ha => by have lb := ha.lt; have ne := ne_loop hb (by omega) ha c3; exact at_A⟩ wf_A)) rfl rfl ?_; rintro _ _ ⟨rfl, hq⟩; all_goals ((try (have hqn := hq.nx)); (try simp only [H.nx_push, H.nx_set, H.nx_bump] at hqn)))) | ((with_reducible refine ik_g ?_); refine wo_gskip rfl rfl rfl rfl rfl rfl ?_)) | with_reducible refine sq_norm ?_ | with_reducible refine wc_seq ?_ | with_reducible refine wc_region ?_ | with_reducible refine wc_skip ?_ | with_reducible refine wc_block ?_ | with_reducible refine bq_norm ?_ | refine wc_iff rfl ?_)
      refine ⟨_, _, _, _, _, _, At.get (b := h0.nx) (o := .loop .busy none e _ _ _) at_A, .inl ⟨rfl, ⟨hsk _ ?_ wf_A, wf_A, ?_, at_A, at_A, at_A⟩, fun b' o hb _ ha => by have lb := ha.lt; exact at_A⟩⟩
      · exact ⟨by (try simp only [H.nx_push, H.nx_set]); omega, fun h1 hn gr => gr_A, fun b' o hb ha => by have lb := ha.lt; have ne := ne_loop hb (by omega) ha c3; exact at_A⟩
      · simp only [H.nx_push, H.nx_set]; omega
    | false =>
      rw [hin] at q131
      have hyk := fun g' st w => hyk g' st w hin
      subst hlp
      refine cf_round c3.get he rfl rfl ?_
      repeat' (first | with_reducible refine wo_nil ?_ | ((with_reducible refine wo_any ?_); first | ((with_reducible refine ik_assign ?_); refine wo_op rfl (op_assign rfl) rfl rfl ?_) | ((with_reducible refine ik_alloc ?_); refine wo_op rfl (op_alloc zz81 zs81 rfl rfl rfl) rfl rfl ?_) | ((with_reducible refine ik_store ?_); refine wo_op0 rfl (op_stAgg rfl rfl at_A zs81 rfl rfl rfl rfl) rfl ?_)) | with_reducible refine sq_norm ?_ | with_reducible refine wc_seq ?_ | with_reducible refine wc_region ?_)
      refine ⟨rfl, _, _, _, _, _, At.get (b := h0.nx) (o := .loop .ready none e _ _ _) at_A, ?_⟩
      repeat' (first | with_reducible refine wo_nil ?_ | ((with_reducible refine wo_any ?_); first | ((with_reducible refine ik_move ?_); refine wo_op rfl (op_move rfl) rfl rfl ?_) | ((with_reducible refine ik_load ?_); refine wo_op rfl (op_ldAt rfl at_A Tryz.underlying41 rfl rfl) rfl rfl ?_) | ((with_reducible refine ik_fieldAddr ?_); refine wo_op rfl (op_fieldAddr (o := 11) rfl Tryz.underlying43 rfl zs41 rfl) rfl rfl ?_) | ((with_reducible refine ik_un ?_); refine wo_op rfl (op_not rfl) rfl rfl ?_) | ((with_reducible refine ik_pick ?_); refine wo_op rfl (op_pickt rfl rfl) rfl rfl ?_) | ((with_reducible refine ik_callv ?_); (refine wo_call rfl rfl rfl rfl (q131 _ (hsl _ ⟨by (try simp only [H.nx_push, H.nx_set]); omega, fun h1 hn gr => gr_A, fun b' o hb ha => by have lb := ha.lt; have ne := ne_loop hb (by omega) ha c3; exact at_A⟩ wf_A)) rfl rfl ?_; rintro _ _ ⟨rfl, hq⟩; all_goals ((try (have hqn := hq.nx)); (try simp only [H.nx_push, H.nx_set, H.nx_bump] at hqn)))) | ((with_reducible refine ik_g ?_); first | ((with_reducible refine ig_load ?_); first | refine wo_grun rfl rfl rfl (op_ldAt rfl at_A Tryz.underlying189 rfl rfl) rfl rfl ?_ | refine wo_grun rfl rfl rfl (op_ldAgg rfl at_A Tryz.underlying81 rfl zs81 rfl rfl) rfl rfl ?_) | ((with_reducible refine ig_un ?_); refine wo_grun rfl rfl rfl (op_not rfl) rfl rfl ?_) | ((with_reducible refine ig_callv ?_); (refine wo_gcall rfl rfl rfl rfl rfl rfl ((hyk _ ⟨by (try simp only [H.nx_push, H.nx_set]); omega, fun h1 hn gr => gr_A, fun b' o hb ha => by have lb := ha.lt; have ne := ne_loop hb (by omega) ha c3; exact at_A⟩ wf_A)) rfl rfl ?_; rintro _ _ ⟨rfl, hj, hla⟩; all_goals ((try (have hqn := hq.nx)); (try simp only [H.nx_push, H.nx_set, H.nx_bump] at hqn)))))) | with_reducible refine sq_norm ?_ | with_reducible refine wc_seq ?_ | with_reducible refine wc_region ?_ | with_reducible refine wc_skip ?_ | with_reducible refine wc_block ?_ | with_reducible refine bq_norm ?_ | refine wc_iff rfl ?_)
      have c4 := hla h0.nx (.loop .busy none e _ _ _) (by omega) kpL at_A
      have c5 := hla h.nx (.cells [.func (.yield Y) #[] #[]] 189 1 false) (by omega) kpY at_A
      have c6 := hla b (.cells (lnC nm x y tx ty sh nx ny px py ch a n c) 43 12 false) (by omega) kp43 at_A
      have l4 := c4.lt
      have l5 := c5.lt
      have l6 := c6.lt
      have w4 := (hB _ _ _ hj).2.2.1
      refine ⟨_, _, _, _, _, _, c4.get, .inl ⟨rfl, ⟨hst _ _ _ _ hj ⟨by (try simp only [H.nx_push, H.nx_set]); omega, fun h1 hn gr => gr_A, fun b' o hb ha => by have lb := ha.lt; have ne := ne_loop hb (by omega) ha c4; exact at_A⟩ wf_A, wf_A, by simp only [H.nx_push, H.nx_set]; omega, at_A, at_A, at_A⟩, fun b' o hb kp ha => by have lb := ha.lt; exact (hla b' o (by omega) kp at_A).set_ne (by omega) _⟩⟩
  · exact ⟨hst _ _ _ _ j0 (Still.of gr_A (by omega)) wf_A, wf_A, (by simp only [H.nx_push, H.nx_bump]; omega), at_A, at_A, at_A⟩
  · rintro _ g (⟨j, w, nx', c1, c2, c3⟩ | q)
    · subst hlp
      refine ⟨_, _, _, _, _, _, c3.get, by simp, ?_⟩
      repeat' (with_reducible refine bq_norm ?_)
      exact rq0n (hst _ _ _ _ j ⟨by rw [H.nx_kill]; omega, fun h1 hn gr => gr_A, fun b' o hb ha => ha.kill_ne (ne_loop hb (by omega) ha c3)⟩ wf_A)
    · exact q.elim
end Go.Proofs.YtnkmencbnoipmaaGreatDoor

/- The places of a line by the program. -/
namespace Go.Proofs.YtnkmencbnoipmaaGreatDoor
open Go Go.Ab Go.Fl
attribute [local irreducible] SeqQ BlkQ LpQ RetQ Wc Wo WD WX Op1 Op1q Op1a Cf Cl From
attribute [local irreducible] Ieee.Format.order Ieee.Format.read Ieee.Format.nearest Ieee.Format.write Ieee.Format.mul Ieee.Format.div Ieee.Format.sqrt Ieee.Datum.order Ieee.Datum.integral K U rngE errN cntE cmpI indE ptE plaE firstNZ numsE lnE BigP isNameB nmE ascA errL chgV chgE
set_option maxRecDepth 10000
variable {G : Base} {h : H}

def OutR (lo : Nat) (h' : H) (v : Value) (out : List Pl) : Prop := (v = .slice none 0 0 ∧ out = []) ∨ ∃ e, lo ≤ e ∧ v = .slice (some ⟨e, 0, some 0⟩) out.length out.length ∧ At h' e (.cells (out.flatMap Pl.cells) 81 4 true)
theorem OutR.sl {lo : Nat} {v : Value} {out : List Pl} (q : OutR lo h v out) : Sl G h 4 v out.length (out.flatMap Pl.cells) := by
  rcases q with ⟨rfl, rfl⟩ | ⟨e, _, rfl, hat⟩
  · exact .nil
  · exact Sl.ofAt hat (flat_lenP _) (Nat.le_refl _)
theorem OutR.still {lo N : Nat} {h h' : H} {v : Value} {out : List Pl} (q : OutR lo h v out) (g : Still N h h') : OutR lo h' v out := by
  rcases q with q | ⟨e, h1, h2, hat⟩
  · exact .inl q
  · exact .inr ⟨e, h1, h2, g.at' _ _ (.inr noLoop_cells) hat⟩
def outI (x y tx ty nx ny px py : Int) (rf : List Int) (ch i k : Nat) : List Pl := plsP x y tx ty nx ny px py rf ch i ++ rowP x y tx ty nx ny px py rf k i
theorem rowP_0 {x y tx ty nx ny px py : Int} {rf : List Int} {i : Nat} : rowP x y tx ty nx ny px py rf 0 i = [] := by unfold rowP; split <;> rfl
theorem outI_row {x y tx ty nx ny px py : Int} {rf : List Int} {ch i : Nat} : outI x y tx ty nx ny px py rf ch i ch = outI x y tx ty nx ny px py rf ch (i + 1) 0 := by
  unfold outI; rw [plsP_next, rowP_0, List.append_nil]
theorem outI_in {x y tx ty nx ny px py : Int} {rf : List Int} {ch i k : Nat} (q : decide ((i : Int) ∈ rf) = true) : outI x y tx ty nx ny px py rf ch i (k + 1) = outI x y tx ty nx ny px py rf ch i k := by
  unfold outI; rw [rowP_in q, rowP_in q]
theorem outI_out {x y tx ty nx ny px py : Int} {rf : List Int} {ch i k : Nat} (q : decide ((i : Int) ∈ rf) = false) : outI x y tx ty nx ny px py rf ch i (k + 1) = outI x y tx ty nx ny px py rf ch i k ++ [plAt x y tx ty nx ny px py i k] := by
  unfold outI; rw [rowP_out q, rowP_out q, List.range_succ, List.map_append, List.append_assoc]; rfl
theorem outI_len {x y tx ty nx ny px py : Int} {rf : List Int} {ch i k : Nat} (h1 : i ≤ 64) (h2 : ch ≤ 16) (h3 : k ≤ 16) : (outI x y tx ty nx ny px py rf ch i k).length ≤ 2000 := by
  unfold outI
  rw [List.length_append]
  have a := plsP_len (x := x) (y := y) (tx := tx) (ty := ty) (nx := nx) (ny := ny) (px := px) (py := py) (rf := rf) (ch := ch) i
  have b := rowP_len (x := x) (y := y) (tx := tx) (ty := ty) (nx := nx) (ny := ny) (px := px) (py := py) (rf := rf) (ch := k) (i := i)
  have c : i * ch ≤ 64 * 16 := Nat.mul_le_mul h1 h2
  omega
end Go.Proofs.YtnkmencbnoipmaaGreatDoor

/- Places by the program. -/
namespace Go.Proofs.YtnkmencbnoipmaaGreatDoor
open Go Go.Ab Go.Fl
attribute [local irreducible] SeqQ BlkQ LpQ RetQ Wc Wo WD WX Op1 Op1q Op1a Cf Cl From
attribute [local irreducible] Ieee.Format.order Ieee.Format.read Ieee.Format.nearest Ieee.Format.write Ieee.Format.mul Ieee.Format.div Ieee.Format.sqrt Ieee.Datum.order Ieee.Datum.integral K U rngE errN cntE cmpI indE ptE plaE firstNZ numsE lnE BigP isNameB nmE ascA errL chgV chgE
set_option maxRecDepth 10000
variable {G : Base} {h : H}

end Go.Proofs.YtnkmencbnoipmaaGreatDoor
