/- Cover: bins and classes of places without an error; the edges of a bin. -/
import Derived.Test.YtnkmencbnoipmaaGreatDoorL2
set_option linter.all false
/- Bin and Class of places without an error; a line's number of places. -/
namespace Go.Proofs.YtnkmencbnoipmaaGreatDoor
open Go Go.Ab Go.Fl
attribute [local irreducible] SeqQ BlkQ LpQ RetQ Wc Wo WD WX Op1 Op1q Op1a Cf Cl From
attribute [local irreducible] Ieee.Format.order Ieee.Format.read Ieee.Format.nearest Ieee.Format.write Ieee.Format.mul Ieee.Format.div Ieee.Format.sqrt Ieee.Datum.order Ieee.Datum.integral K U rngE errN cntE cmpI indE ptE plaE firstNZ numsE lnE BigP isNameB nmE ascA errL chgV chgE griE clsE clsG sqD binI covP covV hit outI plsP rowP linsE surE wanE foldL needL gapI covR fldR gapR
set_option maxRecDepth 10000
variable {G : Base} {h : H}

set_option maxHeartbeats 4000000 in
theorem c46 {ox oy w u p q : Int} {va v : Value} {m n : Nat} {cl : List Int} {ts : List LnM} {W : Int} (sc : Sl G h 1 va m (cl.map (.int .i64))) (hm : m ≤ maxLen) (s : SlN G h v n ts) (hn : n ≤ maxLen) (hw : Wf h) (hG : ∀ a v, laidBase a = some v → G a = some v) : Cf (mz G) (.func (.func 46) #[] #[]) [.agg ⟨[.int .i64 ox, .int .i64 oy, .int .i64 w, .int .i64 u, .int .i64 p, .int .i64 q, va, v, .int .i64 W]⟩] h fun r h' => ((r = .bool true ∧ wanE ox oy w u p q cl (vsOf ts) W = 0 ∧ m ≤ 9 ∧ n ≤ 33 ∧ ∀ t ∈ ts, t.V.rf.length ≤ 10 ∧ t.V.nm.size ≤ 40) ∨ r = .bool false) ∧ Grow h h' := by
  obtain ⟨ca, cc, rfl⟩ := sc.form
  obtain ⟨la, lc, rfl⟩ := s.sl.form
  have q35 := fun (h' : H) (r : Grow h h') (w' : Wf h') => c35 (ox := ox) (oy := oy) (w := w) (u := u) (p := p) (q := q) (W := W) (sc.grow r) hm (s.grow r) hn w'
  have q41 := fun (hs : m ≤ 9 ∧ n ≤ 33 ∧ ∀ t ∈ ts, t.V.rf.length ≤ 10 ∧ t.V.nm.size ≤ 40) (h' : H) (r : Grow h h') (w' : Wf h') => c41 (ox := ox) (oy := oy) (w := w) (u := u) (p := p) (q := q) (W := W) (sc.grow r) (by omega) (s.grow r) (by omega) (fun t ht => by have := hs.2.2 t ht; omega) (fun t ht => by have := hs.2.2 t ht; omega) w' hG
  generalize wanE ox oy w u p q cl (vsOf ts) W = E at q41 ⊢
  refine cf_enter0 17 [.tmp 2] Tryz.func46 rfl rfl rfl rfl ?_
  repeat' (first | with_reducible refine wo_nil ?_ | ((with_reducible refine wo_any ?_); first | ((with_reducible refine ik_move ?_); refine wo_op rfl (op_move rfl) rfl rfl ?_) | ((with_reducible refine ik_assign ?_); refine wo_op rfl (op_assign rfl) rfl rfl ?_) | ((with_reducible refine ik_load ?_); refine wo_op rfl (op_ldAgg rfl at_A Tryz.underlying69 rfl zs69 rfl rfl) rfl rfl ?_) | ((with_reducible refine ik_box ?_); refine wo_op rfl (op_boxAgg rfl zs69 rfl) rfl rfl ?_) | ((with_reducible refine ik_pick ?_); first | refine wo_op rfl (op_pickt rfl rfl) rfl rfl ?_ | refine wo_op rfl (op_pickf rfl rfl) rfl rfl ?_) | ((with_reducible refine ik_callv ?_); (refine wo_call rfl rfl rfl rfl (q35 _ gr_A wf_A) rfl rfl ?_; rintro _ _ ⟨(⟨rfl, hs⟩ | rfl), hq⟩; all_goals ((try (have hqn := hq.nx)); (try simp only [H.nx_push, H.nx_set, H.nx_bump] at hqn)))) | ((with_reducible refine ik_g ?_); first | refine wo_gskip rfl rfl rfl rfl rfl rfl ?_ | ((with_reducible refine ig_load ?_); first | refine wo_grun rfl rfl rfl (op_ldAgg (b := h.nx) (off := 0) rfl at_A Tryz.underlying25 rfl zs25 rfl rfl) rfl rfl ?_ | refine wo_grun rfl rfl rfl (op_ldAt (b := h.nx) (off := 6) rfl at_A Tryz.underlying41 rfl rfl) rfl rfl ?_ | refine wo_grun rfl rfl rfl (op_ldAt (b := h.nx) (off := 7) rfl at_A Tryz.underlying26 rfl rfl) rfl rfl ?_ | refine wo_grun rfl rfl rfl (op_ldAt (b := h.nx) (off := 8) rfl at_A Tryz.underlying3 rfl rfl) rfl rfl ?_) | ((with_reducible refine ig_fieldAddr ?_); first | refine wo_grun rfl rfl rfl (op_fieldAddr (o := 0) rfl Tryz.underlying69 rfl zs25 rfl) rfl rfl ?_ | refine wo_grun rfl rfl rfl (op_fieldAddr (o := 6) rfl Tryz.underlying69 rfl zs41 rfl) rfl rfl ?_ | refine wo_grun rfl rfl rfl (op_fieldAddr (o := 7) rfl Tryz.underlying69 rfl zs26 rfl) rfl rfl ?_ | refine wo_grun rfl rfl rfl (op_fieldAddr (o := 8) rfl Tryz.underlying69 rfl zs3 rfl) rfl rfl ?_) | ((with_reducible refine ig_bin ?_); refine wo_grun rfl rfl rfl (op_eql rfl rfl) rfl rfl ?_) | ((with_reducible refine ig_callv ?_); (refine wo_gcall rfl rfl rfl rfl rfl rfl (q41 hs _ gr_A wf_A) rfl rfl ?_; rintro _ _ ⟨rfl, hq⟩; all_goals ((try (have hqn := hq.nx)); (try simp only [H.nx_push, H.nx_set, H.nx_bump] at hqn)))))) | with_reducible refine sq_norm ?_ | with_reducible refine wc_seq ?_ | with_reducible refine wc_region ?_ | with_reducible refine wc_ret ?_)
  all_goals first
    | exact rq1 rfl ⟨.inr rfl, gr_A⟩
    | (refine rq1 rfl ⟨?_, gr_A⟩
       by_cases hz : E = 0
       · rw [decide_eq_true hz]; exact .inl ⟨rfl, hz, hs⟩
       · rw [decide_eq_false hz]; exact .inr rfl)
    | trace_state
/-! the number of places -/
def below (rf : List Int) (i : Int) : Nat := (rf.filter fun x => decide (x < i)).length
/-! gaps -/
end Go.Proofs.YtnkmencbnoipmaaGreatDoor
