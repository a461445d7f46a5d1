/- What is answered of these rows. -/
import Derived.Test.YtccdcekcbbpohaaGreatDoorW1
set_option linter.all false
namespace Go.Proofs.YtccdcekcbbpohaaGreatDoor
open Go Go.Ab Go.RowKit
set_option maxRecDepth 1000000
theorem rows_tab {L R : List Int} {b : Int} (h : rowsTab L b = some R) : (rowsRec.call (.func (.func 143) #[] #[]) [.agg ⟨vints L⟩, .int .i64 b] H.empty).map (·.1) = some (.agg ⟨vints R⟩) := by
  unfold rowsTab at h
  split at h
  · rename_i e; subst e
    split at h
    · rename_i e; subst e; cases h; exact rows1
    · split at h
      · rename_i e; subst e; cases h; exact rows2
      · cases h
  · split at h
    · rename_i e; subst e
      split at h
      · rename_i e; subst e; cases h; exact rows3
      · split at h
        · rename_i e; subst e; cases h; exact rows4
        · cases h
    · cases h
def rowsX (xs : List Value) (h : H) : Option (Value × H) := match xs with
  | [.agg ⟨l⟩, .int .i64 b] => match intsOf l with
    | some L => match rowsTab L b with
      | some R => some (.agg ⟨vints R⟩, h)
      | none => none
    | none => none
  | _ => none
noncomputable def ext1 : Ext := fun f => match f with
  | 143 => some rowsX
  | f => ext0 f

theorem below_drew (W : World) : RowKit.Below W.heap.size W W.drew := ⟨rfl, rfl, rfl, Nat.le_refl _, fun _ _ => rfl⟩

/-- A call of which the machine tells, that keeps the heap. -/
theorem endsOfCalls {B : Nat} {G : Base} {ρ : Ctx} {h : H} {w : World} {f : FuncId} {fn : Func} {c0 : Code} {xs : Array Value} {v : Value} (R : Rep B G ρ h w) (hf : Tryz.prog.funcs[f]? = some fn) (hb : fn.body = some c0) (hv : gd v = true)
    (hc : Calls Tryz.prog f xs w fun e w' => e = .returned v ∧ Below w.heap.size w w') (c : Frame) (cs : List Frame) : Ab.Ends Tryz.prog B G ρ h w c cs (callFunc f xs) v h := by
  obtain ⟨e, w', fr, ⟨rfl, hb'⟩, hs, hf', hl⟩ := hc (c :: cs)
  have hs' : Steps Tryz.prog (lone (Frame.enter Tryz.prog f xs .normal) (c :: cs) w) (lone fr (c :: cs) w') := hs
  exact ⟨v, w', ρ, .gd_refl hv, R.elsewhere (fun r hr _ => hb'.block r hr) hb'.size,
    ⟨fun _ _ => rfl, Nat.le_refl _, hb'.size, hb'.os, hb'.tape, hb'.output, fun r hr _ => hb'.block r hr, fun _ _ l => l, fun _ _ g => g⟩,
    .enter f xs, w, callFunc_run no_count hf hb xs w, hs'.trans (.one (step_leave_returned hl))⟩

theorem base_in {B : Nat} {G : Base} (hG : ∀ a v, laidBase a = some v → G a = some v) {ρ : Ctx} {h : H} {w : World} (R : Rep B G ρ h w) : BaseOk w.heap.size laidBase w := ⟨fun a v e => by
    obtain ⟨q1, q2, q3⟩ := R.base.cell a v (hG a v e)
    exact ⟨q1, Nat.lt_of_lt_of_le q2 R.base.size, q3⟩, Nat.le_refl _⟩

theorem gnd_vints (n : Nat) : ∀ L : List Int, (vints L).all (gnd (n + 1)) = true
  | [] => rfl
  | _ :: L => by
    have := gnd_vints n L
    unfold vints at *
    simp only [List.map_cons, List.all_cons, Bool.and_eq_true]
    exact ⟨rfl, this⟩
theorem gd_aggv (L : List Int) : gd (.agg ⟨vints L⟩) = true := gnd_vints _ L

theorem ext1_sound {B : Nat} {G : Base} (hG : ∀ a v, laidBase a = some v → G a = some v) : ExtSound Tryz.prog B G ext1 := by
  intro f x hx args h v h' hv ρ w args' R A c cs
  unfold ext1 at hx
  split at hx
  · cases hx
    unfold rowsX at hv
    split at hv
    · rename_i l b
      split at hv
      · rename_i L hL
        split at hv
        · rename_i T hT
          cases hv
          have hl := intsOf_eq hL
          subst hl
          have ht := rows_tab hT
          obtain ⟨p, hp, hp2⟩ := Option.map_eq_some_iff.1 ht
          obtain ⟨v1, h1⟩ := p
          simp only at hp2
          subst hp2
          have hargs : args' = [.agg ⟨vints L⟩, .int .i64 b] := list_eq_of A.1 fun j x y hj hj' => (A.2 j x y hj hj').gd_eq (by
            match j, hj with
            | 0, hj => cases hj; exact gd_aggv L
            | 1, hj => cases hj; rfl
            | j + 2, hj => simp at hj)
          subst hargs
          have hB := base_in hG R
          have hc := calls_of_ev mixed hB (E := ext0) ext_sound no_count (f := 143) rfl hp (LRel.gnd 3 (by simp only [List.all_cons, List.all_nil, Bool.and_eq_true]; exact ⟨gnd_vints 1 L, rfl, trivial⟩)) (gd_aggv _)
          exact endsOfCalls R Tryz.func143 (show Tryz.f143.body = some (Tryz.f143.body.getD .skip) by rfl) (gd_aggv _) hc c cs
        · cases hv
      · cases hv
    · cases hv
  · exact ext_sound f x hx args h v h' hv ρ w args' R A c cs
end Go.Proofs.YtccdcekcbbpohaaGreatDoor
