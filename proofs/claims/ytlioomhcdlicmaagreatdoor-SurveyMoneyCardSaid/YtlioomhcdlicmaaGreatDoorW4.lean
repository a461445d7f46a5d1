/- The function awake of the law answers true (no condition but the laid tables); what is answered at once. -/
import Derived.Test.YtlioomhcdlicmaaGreatDoorW31
import Derived.WalkKit
import Derived.ProofKit
import Derived.Laws.Cover2
import Derived.Laws.Cover3
import Derived.Laws.FloatArith
import Derived.Outline
import Derived.BigQuiet
import Derived.Test.YtlioomhcdlicmaaGreatDoorK2
import Derived.Test.YtlioomhcdlicmaaGreatDoorS1
set_option linter.all false
namespace Go.Proofs.YtlioomhcdlicmaaGreatDoor
open Go Go.Ab Go.RowKit
set_option maxRecDepth 1000000
theorem aw_last : lastValues Tryz.prog laidBase aw_rec Tryz.f15 aw_c 22 aw_e22 aw_h22 = some [.bool true] := by kernel_rfl
theorem awake_calls {W : World} (hB : BaseOk W.heap.size laidBase W) : Calls Tryz.prog 15 #[] W fun e W' => e = .returned (.bool true) ∧ Below W.heap.size W W' := by
 have hcs : ∀ c, CodeSound Tryz.prog W.heap.size laidBase (evC Tryz.prog laidBase aw_rec) one' c := code_sound mixed ext_sound no_count 3000
 obtain ⟨ef, hf, hl, c22⟩ := ends_last (B := W.heap.size) (fn := Tryz.f15) hcs aw_last
 have c21 : Comes' Tryz.prog W.heap.size laidBase aw_c .ret ef hf 21 aw_e21 aw_h21 := be_ hcs aw_s22 c22
 have c20 : Comes' Tryz.prog W.heap.size laidBase aw_c .ret ef hf 20 aw_e20 aw_h20 := be_ hcs aw_s21 c21
 have c19 : Comes' Tryz.prog W.heap.size laidBase aw_c .ret ef hf 19 aw_e19 aw_h19 := be_ hcs aw_s20 c20
 have c18 : Comes' Tryz.prog W.heap.size laidBase aw_c .ret ef hf 18 aw_e18 aw_h18 := be_ hcs aw_s19 c19
 have c17 : Comes' Tryz.prog W.heap.size laidBase aw_c .ret ef hf 17 aw_e17 aw_h17 := be_ hcs aw_s18 c18
 have c16 : Comes' Tryz.prog W.heap.size laidBase aw_c .ret ef hf 16 aw_e16 aw_h16 := be_ hcs aw_s17 c17
 have c15 : Comes' Tryz.prog W.heap.size laidBase aw_c .ret ef hf 15 aw_e15 aw_h15 := be_ hcs aw_s16 c16
 have c14 : Comes' Tryz.prog W.heap.size laidBase aw_c .ret ef hf 14 aw_e14 aw_h14 := be_ hcs aw_s15 c15
 have c13 : Comes' Tryz.prog W.heap.size laidBase aw_c .ret ef hf 13 aw_e13 aw_h13 := be_ hcs aw_s14 c14
 have c12 : Comes' Tryz.prog W.heap.size laidBase aw_c .ret ef hf 12 aw_e12 aw_h12 := be_ hcs aw_s13 c13
 have c11 : Comes' Tryz.prog W.heap.size laidBase aw_c .ret ef hf 11 aw_e11 aw_h11 := be_ hcs aw_s12 c12
 have c10 : Comes' Tryz.prog W.heap.size laidBase aw_c .ret ef hf 10 aw_e10 aw_h10 := be_ hcs aw_s11 c11
 have c9 : Comes' Tryz.prog W.heap.size laidBase aw_c .ret ef hf 9 aw_e9 aw_h9 := be_ hcs aw_s10 c10
 have c8 : Comes' Tryz.prog W.heap.size laidBase aw_c .ret ef hf 8 aw_e8 aw_h8 := be_ hcs aw_s9 c9
 have c7 : Comes' Tryz.prog W.heap.size laidBase aw_c .ret ef hf 7 aw_e7 aw_h7 := be_ hcs aw_s8 c8
 have c6 : Comes' Tryz.prog W.heap.size laidBase aw_c .ret ef hf 6 aw_e6 aw_h6 := be_ hcs aw_s7 c7
 have c5 : Comes' Tryz.prog W.heap.size laidBase aw_c .ret ef hf 5 aw_e5 aw_h5 := be_ hcs aw_s6 c6
 have c4 : Comes' Tryz.prog W.heap.size laidBase aw_c .ret ef hf 4 aw_e4 aw_h4 := be_ hcs aw_s5 c5
 have c3 : Comes' Tryz.prog W.heap.size laidBase aw_c .ret ef hf 3 aw_e3 aw_h3 := be_ hcs aw_s4 c4
 have c2 : Comes' Tryz.prog W.heap.size laidBase aw_c .ret ef hf 2 aw_e2 aw_h2 := be_ hcs aw_s3 c3
 have c1 : Comes' Tryz.prog W.heap.size laidBase aw_c .ret ef hf 1 aw_e1 aw_h1 := be_ hcs aw_s2 c2
 have c0 : Comes' Tryz.prog W.heap.size laidBase aw_c .ret ef hf 0 aw_e0 aw_h0 := be_ hcs aw_s1 c1
 exact calls_of_ends (fn_comes Tryz.func15 (show Tryz.f15.body = some aw_c by rfl) (.start hB) .nil c0 (.inr rfl) hl) rfl
end Go.Proofs.YtlioomhcdlicmaaGreatDoor
namespace Go.Proofs.YtlioomhcdlicmaaGreatDoor
open Go
open Go.Ab Go.Fl Go.RowKit Ieee
theorem endsOfCalls {B : Nat} {G : Base} {ρ : Ctx} {h : H} {w : World} {f : FuncId} {fn : Func} {c0 : Code} {xs : Array Value} {v : Value} (R : Rep B G ρ h w) (hf : Tryz.prog.funcs[f]? = some fn) (hb : fn.body = some c0) (hv : gd v = true)
   (hc : Calls Tryz.prog f xs w fun e w' => e = .returned v ∧ Below w.heap.size w w') (c : Frame) (cs : List Frame) : Ab.Ends Tryz.prog B G ρ h w c cs (callFunc f xs) v h := by
 obtain ⟨e, w', fr, ⟨rfl, hb'⟩, hs, hf', hl⟩ := hc (c :: cs)
 have hs' : Steps Tryz.prog (lone (Frame.enter Tryz.prog f xs .normal) (c :: cs) w) (lone fr (c :: cs) w') := hs
 exact ⟨v, w', ρ, .gd_refl hv, R.elsewhere (fun r hr _ => hb'.block r hr) hb'.size,
   ⟨fun _ _ => rfl, Nat.le_refl _, hb'.size, hb'.os, hb'.tape, hb'.output, fun r hr _ => hb'.block r hr, fun _ _ l => l, fun _ _ g => g⟩,
   .enter f xs, w, callFunc_run no_count hf hb xs w, hs'.trans (.one (step_leave_returned hl))⟩
theorem awake_ends {B : Nat} {G : Base} (hG : ∀ a v, laidBase a = some v → G a = some v) {ρ : Ctx} {h : H} {w : World} (R : Rep B G ρ h w) (c : Frame) (cs : List Frame) : Ab.Ends Tryz.prog B G ρ h w c cs (callFunc 15 #[]) (.bool true) h := by
 have hB : BaseOk w.heap.size laidBase w := ⟨fun a v e => by
   obtain ⟨q1, q2, q3⟩ := R.base.cell a v (hG a v e)
   exact ⟨q1, Nat.lt_of_lt_of_le q2 R.base.size, q3⟩, Nat.le_refl _⟩
 exact endsOfCalls R Tryz.func15 (show Tryz.f15.body = some aw_c by rfl) rfl (awake_calls hB) c cs
noncomputable def extz : Ext := fun f => match f with
 | 15 => some fun xs h => match xs with | [] => some (.bool true, h) | _ => none
 | f => ext0 f
theorem extz_sound {B : Nat} {G : Base} (hG : ∀ a v, laidBase a = some v → G a = some v) : ExtSound Tryz.prog B G extz := by
 intro f x hx args h v h' hv ρ w args' R A c cs
 unfold extz at hx
 split at hx
 · cases hx
   match args, args', A with
   | [], [], _ =>
     simp only [Option.some.injEq, Prod.mk.injEq] at hv
     obtain ⟨rfl, rfl⟩ := hv
     exact awake_ends hG R c cs
   | [], _ :: _, A => exact absurd A.1 (by simp)
   | _ :: _, _, _ => simp at hv
 · exact ext_sound f x hx args h v h' hv ρ w args' R A c cs
noncomputable def mz (G : Base) : Mc := ⟨Tryz.prog, G, extz⟩
variable {G : Base} {h : H}
theorem c15 : Cl (mz G) (.func (.func 15) #[] #[]) [] h (.bool true) h := cl_ext (x := fun xs h => match xs with | [] => some (.bool true, h) | _ => none) rfl rfl
end Go.Proofs.YtlioomhcdlicmaaGreatDoor
