/- The types of this program: sizes and zeros; its calls of the outside, its tables. -/
import Derived.Test.YtccdcekcbbpohaaGreatDoorK1
import Derived.Test.YtccdcekcbbpohaaGreatDoorProg
import Derived.Test.YtccdcekcbbpohaaGreatDoorA5
import Derived.KernelRfl
import Derived.Room.MakeNoZero
import Derived.Laws.Externs
import Derived.Test.YtccdcekcbbpohaaGreatDoorA6
import Derived.Test.YtccdcekcbbpohaaGreatDoorRows
set_option linter.all false
namespace Go.Proofs.YtccdcekcbbpohaaGreatDoor
open Go Go.Ab
set_option maxRecDepth 100000
theorem zs3 : tsz Tryz.prog 3 = some 1 := by kernel_rfl
theorem zz3 : tzero Tryz.prog 3 = some (.int .i64 (0)) := by kernel_rfl
theorem zb3 : tby Tryz.prog 3 = some 8 := by kernel_rfl
theorem zs4 : tsz Tryz.prog 4 = some 1 := by kernel_rfl
theorem zs23 : tsz Tryz.prog 23 = some 1 := by kernel_rfl
theorem zs29 : tsz Tryz.prog 29 = some 1 := by kernel_rfl
theorem zz29 : tzero Tryz.prog 29 = some (.int .i64 (0)) := by kernel_rfl
theorem zs36 : tsz Tryz.prog 36 = some 1 := by kernel_rfl
theorem zz36 : tzero Tryz.prog 36 = some (.float .f32 0) := by kernel_rfl
theorem zb36 : tby Tryz.prog 36 = some 4 := by kernel_rfl
theorem zs40 : tsz Tryz.prog 40 = some 1 := by kernel_rfl
theorem zs41 : tsz Tryz.prog 41 = some 4 := by kernel_rfl
theorem zz41 : tzero Tryz.prog 41 = some (.agg #[.complex .f64 0 0, .complex .f64 0 0, .complex .f64 0 0, .complex .f64 0 0]) := by kernel_rfl
theorem zp41 : placesOf Tryz.prog 41 = some [(0, 1), (1, 1), (2, 1), (3, 1)] := by kernel_rfl
theorem zs50 : tsz Tryz.prog 50 = some 2 := by kernel_rfl
theorem zz50 : tzero Tryz.prog 50 = some (.agg #[.int .i64 (0), .int .i64 (0)]) := by kernel_rfl
theorem zp50 : placesOf Tryz.prog 50 = some [(0, 1), (1, 1)] := by kernel_rfl
theorem zs123 : tsz Tryz.prog 123 = some 8 := by kernel_rfl
theorem zz123 : tzero Tryz.prog 123 = some (.agg #[.int .i64 (0), .int .i64 (0), .int .i64 (0), .int .i64 (0), .int .i64 (0), .int .i64 (0), .int .i64 (0), .int .i64 (0)]) := by kernel_rfl
theorem zs165 : tsz Tryz.prog 165 = some 8 := by kernel_rfl
theorem zs167 : tsz Tryz.prog 167 = some 10 := by kernel_rfl
theorem zz167 : tzero Tryz.prog 167 = some (.agg #[.int .i64 (0), .int .i64 (0), .int .i64 (0), .int .i64 (0), .int .i64 (0), .int .i64 (0), .int .i64 (0), .int .i64 (0), .bool false, .slice none 0 0]) := by kernel_rfl
theorem zp167 : placesOf Tryz.prog 167 = some [(0, 8), (8, 1), (9, 1)] := by kernel_rfl
theorem zs192 : tsz Tryz.prog 192 = some 2 := by kernel_rfl
end Go.Proofs.YtccdcekcbbpohaaGreatDoor

namespace Go.Proofs.YtccdcekcbbpohaaGreatDoor
open Go Go.Ab

/-- The cells of the tables that the law's road reads. -/
def tabHeader : List Value := [.int .i64 (-100000), .int .i64 100000, .int .i64 (-100000), .int .i64 100000, .int .i64 (-100000), .int .i64 100000, .int .i64 (-100000), .int .i64 100000, .int .i64 0, .int .i64 100000, .int .i64 (-999999999), .int .i64 999999999, .int .i64 (-999999999), .int .i64 999999999, .int .i64 (-999999999), .int .i64 999999999]
def tabPowers : List Value := [.int .i64 1, .int .i64 0, .int .i64 0, .int .i64 1, .int .i64 (-1), .int .i64 0, .int .i64 0, .int .i64 (-1)]
def tabPow10 : List Value := [.int .u64 1, .int .u64 10, .int .u64 100, .int .u64 1000, .int .u64 10000, .int .u64 100000, .int .u64 1000000, .int .u64 10000000, .int .u64 100000000, .int .u64 1000000000, .int .u64 10000000000, .int .u64 100000000000, .int .u64 1000000000000, .int .u64 10000000000000, .int .u64 100000000000000, .int .u64 1000000000000000, .int .u64 10000000000000000, .int .u64 100000000000000000, .int .u64 1000000000000000000, .int .u64 10000000000000000000]
def u8s (l : List Int) : List Value := l.map (.int .u8)
def tab32 : List Value := u8s [0, 1, 28, 2, 29, 14, 24, 3, 30, 22, 20, 15, 25, 17, 4, 8, 31, 27, 13, 23, 21, 19, 16, 7, 26, 12, 18, 6, 11, 5, 10, 9]
def tab64 : List Value := u8s [0, 1, 56, 2, 57, 49, 28, 3, 61, 58, 42, 50, 38, 29, 17, 4, 62, 47, 59, 36, 45, 43, 51, 22, 53, 39, 33, 30, 24, 18, 12, 5, 63, 55, 48, 27, 60, 41, 37, 16, 46, 35, 44, 21, 52, 32, 23, 11, 54, 26, 40, 15, 34, 20, 31, 10, 25, 14, 19, 9, 13, 8, 7, 6]
def tabAt : Nat → List Value
  | 0 => tabPowers
  | 1 => tabHeader
  | 4 => tabPow10
  | 5 => tab32
  | 6 => tab64
  | _ => []
/-- What the laid tables hold. -/
def laidBase : Base := fun a => match a.spot with
  | none => (tabAt a.block)[a.off]?
  | some _ => none

/-- The functions without a body, or of Go's own that are answered at once. -/
noncomputable def pureExt (s : Array Value → Sem Value) (xs : List Value) (h : H) : Option (Value × H) :=
  match xs.all gd with
  | true => match prun Tryz.prog (s ⟨xs⟩) with
    | some v => match gd v with
      | true => some (v, h)
      | false => none
    | none => none
  | false => none
noncomputable def ext0 : Ext := fun f => match f with
  | 172 => some (pureExt (Extern.MathFloor.toIntegral "math.archTrunc" .zero))
  | 174 => some (pureExt Extern.MathFloatBits.float64frombits)
  | 175 => some (pureExt Extern.MathFloatBits.float64bits)
  | 179 => some (pureExt (Extern.MathFloor.toIntegral "math.archFloor" .down))
  | 193 => some fun xs h => match xs with | [x] => some (x, h) | _ => none
  | 194 => some fun xs h => match xs with
    | [.int .i64 (.ofNat n)] => match Nat.ble n 70368744177664 with
      | true => some (.slice (some ⟨h.nx, 0, some 0⟩) n n, h.push (.cells (List.replicate n undef) 5 1 true))
      | false => none
    | _ => none
  | _ => none

theorem pure_sound {B : Nat} {G : Base} {f : FuncId} {fn : Func} {s : Array Value → Sem Value} (hf : Tryz.prog.funcs[f]? = some fn) (hname : (fn.name == "runtime.NumGoroutine") = false)
    (hb : fn.body.isNone = true) (hn : Extern.findNext fn = none) (he : Extern.find fn = some s) {args : List Value} {h : H} {v : Value} {h' : H} (hx : pureExt s args h = some (v, h')) {ρ : Ctx} {w : World} {args' : List Value}
    (R : Rep B G ρ h w) (A : LRel ρ args args') (c : Frame) (cs : List Frame) : Ab.Ends Tryz.prog B G ρ h w c cs (callFunc f args'.toArray) v h' := by
  unfold pureExt at hx
  split at hx
  · rename_i hg
    split at hx
    · rename_i u hu
      split at hx
      · rename_i hgu
        cases hx
        have e : args' = args := list_eq_of A.1 fun j x y hj hj' => (A.2 j x y hj hj').gd_eq (List.all_eq_true.1 hg x (List.mem_of_getElem? hj))
        subst e
        refine ⟨v, w, ρ, .gd_refl hgu, R, .refl _ _ _, .value v, w, ?_, rfl, rfl⟩
        rw [run_callFunc_extern hf hname hb hn he, show args'.toArray = ⟨args'⟩ from rfl, prun_run hu w]
        rfl
      · cases hx
    · cases hx
  · cases hx

theorem ext_sound {B : Nat} {G : Base} : ExtSound Tryz.prog B G ext0 := by
  intro f x hx args h v h' hv ρ w args' R A c cs
  unfold ext0 at hx
  split at hx
  · cases hx
    exact pure_sound (fn := Tryz.prog.funcs[172]!) (by kernel_rfl) (by kernel_rfl) (by kernel_rfl) (by kernel_rfl) (by kernel_rfl) hv R A c cs
  · cases hx
    exact pure_sound (fn := Tryz.prog.funcs[174]!) (by kernel_rfl) (by kernel_rfl) (by kernel_rfl) (by kernel_rfl) (by kernel_rfl) hv R A c cs
  · cases hx
    exact pure_sound (fn := Tryz.prog.funcs[175]!) (by kernel_rfl) (by kernel_rfl) (by kernel_rfl) (by kernel_rfl) (by kernel_rfl) hv R A c cs
  · cases hx
    exact pure_sound (fn := Tryz.prog.funcs[179]!) (by kernel_rfl) (by kernel_rfl) (by kernel_rfl) (by kernel_rfl) (by kernel_rfl) hv R A c cs
  · cases hx
    have hr := fun (args : Array Value) (w : World) => run_callFunc_extern (P := Tryz.prog) (f := 193) (fn := Tryz.prog.funcs[193]!) (e := Extern.AbiNoEscape.same) (by kernel_rfl) (by kernel_rfl) (by kernel_rfl) (by kernel_rfl) (by kernel_rfl) args w
    match args, args', A with
    | [x], [x'], A =>
      simp only [Option.some.injEq, Prod.mk.injEq] at hv
      obtain ⟨rfl, rfl⟩ := hv
      exact ⟨x', w, ρ, A.2 0 _ _ rfl rfl, R, .refl _ _ _, .value x', w, by rw [hr]; rfl, rfl, rfl⟩
    | [], _, _ => simp at hv
    | _ :: _ :: _, _, _ => simp at hv
    | [_], [], A => exact absurd A.1 (by simp)
    | [_], _ :: _ :: _, A => exact absurd A.1 (by simp)
  · cases hx
    have hr := fun (args : Array Value) (w : World) => run_callFunc_extern (P := Tryz.prog) (f := 194) (fn := Tryz.prog.funcs[194]!) (e := Extern.BytealgMakeNoZero.makeNoZero #[3] #[203]) (by kernel_rfl) (by kernel_rfl) (by kernel_rfl) (by kernel_rfl) (by kernel_rfl) args w
    dsimp only at hv
    split at hv
    · rename_i n
      split at hv
      · rename_i hn
        have hn := Nat.le_of_ble_eq_true hn
        simp only [Option.some.injEq, Prod.mk.injEq] at hv
        obtain ⟨rfl, rfl⟩ := hv
        match args', A with
        | [x'], A =>
          have hx : x' = .int .i64 (n : Int) := (A.2 0 _ _ rfl rfl).gd_eq rfl
          subst hx
          obtain ⟨cs', q1, q2, _, _⟩ := Lib.run_makeNoZero_cap (P := Tryz.prog) w #[3] 203 5 (by kernel_rfl) n (by omega)
          obtain ⟨ρ', r1, _, r3, r4⟩ := new_cells R 5 1 true (c := List.replicate n undef) (c' := cs'.toList.take n) (cr := cs')
            ⟨by simp; omega, fun j x y hj _ => by
              have := List.mem_of_getElem? hj
              rw [List.eq_of_mem_replicate this]; exact .top _⟩
            (by simp) (fun h => by cases h) (w1 := w.drew.drew.alloc (.cells cs' 5)) rfl rfl rfl rfl
          refine ⟨.slice (some ⟨w.heap.size, 0, none⟩) n cs'.size, _, ρ', .osl h.nx 0 n n cs'.size _ r1 (.inr ⟨rfl, by simp, q2, by simp⟩), r3, r4, .value (.slice (some ⟨w.heap.size, 0, none⟩) n cs'.size), w.drew.drew.alloc (.cells cs' 5), ?_, rfl, rfl⟩
          rw [hr]
          show (Sem.run Tryz.prog (Extern.BytealgMakeNoZero.makeNoZero #[3] #[203] #[.int .i64 n]) w).andThen _ = _
          rw [q1]; rfl
        | [], A => exact absurd A.1 (by simp)
        | _ :: _ :: _, A => exact absurd A.1 (by simp)
      · cases hv
    · cases hv
  · cases hx
theorem no_count : NoCount Tryz.prog := by
  have h : (Tryz.prog.funcs.toList.all fun fn => !(fn.name == "runtime.NumGoroutine")) = true := by kernel_rfl
  intro f fn hf _
  have := List.all_eq_true.1 h fn (Array.mem_toList_iff.2 (Array.mem_of_getElem? hf))
  simpa using this
theorem mixed : Tryz.prog.follows .mixedOrders = true := by kernel_rfl
/-- WHAT THE EVALUATOR TELLS OF THIS PROGRAM IS SO. -/
theorem door_sound {B : Nat} {G : Base} (n : Nat) : CallSound Tryz.prog B G (ev Tryz.prog G ext0 n) := ev_sound mixed ext_sound no_count n
end Go.Proofs.YtccdcekcbbpohaaGreatDoor

namespace Go.Proofs.YtccdcekcbbpohaaGreatDoor
open Go Go.Ab Go.RowKit

theorem tab_base {W : World} (g : Nat) (l : List Value) (hl : l.all gd = true) (h : ∃ e fr, W.heap[g]? = some (.cells ⟨l⟩ e fr)) (o : Nat) (v : Value) (hv : l[o]? = some v) :
    g < W.heap.size ∧ W.cell? ⟨g, o, none⟩ = some v ∧ VRel (fun _ => none) v v := by
  obtain ⟨e, fr, hh⟩ := h
  refine ⟨(Array.getElem?_eq_some_iff.1 hh).1, ?_, .gd_refl (List.all_eq_true.1 hl v (List.mem_of_getElem? hv))⟩
  simp [World.cell?, hh, hv]

theorem base_ok {W : World} (h : laidMetH Tryz.prog Rows.filterAdjointRow.laid W) : BaseOk W.heap.size laidBase W := by
  have h' : laidMet Tryz.prog Rows.filterAdjointRow.laid W := h
  have t0 := laid_tab (n := 4) h' (name := "moveout/common.powers") (d := Rows.laid_moveout_common_powers) (by simp [Rows.filterAdjointRow]) (g := 0) (by kernel_rfl) (t := (Tryz.prog.globals[0]!).type) (by kernel_rfl) (by kernel_rfl) (l := tabPowers) (by rfl)
  have t1 := laid_tab (n := 4) h' (name := "moveout/trace.headerRanges") (d := Rows.laid_moveout_trace_headerRanges) (by simp [Rows.filterAdjointRow]) (g := 1) (by kernel_rfl) (t := (Tryz.prog.globals[1]!).type) (by kernel_rfl) (by kernel_rfl) (l := tabHeader) (by rfl)
  have t4 := laid_tab (n := 4) h' (name := "internal/strconv.uint64pow10") (d := Rows.laid_internal_strconv_uint64pow10) (by simp [Rows.filterAdjointRow]) (g := 4) (by kernel_rfl) (t := (Tryz.prog.globals[4]!).type) (by kernel_rfl) (by kernel_rfl) (l := tabPow10) (by rfl)
  have t5 := laid_tab (n := 4) h' (name := "math/bits.deBruijn32tab") (d := Rows.laid_math_bits_deBruijn32tab) (by simp [Rows.filterAdjointRow]) (g := 5) (by kernel_rfl) (t := (Tryz.prog.globals[5]!).type) (by kernel_rfl) (by kernel_rfl) (l := tab32) (by rfl)
  have t6 := laid_tab (n := 4) h' (name := "math/bits.deBruijn64tab") (d := Rows.laid_math_bits_deBruijn64tab) (by simp [Rows.filterAdjointRow]) (g := 6) (by kernel_rfl) (t := (Tryz.prog.globals[6]!).type) (by kernel_rfl) (by kernel_rfl) (l := tab64) (by rfl)
  refine ⟨fun a v e => ?_, Nat.le_refl _⟩
  obtain ⟨blk, off, spot⟩ := a
  unfold laidBase at e
  cases spot with
  | some s => cases e
  | none =>
    simp only [tabAt] at e
    split at e
    · obtain ⟨q1, q2, q3⟩ := tab_base 0 tabPowers (by rfl) t0 off v e; exact ⟨rfl, q1, v, q2, q3⟩
    · obtain ⟨q1, q2, q3⟩ := tab_base 1 tabHeader (by rfl) t1 off v e; exact ⟨rfl, q1, v, q2, q3⟩
    · obtain ⟨q1, q2, q3⟩ := tab_base 4 tabPow10 (by rfl) t4 off v e; exact ⟨rfl, q1, v, q2, q3⟩
    · obtain ⟨q1, q2, q3⟩ := tab_base 5 tab32 (by rfl) t5 off v e; exact ⟨rfl, q1, v, q2, q3⟩
    · obtain ⟨q1, q2, q3⟩ := tab_base 6 tab64 (by rfl) t6 off v e; exact ⟨rfl, q1, v, q2, q3⟩
    · simp at e

end Go.Proofs.YtccdcekcbbpohaaGreatDoor
