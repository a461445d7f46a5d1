/- The types of this program: sizes and zeros; its calls of the outside, its tables. -/
import Derived.Test.YtlioomhcdlicmaaGreatDoorK1
import Derived.Test.YtlioomhcdlicmaaGreatDoorProg
import Derived.Test.YtlioomhcdlicmaaGreatDoorA5
import Derived.KernelRfl
import Derived.Room.MakeNoZero
import Derived.Laws.Externs
import Derived.Lib.Overlaps
import Derived.Test.YtlioomhcdlicmaaGreatDoorA6
import Derived.Test.YtlioomhcdlicmaaGreatDoorRows
set_option linter.all false
namespace Go.Proofs.YtlioomhcdlicmaaGreatDoor
open Go Go.Ab
set_option maxRecDepth 100000
theorem zb2 : tby Tryz.prog 2 = some 8 := by kernel_rfl
theorem zs3 : tsz Tryz.prog 3 = some 1 := by kernel_rfl
theorem zz3 : tzero Tryz.prog 3 = some (.int .i64 (0)) := by kernel_rfl
theorem zb3 : tby Tryz.prog 3 = some 8 := by kernel_rfl
theorem zz4 : tzero Tryz.prog 4 = some (.bool false) := by kernel_rfl
theorem zb5 : tby Tryz.prog 5 = some 1 := by kernel_rfl
theorem zs9 : tsz Tryz.prog 9 = some 1 := by kernel_rfl
theorem zz9 : tzero Tryz.prog 9 = some (.string .empty) := by kernel_rfl
theorem zb9 : tby Tryz.prog 9 = some 16 := by kernel_rfl
theorem zs22 : tsz Tryz.prog 22 = some 6 := by kernel_rfl
theorem zz22 : tzero Tryz.prog 22 = some (.agg #[.int .i64 (0), .int .i64 (0), .int .i64 (0), .int .i64 (0), .int .i64 (0), .int .i64 (0)]) := by kernel_rfl
theorem zp22 : placesOf Tryz.prog 22 = some [(0, 1), (1, 1), (2, 1), (3, 1), (4, 1), (5, 1)] := by kernel_rfl
theorem zs25 : tsz Tryz.prog 25 = some 1 := by kernel_rfl
theorem zz25 : tzero Tryz.prog 25 = some (.slice none 0 0) := by kernel_rfl
theorem zs26 : tsz Tryz.prog 26 = some 1 := by kernel_rfl
theorem zz26 : tzero Tryz.prog 26 = some (.int .i64 (0)) := by kernel_rfl
theorem zs29 : tsz Tryz.prog 29 = some 8 := by kernel_rfl
theorem zz29 : tzero Tryz.prog 29 = some (.agg #[.int .i64 (0), .int .i64 (0), .int .i64 (0), .int .i64 (0), .int .i64 (0), .int .i64 (0), .int .i64 (0), .int .i64 (0)]) := by kernel_rfl
theorem zp29 : placesOf Tryz.prog 29 = some [(0, 6), (6, 1), (7, 1)] := by kernel_rfl
theorem zs35 : tsz Tryz.prog 35 = some 2 := by kernel_rfl
theorem zz35 : tzero Tryz.prog 35 = some (.agg #[.int .i64 (0), .int .i64 (0)]) := by kernel_rfl
theorem zp35 : placesOf Tryz.prog 35 = some [(0, 1), (1, 1)] := by kernel_rfl
theorem zs37 : tsz Tryz.prog 37 = some 5 := by kernel_rfl
theorem zs39 : tsz Tryz.prog 39 = some 5 := by kernel_rfl
theorem zs40 : tsz Tryz.prog 40 = some 1 := by kernel_rfl
theorem zs45 : tsz Tryz.prog 45 = some 5 := by kernel_rfl
theorem zs46 : tsz Tryz.prog 46 = some 5 := by kernel_rfl
theorem zs52 : tsz Tryz.prog 52 = some 1 := by kernel_rfl
theorem zs70 : tsz Tryz.prog 70 = some 6 := by kernel_rfl
theorem zs79 : tsz Tryz.prog 79 = some 2 := by kernel_rfl
theorem zz79 : tzero Tryz.prog 79 = some (.agg #[.int .i64 (0), .int .i64 (0)]) := by kernel_rfl
theorem zb79 : tby Tryz.prog 79 = some 16 := by kernel_rfl
theorem zp79 : placesOf Tryz.prog 79 = some [(0, 1), (1, 1)] := by kernel_rfl
theorem zs85 : tsz Tryz.prog 85 = some 1 := by kernel_rfl
theorem zs105 : tsz Tryz.prog 105 = some 9 := by kernel_rfl
theorem zz105 : tzero Tryz.prog 105 = some (.agg #[.int .i64 (0), .int .i64 (0), .int .i64 (0), .int .i64 (0), .int .i64 (0), .int .i64 (0), .int .i64 (0), .int .i64 (0), .int .i64 (0)]) := by kernel_rfl
theorem zs106 : tsz Tryz.prog 106 = some 1 := by kernel_rfl
theorem cs_ : tsz Tryz.prog 114 = some 9 := by kernel_rfl
theorem zs125 : tsz Tryz.prog 125 = some 3 := by kernel_rfl
theorem zs127 : tsz Tryz.prog 127 = some 15 := by kernel_rfl
theorem bt_ : tsz Tryz.prog 133 = some 3 := by kernel_rfl
theorem zz133 : tzero Tryz.prog 133 = some (.agg #[.int .i64 (0), .int .i64 (0), .string .empty]) := by kernel_rfl
theorem zb133 : tby Tryz.prog 133 = some 32 := by kernel_rfl
theorem zp133 : placesOf Tryz.prog 133 = some [(0, 2), (2, 1)] := by kernel_rfl
theorem zs145 : tsz Tryz.prog 145 = some 3 := by kernel_rfl
theorem zz145 : tzero Tryz.prog 145 = some (.agg #[.int .i64 (0), .int .i64 (0), .int .i64 (0)]) := by kernel_rfl
theorem zs157 : tsz Tryz.prog 157 = some 6 := by kernel_rfl
theorem zz157 : tzero Tryz.prog 157 = some (.agg #[.int .i64 (0), .int .i64 (0), .int .i64 (0), .int .i64 (0), .int .i64 (0), .int .i64 (0)]) := by kernel_rfl
theorem zb157 : tby Tryz.prog 157 = some 48 := by kernel_rfl
theorem zp157 : placesOf Tryz.prog 157 = some [(0, 5), (5, 1)] := by kernel_rfl
theorem cz_ : tsz Tryz.prog 161 = some 3 := by kernel_rfl
theorem zz161 : tzero Tryz.prog 161 = some (.agg #[.int .i64 (0), .int .i64 (0), .int .i64 (0)]) := by kernel_rfl
theorem zb161 : tby Tryz.prog 161 = some 24 := by kernel_rfl
theorem zs184 : tsz Tryz.prog 184 = some 3 := by kernel_rfl
theorem zz184 : tzero Tryz.prog 184 = some (.agg #[.int .i64 (0), .int .i64 (0), .string .empty]) := by kernel_rfl
theorem zb184 : tby Tryz.prog 184 = some 32 := by kernel_rfl
theorem zs189 : tsz Tryz.prog 189 = some 1 := by kernel_rfl
theorem ce_ : tsz Tryz.prog 191 = some 3 := by kernel_rfl
theorem zz191 : tzero Tryz.prog 191 = some (.agg #[.string .empty, .bool false, .nilFunc]) := by kernel_rfl
theorem zp191 : placesOf Tryz.prog 191 = some [(0, 1), (1, 1), (2, 1)] := by kernel_rfl
theorem zs192 : tsz Tryz.prog 192 = some 18 := by kernel_rfl
theorem zz192 : tzero Tryz.prog 192 = some (.agg #[.string .empty, .bool false, .nilFunc, .string .empty, .bool false, .nilFunc, .string .empty, .bool false, .nilFunc, .string .empty, .bool false, .nilFunc, .string .empty, .bool false, .nilFunc, .string .empty, .bool false, .nilFunc]) := by kernel_rfl
theorem zp192 : placesOf Tryz.prog 192 = some [(0, 3), (3, 3), (6, 3), (9, 3), (12, 3), (15, 3)] := by kernel_rfl
theorem zs200 : tsz Tryz.prog 200 = some 1 := by kernel_rfl
theorem zz200 : tzero Tryz.prog 200 = some (.map none) := by kernel_rfl
theorem zs207 : tsz Tryz.prog 207 = some 3 := by kernel_rfl
theorem zz207 : tzero Tryz.prog 207 = some (.agg #[.string .empty, .int .i64 (0), .int .i64 (0)]) := by kernel_rfl
theorem bR_ : tsz Tryz.prog 208 = some 3 := by kernel_rfl
theorem zz208 : tzero Tryz.prog 208 = some (.agg #[.string .empty, .int .i64 (0), .int .i64 (0)]) := by kernel_rfl
theorem zb208 : tby Tryz.prog 208 = some 32 := by kernel_rfl
theorem zs216 : tsz Tryz.prog 216 = some 1 := by kernel_rfl
theorem zz216 : tzero Tryz.prog 216 = some (.nilFunc) := by kernel_rfl
theorem cv_ : tsz Tryz.prog 241 = some 2 := by kernel_rfl
theorem zz241 : tzero Tryz.prog 241 = some (.agg #[.int .i64 (0), .int .i64 (0)]) := by kernel_rfl
theorem zb241 : tby Tryz.prog 241 = some 16 := by kernel_rfl
theorem zs246 : tsz Tryz.prog 246 = some 1 := by kernel_rfl
theorem zz246 : tzero Tryz.prog 246 = some (.map none) := by kernel_rfl
end Go.Proofs.YtlioomhcdlicmaaGreatDoor
namespace Go.Proofs.YtlioomhcdlicmaaGreatDoor
open Go Go.Ab
def tab2 : List Value := [.int .u64 1, .int .u64 10, .int .u64 100, .int .u64 1000, .int .u64 10000, .int .u64 100000, .int .u64 1000000, .int .u64 10000000, .int .u64 100000000, .int .u64 1000000000, .int .u64 10000000000, .int .u64 100000000000, .int .u64 1000000000000, .int .u64 10000000000000, .int .u64 100000000000000, .int .u64 1000000000000000, .int .u64 10000000000000000, .int .u64 100000000000000000, .int .u64 1000000000000000000, .int .u64 10000000000000000000]
def tab0 : List Value := [.int .u8 0, .int .u8 1, .int .u8 28, .int .u8 2, .int .u8 29, .int .u8 14, .int .u8 24, .int .u8 3, .int .u8 30, .int .u8 22, .int .u8 20, .int .u8 15, .int .u8 25, .int .u8 17, .int .u8 4, .int .u8 8, .int .u8 31, .int .u8 27, .int .u8 13, .int .u8 23, .int .u8 21, .int .u8 19, .int .u8 16, .int .u8 7, .int .u8 26, .int .u8 12, .int .u8 18, .int .u8 6, .int .u8 11, .int .u8 5, .int .u8 10, .int .u8 9]
def tab1 : List Value := [.int .u8 0, .int .u8 1, .int .u8 56, .int .u8 2, .int .u8 57, .int .u8 49, .int .u8 28, .int .u8 3, .int .u8 61, .int .u8 58, .int .u8 42, .int .u8 50, .int .u8 38, .int .u8 29, .int .u8 17, .int .u8 4, .int .u8 62, .int .u8 47, .int .u8 59, .int .u8 36, .int .u8 45, .int .u8 43, .int .u8 51, .int .u8 22, .int .u8 53, .int .u8 39, .int .u8 33, .int .u8 30, .int .u8 24, .int .u8 18, .int .u8 12, .int .u8 5, .int .u8 63, .int .u8 55, .int .u8 48, .int .u8 27, .int .u8 60, .int .u8 41, .int .u8 37, .int .u8 16, .int .u8 46, .int .u8 35, .int .u8 44, .int .u8 21, .int .u8 52, .int .u8 32, .int .u8 23, .int .u8 11, .int .u8 54, .int .u8 26, .int .u8 40, .int .u8 15, .int .u8 34, .int .u8 20, .int .u8 31, .int .u8 10, .int .u8 25, .int .u8 14, .int .u8 19, .int .u8 9, .int .u8 13, .int .u8 8, .int .u8 7, .int .u8 6]
def tabAt : Nat → List Value
 | 1 => tab2
 | 2 => tab0
 | 3 => tab1
 | _ => []
def laidBase : Base := fun a => match a.spot with
 | none => (tabAt a.block)[a.off]?
 | some _ => none
noncomputable def ext0 : Ext := fun f => match f with
 | 194 => some fun xs h => match xs with | [x] => some (x, h) | _ => none
 | 195 => some fun xs h => match xs with
   | [.int .i64 (.ofNat n)] => match Nat.ble n 70368744177664 with
     | true => some (.slice (some ⟨h.nx, 0, some 0⟩) n n, h.push (.cells (List.replicate n undef) 5 1 true))
     | false => none
   | _ => none
 | _ => none
theorem ext_sound {B : Nat} {G : Base} : ExtSound Tryz.prog B G ext0 := by
 intro f x hx args h v h' hv ρ w args' R A c cs
 unfold ext0 at hx
 split at hx
 · cases hx
   have hr := fun (args : Array Value) (w : World) => run_callFunc_extern (P := Tryz.prog) (f := 194) (fn := Tryz.prog.funcs[194]!) (e := Extern.AbiNoEscape.same) (by kernel_rfl) (by kernel_rfl) (by kernel_rfl) (by kernel_rfl) (by kernel_rfl) args w
   match args, args', A with
   | [x], [x'], A =>
     simp only [Option.some.injEq, Prod.mk.injEq] at hv
     obtain ⟨rfl, rfl⟩ := hv
     exact ⟨x', w, ρ, A.2 0 _ _ rfl rfl, R, .refl _ _ _, .value x', w, by rw [hr]; rfl, rfl, rfl⟩
   | [], _, _ => simp at hv
   | _ :: _ :: _, _, _ => simp at hv
   | [_], [], A => exact absurd A.1 (by simp)
   | [_], _ :: _ :: _, A => exact absurd A.1 (by simp)
 · cases hx
   have hr := fun (args : Array Value) (w : World) => run_callFunc_extern (P := Tryz.prog) (f := 195) (fn := Tryz.prog.funcs[195]!) (e := Extern.BytealgMakeNoZero.makeNoZero #[3] #[255]) (by kernel_rfl) (by kernel_rfl) (by kernel_rfl) (by kernel_rfl) (by kernel_rfl) args w
   dsimp only at hv
   split at hv
   · rename_i n
     split at hv
     · rename_i hn
       have hn := Nat.le_of_ble_eq_true hn
       simp only [Option.some.injEq, Prod.mk.injEq] at hv
       obtain ⟨rfl, rfl⟩ := hv
       match args', A with
       | [x'], A =>
         have hx : x' = .int .i64 (n : Int) := (A.2 0 _ _ rfl rfl).gd_eq rfl
         subst hx
         obtain ⟨cs', q1, q2, _, _⟩ := Lib.run_makeNoZero_cap (P := Tryz.prog) w #[3] 255 5 (by kernel_rfl) n (by omega)
         obtain ⟨ρ', r1, _, r3, r4⟩ := new_cells R 5 1 true (c := List.replicate n undef) (c' := cs'.toList.take n) (cr := cs')
           ⟨by simp; omega, fun j x y hj _ => by
             have := List.mem_of_getElem? hj
             rw [List.eq_of_mem_replicate this]; exact .top _⟩
           (by simp) (fun h => by cases h) (w1 := w.drew.drew.alloc (.cells cs' 5)) rfl rfl rfl rfl
         refine ⟨.slice (some ⟨w.heap.size, 0, none⟩) n cs'.size, _, ρ', .osl h.nx 0 n n cs'.size _ r1 (.inr ⟨rfl, by simp, q2, by simp⟩), r3, r4, .value (.slice (some ⟨w.heap.size, 0, none⟩) n cs'.size), w.drew.drew.alloc (.cells cs' 5), ?_, rfl, rfl⟩
         rw [hr]
         show (Sem.run Tryz.prog (Extern.BytealgMakeNoZero.makeNoZero #[3] #[255] #[.int .i64 n]) w).andThen _ = _
         rw [q1]; rfl
       | [], A => exact absurd A.1 (by simp)
       | _ :: _ :: _, A => exact absurd A.1 (by simp)
     · cases hv
   · cases hv
 · cases hx
theorem no_count : NoCount Tryz.prog := by
 have h : (Tryz.prog.funcs.toList.all fun fn => !(fn.name == "runtime.NumGoroutine")) = true := by kernel_rfl
 intro f fn hf _
 have := List.all_eq_true.1 h fn (Array.mem_toList_iff.2 (Array.mem_of_getElem? hf))
 simpa using this
theorem mixed : Tryz.prog.follows .mixedOrders = true := by kernel_rfl
end Go.Proofs.YtlioomhcdlicmaaGreatDoor
namespace Go.Proofs.YtlioomhcdlicmaaGreatDoor
open Go Go.Ab Go.RowKit
theorem tab_base {W : World} (g : Nat) (l : List Value) (hl : l.all gd = true) (h : ∃ e fr, W.heap[g]? = some (.cells ⟨l⟩ e fr)) (o : Nat) (v : Value) (hv : l[o]? = some v) :
   g < W.heap.size ∧ W.cell? ⟨g, o, none⟩ = some v ∧ VRel (fun _ => none) v v := by
 obtain ⟨e, fr, hh⟩ := h
 refine ⟨(Array.getElem?_eq_some_iff.1 hh).1, ?_, .gd_refl (List.all_eq_true.1 hl v (List.mem_of_getElem? hv))⟩
 simp [World.cell?, hh, hv]
theorem base_ok {W : World} (h : laidMetH Tryz.prog Rows.surveyQuietRow.laid W) : BaseOk W.heap.size laidBase W := by
 have h' : laidMet Tryz.prog Rows.surveyQuietRow.laid W := h
 have t1 := laid_tab (n := 4) h' (name := "internal/strconv.uint64pow10") (d := Rows.laid_internal_strconv_uint64pow10) (by simp [Rows.surveyQuietRow]) (g := 1) (by kernel_rfl) (t := (Tryz.prog.globals[1]!).type) (by kernel_rfl) (by kernel_rfl) (l := tab2) (by rfl)
 have t2 := laid_tab (n := 4) h' (name := "math/bits.deBruijn32tab") (d := Rows.laid_math_bits_deBruijn32tab) (by simp [Rows.surveyQuietRow]) (g := 2) (by kernel_rfl) (t := (Tryz.prog.globals[2]!).type) (by kernel_rfl) (by kernel_rfl) (l := tab0) (by rfl)
 have t3 := laid_tab (n := 4) h' (name := "math/bits.deBruijn64tab") (d := Rows.laid_math_bits_deBruijn64tab) (by simp [Rows.surveyQuietRow]) (g := 3) (by kernel_rfl) (t := (Tryz.prog.globals[3]!).type) (by kernel_rfl) (by kernel_rfl) (l := tab1) (by rfl)
 refine ⟨fun a v e => ?_, Nat.le_refl _⟩
 obtain ⟨blk, off, spot⟩ := a
 unfold laidBase at e
 cases spot with
 | some s => cases e
 | none =>
   simp only [tabAt] at e
   split at e
   · obtain ⟨q1, q2, q3⟩ := tab_base 1 tab2 (by rfl) t1 off v e; exact ⟨rfl, q1, v, q2, q3⟩
   · obtain ⟨q1, q2, q3⟩ := tab_base 2 tab0 (by rfl) t2 off v e; exact ⟨rfl, q1, v, q2, q3⟩
   · obtain ⟨q1, q2, q3⟩ := tab_base 3 tab1 (by rfl) t3 off v e; exact ⟨rfl, q1, v, q2, q3⟩
   · simp at e
end Go.Proofs.YtlioomhcdlicmaaGreatDoor
