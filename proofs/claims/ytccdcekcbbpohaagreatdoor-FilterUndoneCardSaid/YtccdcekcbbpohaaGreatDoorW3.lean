/- The function awake of the law answers true: its stretches. -/
import Derived.Test.YtccdcekcbbpohaaGreatDoorA6
import Derived.Test.YtccdcekcbbpohaaGreatDoorW2
import Derived.Below
import Derived.RowKit
import Derived.KernelRfl
set_option linter.all false
namespace Go.Proofs.YtccdcekcbbpohaaGreatDoor
open Go Go.Ab Go.RowKit

set_option maxRecDepth 1000000
-- pieces 23
noncomputable def aw_c : Code := Tryz.f10.body.getD .skip
noncomputable def aw_rec : Ev := ev Tryz.prog laidBase ext1 300
def aw_e0 : Env := Env.start 313 []
def aw_h0 : H := H.empty
def aw_t1 : List Nat := [0]
def aw_n1 : List Nat := []
def aw_v1 : List Value := [.bool false]
def aw_o1 : List AObj := []
def aw_e1 : Env := { sz := 313, l := aw_t1.zip aw_v1 }
def aw_h1 : H := hOf 0 (aw_n1.zip aw_o1)
theorem aw_s1 : Ab.seen aw_t1 aw_n1 (evPieces Tryz.prog laidBase aw_rec aw_c 0 1 aw_e0 aw_h0) = some (aw_v1, aw_o1.map some, 313, 0) := by kernel_rfl
def aw_t2 : List Nat := [2, 1, 0]
def aw_n2 : List Nat := [208]
def aw_v2 : List Value := [.int .i64 0, .slice (some ⟨208, 0, some 0⟩) 3 3, .bool false]
def aw_o2 : List AObj := [.cells [.float .f32 1065353216, .float .f32 0, .float .f32 3212836864] 36 1 false]
def aw_e2 : Env := { sz := 313, l := aw_t2.zip aw_v2 }
def aw_h2 : H := hOf 209 (aw_n2.zip aw_o2)
theorem aw_s2 : Ab.seen aw_t2 aw_n2 (evPieces Tryz.prog laidBase aw_rec aw_c 1 1 aw_e1 aw_h1) = some (aw_v2, aw_o2.map some, 313, 209) := by kernel_rfl
def aw_t3 : List Nat := [2, 4, 1, 3, 0]
def aw_n3 : List Nat := [208, 398]
def aw_v3 : List Value := [.int .i64 0, .int .i64 0, .slice (some ⟨208, 0, some 0⟩) 3 3, .slice (some ⟨398, 0, some 0⟩) 3 3, .bool false]
def aw_o3 : List AObj := [.cells [.float .f32 1065353216, .float .f32 0, .float .f32 3212836864] 36 1 false, .cells [.float .f32 1065353216, .float .f32 1073741824, .float .f32 1077936128] 36 1 false]
def aw_e3 : Env := { sz := 313, l := aw_t3.zip aw_v3 }
def aw_h3 : H := hOf 399 (aw_n3.zip aw_o3)
theorem aw_s3 : Ab.seen aw_t3 aw_n3 (evPieces Tryz.prog laidBase aw_rec aw_c 2 1 aw_e2 aw_h2) = some (aw_v3, aw_o3.map some, 313, 399) := by kernel_rfl
def aw_t4 : List Nat := [2, 4, 6, 1, 3, 5, 0]
def aw_n4 : List Nat := [208, 398, 639]
def aw_v4 : List Value := [.int .i64 0, .int .i64 0, .int .i64 0, .slice (some ⟨208, 0, some 0⟩) 3 3, .slice (some ⟨398, 0, some 0⟩) 3 3, .slice (some ⟨639, 0, some 0⟩) 3 3, .bool false]
def aw_o4 : List AObj := [.cells [.float .f32 1065353216, .float .f32 0, .float .f32 3212836864] 36 1 false, .cells [.float .f32 1065353216, .float .f32 1073741824, .float .f32 1077936128] 36 1 false, .cells [.float .f32 3225419776, .float .f32 3229614080, .float .f32 1077936128] 36 1 false]
def aw_e4 : Env := { sz := 313, l := aw_t4.zip aw_v4 }
def aw_h4 : H := hOf 640 (aw_n4.zip aw_o4)
theorem aw_s4 : Ab.seen aw_t4 aw_n4 (evPieces Tryz.prog laidBase aw_rec aw_c 3 1 aw_e3 aw_h3) = some (aw_v4, aw_o4.map some, 313, 640) := by kernel_rfl
def aw_t5 : List Nat := [2, 4, 6, 8, 1, 3, 5, 7, 0]
def aw_n5 : List Nat := [208, 398, 639]
def aw_v5 : List Value := [.int .i64 0, .int .i64 0, .int .i64 0, .int .i64 0, .slice (some ⟨208, 0, some 0⟩) 3 3, .slice (some ⟨398, 0, some 0⟩) 3 3, .slice (some ⟨639, 0, some 0⟩) 3 3, .int .i64 (-512), .bool false]
def aw_o5 : List AObj := [.cells [.float .f32 1065353216, .float .f32 0, .float .f32 3212836864] 36 1 false, .cells [.float .f32 1065353216, .float .f32 1073741824, .float .f32 1077936128] 36 1 false, .cells [.float .f32 3225419776, .float .f32 3229614080, .float .f32 1077936128] 36 1 false]
def aw_e5 : Env := { sz := 313, l := aw_t5.zip aw_v5 }
def aw_h5 : H := hOf 871 (aw_n5.zip aw_o5)
theorem aw_s5 : Ab.seen aw_t5 aw_n5 (evPieces Tryz.prog laidBase aw_rec aw_c 4 1 aw_e4 aw_h4) = some (aw_v5, aw_o5.map some, 313, 871) := by kernel_rfl
def aw_t6 : List Nat := [2, 4, 6, 8, 10, 1, 3, 5, 7, 9, 0]
def aw_n6 : List Nat := [208, 398, 639, 1522]
def aw_v6 : List Value := [.int .i64 0, .int .i64 0, .int .i64 0, .int .i64 0, .int .i64 0, .slice (some ⟨208, 0, some 0⟩) 3 3, .slice (some ⟨398, 0, some 0⟩) 3 3, .slice (some ⟨639, 0, some 0⟩) 3 3, .int .i64 (-512), .pointer (some ⟨1522, 0, some 0⟩), .bool false]
def aw_o6 : List AObj := [.cells [.float .f32 1065353216, .float .f32 0, .float .f32 3212836864] 36 1 false, .cells [.float .f32 1065353216, .float .f32 1073741824, .float .f32 1077936128] 36 1 false, .cells [.float .f32 3225419776, .float .f32 3229614080, .float .f32 1077936128] 36 1 false, .cells [.complex .f64 13830554455654793216 0, .complex .f64 4607182418800017408 4611686018427387904, .complex .f64 4613937818241073152 0, .complex .f64 4607182418800017408 13835058055282163712] 41 4 false]
def aw_e6 : Env := { sz := 313, l := aw_t6.zip aw_v6 }
def aw_h6 : H := hOf 1523 (aw_n6.zip aw_o6)
theorem aw_s6 : Ab.seen aw_t6 aw_n6 (evPieces Tryz.prog laidBase aw_rec aw_c 5 1 aw_e5 aw_h5) = some (aw_v6, aw_o6.map some, 313, 1523) := by kernel_rfl
def aw_t7 : List Nat := [2, 4, 6, 8, 10, 12, 1, 3, 5, 7, 9, 11, 0]
def aw_n7 : List Nat := [208, 398, 639, 1522, 1803]
def aw_v7 : List Value := [.int .i64 0, .int .i64 0, .int .i64 0, .int .i64 0, .int .i64 0, .int .i64 0, .slice (some ⟨208, 0, some 0⟩) 3 3, .slice (some ⟨398, 0, some 0⟩) 3 3, .slice (some ⟨639, 0, some 0⟩) 3 3, .int .i64 (-512), .pointer (some ⟨1522, 0, some 0⟩), .slice (some ⟨1803, 0, some 0⟩) 4 4, .bool false]
def aw_o7 : List AObj := [.cells [.float .f32 1065353216, .float .f32 0, .float .f32 3212836864] 36 1 false, .cells [.float .f32 1065353216, .float .f32 1073741824, .float .f32 1077936128] 36 1 false, .cells [.float .f32 3225419776, .float .f32 3229614080, .float .f32 1077936128] 36 1 false, .cells [.complex .f64 13830554455654793216 0, .complex .f64 4607182418800017408 4611686018427387904, .complex .f64 4613937818241073152 0, .complex .f64 4607182418800017408 13835058055282163712] 41 4 false, .cells [.float .f32 1065353216, .float .f32 1073741824, .float .f32 1073741824, .float .f32 1073741824] 36 1 false]
def aw_e7 : Env := { sz := 313, l := aw_t7.zip aw_v7 }
def aw_h7 : H := hOf 1804 (aw_n7.zip aw_o7)
theorem aw_s7 : Ab.seen aw_t7 aw_n7 (evPieces Tryz.prog laidBase aw_rec aw_c 6 1 aw_e6 aw_h6) = some (aw_v7, aw_o7.map some, 313, 1804) := by kernel_rfl
def aw_t8 : List Nat := [2, 4, 6, 8, 10, 12, 14, 1, 3, 5, 7, 9, 11, 13, 0]
def aw_n8 : List Nat := [208, 398, 639, 1522, 1803, 1807]
def aw_v8 : List Value := [.int .i64 0, .int .i64 0, .int .i64 0, .int .i64 0, .int .i64 0, .int .i64 0, .int .i64 0, .slice (some ⟨208, 0, some 0⟩) 3 3, .slice (some ⟨398, 0, some 0⟩) 3 3, .slice (some ⟨639, 0, some 0⟩) 3 3, .int .i64 (-512), .pointer (some ⟨1522, 0, some 0⟩), .slice (some ⟨1803, 0, some 0⟩) 4 4, .slice (some ⟨1807, 0, some 0⟩) 2 2, .bool false]
def aw_o8 : List AObj := [.cells [.float .f32 1065353216, .float .f32 0, .float .f32 3212836864] 36 1 false, .cells [.float .f32 1065353216, .float .f32 1073741824, .float .f32 1077936128] 36 1 false, .cells [.float .f32 3225419776, .float .f32 3229614080, .float .f32 1077936128] 36 1 false, .cells [.complex .f64 13830554455654793216 0, .complex .f64 4607182418800017408 4611686018427387904, .complex .f64 4613937818241073152 0, .complex .f64 4607182418800017408 13835058055282163712] 41 4 false, .cells [.float .f32 1065353216, .float .f32 1073741824, .float .f32 1073741824, .float .f32 1073741824] 36 1 false, .cells [.int .i64 0, .int .i64 2] 3 1 true]
def aw_e8 : Env := { sz := 313, l := aw_t8.zip aw_v8 }
def aw_h8 : H := hOf 1808 (aw_n8.zip aw_o8)
theorem aw_s8 : Ab.seen aw_t8 aw_n8 (evPieces Tryz.prog laidBase aw_rec aw_c 7 1 aw_e7 aw_h7) = some (aw_v8, aw_o8.map some, 313, 1808) := by kernel_rfl
def aw_t9 : List Nat := [2, 4, 6, 8, 10, 12, 14, 16, 1, 3, 5, 7, 9, 11, 13, 15, 0]
def aw_n9 : List Nat := [208, 398, 639, 1522, 1803, 1807, 2009]
def aw_v9 : List Value := [.int .i64 0, .int .i64 0, .int .i64 0, .int .i64 0, .int .i64 0, .int .i64 0, .int .i64 0, .int .i64 0, .slice (some ⟨208, 0, some 0⟩) 3 3, .slice (some ⟨398, 0, some 0⟩) 3 3, .slice (some ⟨639, 0, some 0⟩) 3 3, .int .i64 (-512), .pointer (some ⟨1522, 0, some 0⟩), .slice (some ⟨1803, 0, some 0⟩) 4 4, .slice (some ⟨1807, 0, some 0⟩) 2 2, .slice (some ⟨2009, 0, some 0⟩) 4 4, .bool false]
def aw_o9 : List AObj := [.cells [.float .f32 1065353216, .float .f32 0, .float .f32 3212836864] 36 1 false, .cells [.float .f32 1065353216, .float .f32 1073741824, .float .f32 1077936128] 36 1 false, .cells [.float .f32 3225419776, .float .f32 3229614080, .float .f32 1077936128] 36 1 false, .cells [.complex .f64 13830554455654793216 0, .complex .f64 4607182418800017408 4611686018427387904, .complex .f64 4613937818241073152 0, .complex .f64 4607182418800017408 13835058055282163712] 41 4 false, .cells [.float .f32 1065353216, .float .f32 1073741824, .float .f32 1073741824, .float .f32 1073741824] 36 1 false, .cells [.int .i64 0, .int .i64 2] 3 1 true, .cells [.float .f32 0, .float .f32 3196059648, .float .f32 0, .float .f32 3212836864] 36 1 false]
def aw_e9 : Env := { sz := 313, l := aw_t9.zip aw_v9 }
def aw_h9 : H := hOf 2010 (aw_n9.zip aw_o9)
theorem aw_s9 : Ab.seen aw_t9 aw_n9 (evPieces Tryz.prog laidBase aw_rec aw_c 8 1 aw_e8 aw_h8) = some (aw_v9, aw_o9.map some, 313, 2010) := by kernel_rfl
def aw_t10 : List Nat := [2, 4, 6, 8, 10, 12, 14, 16, 19, 1, 3, 5, 7, 9, 11, 13, 15, 17, 18, 0]
def aw_n10 : List Nat := [208, 398, 639, 1522, 1803, 1807, 2009, 2345, 2351]
def aw_v10 : List Value := [.int .i64 0, .int .i64 0, .int .i64 0, .int .i64 0, .int .i64 0, .int .i64 0, .int .i64 0, .int .i64 0, .int .i64 0, .slice (some ⟨208, 0, some 0⟩) 3 3, .slice (some ⟨398, 0, some 0⟩) 3 3, .slice (some ⟨639, 0, some 0⟩) 3 3, .int .i64 (-512), .pointer (some ⟨1522, 0, some 0⟩), .slice (some ⟨1803, 0, some 0⟩) 4 4, .slice (some ⟨1807, 0, some 0⟩) 2 2, .slice (some ⟨2009, 0, some 0⟩) 4 4, .slice (some ⟨2345, 0, some 0⟩) 4 4, .pointer (some ⟨2351, 0, some 0⟩), .bool false]
def aw_o10 : List AObj := [.cells [.float .f32 1065353216, .float .f32 0, .float .f32 3212836864] 36 1 false, .cells [.float .f32 1065353216, .float .f32 1073741824, .float .f32 1077936128] 36 1 false, .cells [.float .f32 3225419776, .float .f32 3229614080, .float .f32 1077936128] 36 1 false, .cells [.complex .f64 13830554455654793216 0, .complex .f64 4607182418800017408 4611686018427387904, .complex .f64 4613937818241073152 0, .complex .f64 4607182418800017408 13835058055282163712] 41 4 false, .cells [.float .f32 1065353216, .float .f32 1073741824, .float .f32 1073741824, .float .f32 1073741824] 36 1 false, .cells [.int .i64 0, .int .i64 2] 3 1 true, .cells [.float .f32 0, .float .f32 3196059648, .float .f32 0, .float .f32 3212836864] 36 1 false, .cells [.float .f32 0, .float .f32 0, .float .f32 0, .float .f32 0] 36 1 false, .cells [.int .i64 (-12), .int .i64 1] 65 2 false]
def aw_e10 : Env := { sz := 313, l := aw_t10.zip aw_v10 }
def aw_h10 : H := hOf 2352 (aw_n10.zip aw_o10)
theorem aw_s10 : Ab.seen aw_t10 aw_n10 (evPieces Tryz.prog laidBase aw_rec aw_c 9 1 aw_e9 aw_h9) = some (aw_v10, aw_o10.map some, 313, 2352) := by kernel_rfl
def aw_t11 : List Nat := [2, 4, 6, 8, 10, 12, 14, 16, 19, 21, 1, 3, 5, 7, 9, 11, 13, 15, 17, 18, 20, 0]
def aw_n11 : List Nat := [208, 398, 639, 1522, 1803, 1807, 2009, 2345, 2351, 2616]
def aw_v11 : List Value := [.int .i64 0, .int .i64 0, .int .i64 0, .int .i64 0, .int .i64 0, .int .i64 0, .int .i64 0, .int .i64 0, .int .i64 0, .int .i64 0, .slice (some ⟨208, 0, some 0⟩) 3 3, .slice (some ⟨398, 0, some 0⟩) 3 3, .slice (some ⟨639, 0, some 0⟩) 3 3, .int .i64 (-512), .pointer (some ⟨1522, 0, some 0⟩), .slice (some ⟨1803, 0, some 0⟩) 4 4, .slice (some ⟨1807, 0, some 0⟩) 2 2, .slice (some ⟨2009, 0, some 0⟩) 4 4, .slice (some ⟨2345, 0, some 0⟩) 4 4, .pointer (some ⟨2351, 0, some 0⟩), .pointer (some ⟨2616, 0, some 0⟩), .bool false]
def aw_o11 : List AObj := [.cells [.float .f32 1065353216, .float .f32 0, .float .f32 3212836864] 36 1 false, .cells [.float .f32 1065353216, .float .f32 1073741824, .float .f32 1077936128] 36 1 false, .cells [.float .f32 3225419776, .float .f32 3229614080, .float .f32 1077936128] 36 1 false, .cells [.complex .f64 13830554455654793216 0, .complex .f64 4607182418800017408 4611686018427387904, .complex .f64 4613937818241073152 0, .complex .f64 4607182418800017408 13835058055282163712] 41 4 false, .cells [.float .f32 1065353216, .float .f32 1073741824, .float .f32 1073741824, .float .f32 1073741824] 36 1 false, .cells [.int .i64 0, .int .i64 2] 3 1 true, .cells [.float .f32 0, .float .f32 3196059648, .float .f32 0, .float .f32 3212836864] 36 1 false, .cells [.float .f32 0, .float .f32 0, .float .f32 0, .float .f32 0] 36 1 false, .cells [.int .i64 (-12), .int .i64 1] 65 2 false, .cells [.int .i64 1, .int .i64 2] 65 2 false]
def aw_e11 : Env := { sz := 313, l := aw_t11.zip aw_v11 }
def aw_h11 : H := hOf 2617 (aw_n11.zip aw_o11)
theorem aw_s11 : Ab.seen aw_t11 aw_n11 (evPieces Tryz.prog laidBase aw_rec aw_c 10 1 aw_e10 aw_h10) = some (aw_v11, aw_o11.map some, 313, 2617) := by kernel_rfl
def aw_t12 : List Nat := [2, 4, 6, 8, 10, 12, 14, 16, 19, 21, 23, 1, 3, 5, 7, 9, 11, 13, 15, 17, 18, 20, 22, 0]
def aw_n12 : List Nat := [208, 398, 639, 1522, 1803, 1807, 2009, 2345, 2351, 2616, 2940]
def aw_v12 : List Value := [.int .i64 0, .int .i64 0, .int .i64 0, .int .i64 0, .int .i64 0, .int .i64 0, .int .i64 0, .int .i64 0, .int .i64 0, .int .i64 0, .int .i64 0, .slice (some ⟨208, 0, some 0⟩) 3 3, .slice (some ⟨398, 0, some 0⟩) 3 3, .slice (some ⟨639, 0, some 0⟩) 3 3, .int .i64 (-512), .pointer (some ⟨1522, 0, some 0⟩), .slice (some ⟨1803, 0, some 0⟩) 4 4, .slice (some ⟨1807, 0, some 0⟩) 2 2, .slice (some ⟨2009, 0, some 0⟩) 4 4, .slice (some ⟨2345, 0, some 0⟩) 4 4, .pointer (some ⟨2351, 0, some 0⟩), .pointer (some ⟨2616, 0, some 0⟩), .slice (some ⟨2940, 0, some 0⟩) 4 4, .bool false]
def aw_o12 : List AObj := [.cells [.float .f32 1065353216, .float .f32 0, .float .f32 3212836864] 36 1 false, .cells [.float .f32 1065353216, .float .f32 1073741824, .float .f32 1077936128] 36 1 false, .cells [.float .f32 3225419776, .float .f32 3229614080, .float .f32 1077936128] 36 1 false, .cells [.complex .f64 13830554455654793216 0, .complex .f64 4607182418800017408 4611686018427387904, .complex .f64 4613937818241073152 0, .complex .f64 4607182418800017408 13835058055282163712] 41 4 false, .cells [.float .f32 1065353216, .float .f32 1073741824, .float .f32 1073741824, .float .f32 1073741824] 36 1 false, .cells [.int .i64 0, .int .i64 2] 3 1 true, .cells [.float .f32 0, .float .f32 3196059648, .float .f32 0, .float .f32 3212836864] 36 1 false, .cells [.float .f32 0, .float .f32 0, .float .f32 0, .float .f32 0] 36 1 false, .cells [.int .i64 (-12), .int .i64 1] 65 2 false, .cells [.int .i64 1, .int .i64 2] 65 2 false, .cells [.float .f32 1065353216, .float .f32 1077936128, .float .f32 1073741824, .float .f32 1077936128] 36 1 false]
def aw_e12 : Env := { sz := 313, l := aw_t12.zip aw_v12 }
def aw_h12 : H := hOf 2941 (aw_n12.zip aw_o12)
theorem aw_s12 : Ab.seen aw_t12 aw_n12 (evPieces Tryz.prog laidBase aw_rec aw_c 11 1 aw_e11 aw_h11) = some (aw_v12, aw_o12.map some, 313, 2941) := by kernel_rfl
def aw_t13 : List Nat := [0]
def aw_n13 : List Nat := []
def aw_v13 : List Value := [.bool false]
def aw_o13 : List AObj := []
def aw_e13 : Env := { sz := 313, l := aw_t13.zip aw_v13 }
def aw_h13 : H := hOf 3192 (aw_n13.zip aw_o13)
theorem aw_s13 : Ab.seen aw_t13 aw_n13 (evPieces Tryz.prog laidBase aw_rec aw_c 12 1 aw_e12 aw_h12) = some (aw_v13, aw_o13.map some, 313, 3192) := by kernel_rfl
def aw_t14 : List Nat := [25, 24, 0]
def aw_n14 : List Nat := [3897]
def aw_v14 : List Value := [.int .i64 0, .pointer (some ⟨3897, 0, some 0⟩), .bool false]
def aw_o14 : List AObj := [.cells [.int .i64 4, .int .i64 2, .int .i64 3] 97 3 false]
def aw_e14 : Env := { sz := 313, l := aw_t14.zip aw_v14 }
def aw_h14 : H := hOf 3898 (aw_n14.zip aw_o14)
theorem aw_s14 : Ab.seen aw_t14 aw_n14 (evPieces Tryz.prog laidBase aw_rec aw_c 13 1 aw_e13 aw_h13) = some (aw_v14, aw_o14.map some, 313, 3898) := by kernel_rfl
def aw_t15 : List Nat := [25, 27, 24, 26, 0]
def aw_n15 : List Nat := [3897, 4634]
def aw_v15 : List Value := [.int .i64 0, .int .i64 0, .pointer (some ⟨3897, 0, some 0⟩), .pointer (some ⟨4634, 0, some 0⟩), .bool false]
def aw_o15 : List AObj := [.cells [.int .i64 4, .int .i64 2, .int .i64 3] 97 3 false, .cells [.int .i64 1, .int .i64 3] 65 2 false]
def aw_e15 : Env := { sz := 313, l := aw_t15.zip aw_v15 }
def aw_h15 : H := hOf 4635 (aw_n15.zip aw_o15)
theorem aw_s15 : Ab.seen aw_t15 aw_n15 (evPieces Tryz.prog laidBase aw_rec aw_c 14 1 aw_e14 aw_h14) = some (aw_v15, aw_o15.map some, 313, 4635) := by kernel_rfl
def aw_t16 : List Nat := [25, 27, 29, 24, 26, 0]
def aw_n16 : List Nat := [3897, 4634]
def aw_v16 : List Value := [.int .i64 0, .int .i64 0, .int .i64 17, .pointer (some ⟨3897, 0, some 0⟩), .pointer (some ⟨4634, 0, some 0⟩), .bool false]
def aw_o16 : List AObj := [.cells [.int .i64 4, .int .i64 2, .int .i64 3] 97 3 false, .cells [.int .i64 1, .int .i64 3] 65 2 false]
def aw_e16 : Env := { sz := 313, l := aw_t16.zip aw_v16 }
def aw_h16 : H := hOf 5028 (aw_n16.zip aw_o16)
theorem aw_s16 : Ab.seen aw_t16 aw_n16 (evPieces Tryz.prog laidBase aw_rec aw_c 15 1 aw_e15 aw_h15) = some (aw_v16, aw_o16.map some, 313, 5028) := by kernel_rfl
def aw_t17 : List Nat := [25, 27, 31, 29, 24, 26, 30, 0]
def aw_n17 : List Nat := [3897, 4634, 5144]
def aw_v17 : List Value := [.int .i64 0, .int .i64 0, .int .i64 0, .int .i64 17, .pointer (some ⟨3897, 0, some 0⟩), .pointer (some ⟨4634, 0, some 0⟩), .slice (some ⟨5144, 0, some 0⟩) 3 3, .bool false]
def aw_o17 : List AObj := [.cells [.int .i64 4, .int .i64 2, .int .i64 3] 97 3 false, .cells [.int .i64 1, .int .i64 3] 65 2 false, .cells [.float .f32 1090519040, .float .f32 1098907648, .float .f32 1103101952] 36 1 false]
def aw_e17 : Env := { sz := 313, l := aw_t17.zip aw_v17 }
def aw_h17 : H := hOf 5145 (aw_n17.zip aw_o17)
theorem aw_s17 : Ab.seen aw_t17 aw_n17 (evPieces Tryz.prog laidBase aw_rec aw_c 16 1 aw_e16 aw_h16) = some (aw_v17, aw_o17.map some, 313, 5145) := by kernel_rfl
def aw_t18 : List Nat := [25, 27, 31, 33, 29, 24, 26, 30, 32, 0]
def aw_n18 : List Nat := [3897, 4634, 5144, 5245]
def aw_v18 : List Value := [.int .i64 0, .int .i64 0, .int .i64 0, .int .i64 0, .int .i64 17, .pointer (some ⟨3897, 0, some 0⟩), .pointer (some ⟨4634, 0, some 0⟩), .slice (some ⟨5144, 0, some 0⟩) 3 3, .pointer (some ⟨5245, 0, some 0⟩), .bool false]
def aw_o18 : List AObj := [.cells [.int .i64 4, .int .i64 2, .int .i64 3] 97 3 false, .cells [.int .i64 1, .int .i64 3] 65 2 false, .cells [.float .f32 1090519040, .float .f32 1098907648, .float .f32 1103101952] 36 1 false, .cells [.int .i64 3, .int .i64 2] 65 2 false]
def aw_e18 : Env := { sz := 313, l := aw_t18.zip aw_v18 }
def aw_h18 : H := hOf 5246 (aw_n18.zip aw_o18)
theorem aw_s18 : Ab.seen aw_t18 aw_n18 (evPieces Tryz.prog laidBase aw_rec aw_c 17 1 aw_e17 aw_h17) = some (aw_v18, aw_o18.map some, 313, 5246) := by kernel_rfl
def aw_t19 : List Nat := [34, 25, 27, 31, 33, 35, 29, 24, 26, 30, 32, 0]
def aw_n19 : List Nat := [5842, 3897, 4634, 5144, 5245]
def aw_v19 : List Value := [.pointer (some ⟨5842, 0, some 0⟩), .int .i64 0, .int .i64 0, .int .i64 0, .int .i64 0, .int .i64 0, .int .i64 17, .pointer (some ⟨3897, 0, some 0⟩), .pointer (some ⟨4634, 0, some 0⟩), .slice (some ⟨5144, 0, some 0⟩) 3 3, .pointer (some ⟨5245, 0, some 0⟩), .bool false]
def aw_o19 : List AObj := [.cells [.complex .f32 1082130432 0, .complex .f32 0 0, .complex .f32 0 0, .complex .f32 0 0, .complex .f32 1082130432 0, .complex .f32 0 0, .complex .f32 0 0, .complex .f32 0 0, .complex .f32 1082130432 0, .complex .f32 0 0, .complex .f32 0 0, .complex .f32 0 0, .complex .f32 1082130432 0, .complex .f32 0 0, .complex .f32 0 0, .complex .f32 0 0] 106 16 false, .cells [.int .i64 4, .int .i64 2, .int .i64 3] 97 3 false, .cells [.int .i64 1, .int .i64 3] 65 2 false, .cells [.float .f32 1090519040, .float .f32 1098907648, .float .f32 1103101952] 36 1 false, .cells [.int .i64 3, .int .i64 2] 65 2 false]
def aw_e19 : Env := { sz := 313, l := aw_t19.zip aw_v19 }
def aw_h19 : H := hOf 5843 (aw_n19.zip aw_o19)
theorem aw_s19 : Ab.seen aw_t19 aw_n19 (evPieces Tryz.prog laidBase aw_rec aw_c 18 1 aw_e18 aw_h18) = some (aw_v19, aw_o19.map some, 313, 5843) := by kernel_rfl
def aw_t20 : List Nat := [36, 25, 27, 31, 33, 35, 37, 29, 24, 26, 30, 32, 34, 0]
def aw_n20 : List Nat := [6335, 3897, 4634, 5144, 5245, 5842]
def aw_v20 : List Value := [.pointer (some ⟨6335, 0, some 0⟩), .int .i64 0, .int .i64 0, .int .i64 0, .int .i64 0, .int .i64 0, .int .i64 0, .int .i64 17, .pointer (some ⟨3897, 0, some 0⟩), .pointer (some ⟨4634, 0, some 0⟩), .slice (some ⟨5144, 0, some 0⟩) 3 3, .pointer (some ⟨5245, 0, some 0⟩), .pointer (some ⟨5842, 0, some 0⟩), .bool false]
def aw_o20 : List AObj := [.cells [.complex .f32 1082130432 0, .complex .f32 0 0, .complex .f32 0 0, .complex .f32 0 0, .complex .f32 1082130432 0, .complex .f32 0 0, .complex .f32 0 0, .complex .f32 0 0, .complex .f32 1082130432 0, .complex .f32 0 0, .complex .f32 0 0, .complex .f32 0 0, .complex .f32 1082130432 0, .complex .f32 0 0, .complex .f32 0 0, .complex .f32 0 0] 106 16 false, .cells [.int .i64 4, .int .i64 2, .int .i64 3] 97 3 false, .cells [.int .i64 1, .int .i64 3] 65 2 false, .cells [.float .f32 1090519040, .float .f32 1098907648, .float .f32 1103101952] 36 1 false, .cells [.int .i64 3, .int .i64 2] 65 2 false, .cells [.complex .f32 1082130432 0, .complex .f32 0 0, .complex .f32 0 0, .complex .f32 0 0, .complex .f32 1082130432 0, .complex .f32 0 0, .complex .f32 0 0, .complex .f32 0 0, .complex .f32 1082130432 0, .complex .f32 0 0, .complex .f32 0 0, .complex .f32 0 0, .complex .f32 1082130432 0, .complex .f32 0 0, .complex .f32 0 0, .complex .f32 0 0] 106 16 false]
def aw_e20 : Env := { sz := 313, l := aw_t20.zip aw_v20 }
def aw_h20 : H := hOf 6336 (aw_n20.zip aw_o20)
theorem aw_s20 : Ab.seen aw_t20 aw_n20 (evPieces Tryz.prog laidBase aw_rec aw_c 19 1 aw_e19 aw_h19) = some (aw_v20, aw_o20.map some, 313, 6336) := by kernel_rfl
def aw_t21 : List Nat := [25, 27, 31, 33, 35, 37, 39, 29, 24, 26, 30, 32, 34, 36, 38, 0]
def aw_n21 : List Nat := [3897, 4634, 5144, 5245, 5842, 6335, 7157]
def aw_v21 : List Value := [.int .i64 0, .int .i64 0, .int .i64 0, .int .i64 0, .int .i64 0, .int .i64 0, .int .i64 0, .int .i64 17, .pointer (some ⟨3897, 0, some 0⟩), .pointer (some ⟨4634, 0, some 0⟩), .slice (some ⟨5144, 0, some 0⟩) 3 3, .pointer (some ⟨5245, 0, some 0⟩), .pointer (some ⟨5842, 0, some 0⟩), .pointer (some ⟨6335, 0, some 0⟩), .pointer (some ⟨7157, 0, some 0⟩), .bool false]
def aw_o21 : List AObj := [.cells [.int .i64 4, .int .i64 2, .int .i64 3] 97 3 false, .cells [.int .i64 1, .int .i64 3] 65 2 false, .cells [.float .f32 1090519040, .float .f32 1098907648, .float .f32 1103101952] 36 1 false, .cells [.int .i64 3, .int .i64 2] 65 2 false, .cells [.complex .f32 1082130432 0, .complex .f32 0 0, .complex .f32 0 0, .complex .f32 0 0, .complex .f32 1082130432 0, .complex .f32 0 0, .complex .f32 0 0, .complex .f32 0 0, .complex .f32 1082130432 0, .complex .f32 0 0, .complex .f32 0 0, .complex .f32 0 0, .complex .f32 1082130432 0, .complex .f32 0 0, .complex .f32 0 0, .complex .f32 0 0] 106 16 false, .cells [.complex .f32 1082130432 0, .complex .f32 0 0, .complex .f32 0 0, .complex .f32 0 0, .complex .f32 1082130432 0, .complex .f32 0 0, .complex .f32 0 0, .complex .f32 0 0, .complex .f32 1082130432 0, .complex .f32 0 0, .complex .f32 0 0, .complex .f32 0 0, .complex .f32 1082130432 0, .complex .f32 0 0, .complex .f32 0 0, .complex .f32 0 0] 106 16 false, .cells [.float .f32 1065353216, .float .f32 0, .float .f32 0, .float .f32 0, .float .f32 1065353216, .float .f32 0, .float .f32 0, .float .f32 0, .float .f32 1065353216, .float .f32 0, .float .f32 0, .float .f32 0, .float .f32 1065353216, .float .f32 0, .float .f32 0, .float .f32 0] 110 16 false]
def aw_e21 : Env := { sz := 313, l := aw_t21.zip aw_v21 }
def aw_h21 : H := hOf 7158 (aw_n21.zip aw_o21)
theorem aw_s21 : Ab.seen aw_t21 aw_n21 (evPieces Tryz.prog laidBase aw_rec aw_c 20 1 aw_e20 aw_h20) = some (aw_v21, aw_o21.map some, 313, 7158) := by kernel_rfl
def aw_t22 : List Nat := [25, 27, 31, 33, 35, 37, 39, 41, 29, 24, 26, 30, 32, 34, 36, 38, 40, 0]
def aw_n22 : List Nat := [3897, 4634, 5144, 5245, 5842, 6335, 7157]
def aw_v22 : List Value := [.int .i64 0, .int .i64 0, .int .i64 0, .int .i64 0, .int .i64 0, .int .i64 0, .int .i64 0, .int .i64 0, .int .i64 17, .pointer (some ⟨3897, 0, some 0⟩), .pointer (some ⟨4634, 0, some 0⟩), .slice (some ⟨5144, 0, some 0⟩) 3 3, .pointer (some ⟨5245, 0, some 0⟩), .pointer (some ⟨5842, 0, some 0⟩), .pointer (some ⟨6335, 0, some 0⟩), .pointer (some ⟨7157, 0, some 0⟩), .string ⟨⟨[49, 32, 45, 50]⟩⟩, .bool false]
def aw_o22 : List AObj := [.cells [.int .i64 4, .int .i64 2, .int .i64 3] 97 3 false, .cells [.int .i64 1, .int .i64 3] 65 2 false, .cells [.float .f32 1090519040, .float .f32 1098907648, .float .f32 1103101952] 36 1 false, .cells [.int .i64 3, .int .i64 2] 65 2 false, .cells [.complex .f32 1082130432 0, .complex .f32 0 0, .complex .f32 0 0, .complex .f32 0 0, .complex .f32 1082130432 0, .complex .f32 0 0, .complex .f32 0 0, .complex .f32 0 0, .complex .f32 1082130432 0, .complex .f32 0 0, .complex .f32 0 0, .complex .f32 0 0, .complex .f32 1082130432 0, .complex .f32 0 0, .complex .f32 0 0, .complex .f32 0 0] 106 16 false, .cells [.complex .f32 1082130432 0, .complex .f32 0 0, .complex .f32 0 0, .complex .f32 0 0, .complex .f32 1082130432 0, .complex .f32 0 0, .complex .f32 0 0, .complex .f32 0 0, .complex .f32 1082130432 0, .complex .f32 0 0, .complex .f32 0 0, .complex .f32 0 0, .complex .f32 1082130432 0, .complex .f32 0 0, .complex .f32 0 0, .complex .f32 0 0] 106 16 false, .cells [.float .f32 1065353216, .float .f32 0, .float .f32 0, .float .f32 0, .float .f32 1065353216, .float .f32 0, .float .f32 0, .float .f32 0, .float .f32 1065353216, .float .f32 0, .float .f32 0, .float .f32 0, .float .f32 1065353216, .float .f32 0, .float .f32 0, .float .f32 0] 110 16 false]
def aw_e22 : Env := { sz := 313, l := aw_t22.zip aw_v22 }
def aw_h22 : H := hOf 7204 (aw_n22.zip aw_o22)
theorem aw_s22 : Ab.seen aw_t22 aw_n22 (evPieces Tryz.prog laidBase aw_rec aw_c 21 1 aw_e21 aw_h21) = some (aw_v22, aw_o22.map some, 313, 7204) := by kernel_rfl
def aw_t23 : List Nat := [0]
def aw_n23 : List Nat := []
def aw_v23 : List Value := [.bool true]
def aw_o23 : List AObj := []
def aw_e23 : Env := { sz := 313, l := aw_t23.zip aw_v23 }
def aw_h23 : H := hOf 7232 (aw_n23.zip aw_o23)
theorem aw_s23 : Ab.seen aw_t23 aw_n23 (evPieces Tryz.prog laidBase aw_rec aw_c 22 1 aw_e22 aw_h22) = some (aw_v23, aw_o23.map some, 313, 7232) := by kernel_rfl
end Go.Proofs.YtccdcekcbbpohaaGreatDoor
