/- The function awake answers true (no condition but the laid tables). -/
import Derived.Test.YthnnndkfpamacaaGreatDoorA6
import Derived.Test.YthnnndkfpamacaaGreatDoorS1
import Derived.Below
import Derived.RowKit
import Derived.KernelRfl
set_option linter.all false
namespace Go.Proofs.YthnnndkfpamacaaGreatDoor
open Go Go.Ab Go.RowKit
set_option maxRecDepth 1000000
-- pieces 24
noncomputable def aw_c : Code := Tryz.f16.body.getD .skip
noncomputable def aw_rec : Ev := ev Tryz.prog laidBase ext0 300
def aw_e0 : Env := Env.start 329 []
def aw_h0 : H := H.empty
def aw_t1 : List Nat := [0]
def aw_n1 : List Nat := []
def aw_v1 : List Value := [.bool false]
def aw_o1 : List AObj := []
def aw_e1 : Env := { sz := 329, l := aw_t1.zip aw_v1 }
def aw_h1 : H := hOf 0 (aw_n1.zip aw_o1)
theorem aw_s1 : Ab.seen aw_t1 aw_n1 (evPieces Tryz.prog laidBase aw_rec aw_c 0 1 aw_e0 aw_h0) = some (aw_v1, aw_o1.map some, 329, 0) := by kernel_rfl
def aw_t2 : List Nat := [2, 1, 0]
def aw_n2 : List Nat := []
def aw_v2 : List Value := [.int .i64 0, .int .i64 3, .bool false]
def aw_o2 : List AObj := []
def aw_e2 : Env := { sz := 329, l := aw_t2.zip aw_v2 }
def aw_h2 : H := hOf 370 (aw_n2.zip aw_o2)
theorem aw_s2 : Ab.seen aw_t2 aw_n2 (evPieces Tryz.prog laidBase aw_rec aw_c 1 1 aw_e1 aw_h1) = some (aw_v2, aw_o2.map some, 329, 370) := by kernel_rfl
def aw_t3 : List Nat := [2, 4, 1, 3, 0]
def aw_n3 : List Nat := [737]
def aw_v3 : List Value := [.int .i64 0, .int .i64 0, .int .i64 3, .slice (some ⟨737, 0, some 0⟩) 1 1, .bool false]
def aw_o3 : List AObj := [.cells [.int .i64 1] 3 1 true]
def aw_e3 : Env := { sz := 329, l := aw_t3.zip aw_v3 }
def aw_h3 : H := hOf 739 (aw_n3.zip aw_o3)
theorem aw_s3 : Ab.seen aw_t3 aw_n3 (evPieces Tryz.prog laidBase aw_rec aw_c 2 1 aw_e2 aw_h2) = some (aw_v3, aw_o3.map some, 329, 739) := by kernel_rfl
def aw_t4 : List Nat := [2, 4, 6, 1, 3, 5, 0]
def aw_n4 : List Nat := [737]
def aw_v4 : List Value := [.int .i64 0, .int .i64 0, .int .i64 0, .int .i64 3, .slice (some ⟨737, 0, some 0⟩) 1 1, .int .i64 2500, .bool false]
def aw_o4 : List AObj := [.cells [.int .i64 1] 3 1 true]
def aw_e4 : Env := { sz := 329, l := aw_t4.zip aw_v4 }
def aw_h4 : H := hOf 872 (aw_n4.zip aw_o4)
theorem aw_s4 : Ab.seen aw_t4 aw_n4 (evPieces Tryz.prog laidBase aw_rec aw_c 3 1 aw_e3 aw_h3) = some (aw_v4, aw_o4.map some, 329, 872) := by kernel_rfl
def aw_t5 : List Nat := [2, 4, 6, 8, 1, 3, 5, 7, 0]
def aw_n5 : List Nat := [737, 1341, 1261, 1280, 1297]
def aw_v5 : List Value := [.int .i64 0, .int .i64 0, .int .i64 0, .int .i64 0, .int .i64 3, .slice (some ⟨737, 0, some 0⟩) 1 1, .int .i64 2500, .pointer (some ⟨1341, 0, some 0⟩), .bool false]
def aw_o5 : List AObj := [.cells [.int .i64 1] 3 1 true, .cells [.string ⟨⟨[115, 49]⟩⟩, .slice (some ⟨1261, 0, some 0⟩) 3 3] 54 2 false, .cells [.int .i64 0, .int .i64 0, .int .i64 30, .int .i64 40, .int .i64 6, .int .i64 0, .int .i64 0, .int .i64 0, .bool false, .slice (some ⟨1280, 0, some 0⟩) 2 2, .int .i64 0, .int .i64 0, .int .i64 60, .int .i64 80, .int .i64 6, .int .i64 1, .int .i64 0, .int .i64 0, .bool true, .slice none 0 0, .int .i64 0, .int .i64 0, .int .i64 0, .int .i64 0, .int .i64 6, .int .i64 2, .int .i64 0, .int .i64 (-7), .bool false, .slice (some ⟨1297, 0, some 0⟩) 2 2] 58 10 false, .cells [.float .f32 1073741824, .float .f32 1077936128] 23 1 false, .cells [.float .f32 3221225472, .float .f32 1031798784] 23 1 false]
def aw_e5 : Env := { sz := 329, l := aw_t5.zip aw_v5 }
def aw_h5 : H := hOf 1342 (aw_n5.zip aw_o5)
theorem aw_s5 : Ab.seen aw_t5 aw_n5 (evPieces Tryz.prog laidBase aw_rec aw_c 4 1 aw_e4 aw_h4) = some (aw_v5, aw_o5.map some, 329, 1342) := by kernel_rfl
def aw_t6 : List Nat := [2, 4, 6, 8, 10, 1, 3, 5, 7, 9, 0]
def aw_n6 : List Nat := [737, 1341, 1261, 1280, 1297, 1758, 1719, 1739, 1757]
def aw_v6 : List Value := [.int .i64 0, .int .i64 0, .int .i64 0, .int .i64 0, .int .i64 0, .int .i64 3, .slice (some ⟨737, 0, some 0⟩) 1 1, .int .i64 2500, .pointer (some ⟨1341, 0, some 0⟩), .pointer (some ⟨1758, 0, some 0⟩), .bool false]
def aw_o6 : List AObj := [.cells [.int .i64 1] 3 1 true, .cells [.string ⟨⟨[115, 49]⟩⟩, .slice (some ⟨1261, 0, some 0⟩) 3 3] 54 2 false, .cells [.int .i64 0, .int .i64 0, .int .i64 30, .int .i64 40, .int .i64 6, .int .i64 0, .int .i64 0, .int .i64 0, .bool false, .slice (some ⟨1280, 0, some 0⟩) 2 2, .int .i64 0, .int .i64 0, .int .i64 60, .int .i64 80, .int .i64 6, .int .i64 1, .int .i64 0, .int .i64 0, .bool true, .slice none 0 0, .int .i64 0, .int .i64 0, .int .i64 0, .int .i64 0, .int .i64 6, .int .i64 2, .int .i64 0, .int .i64 (-7), .bool false, .slice (some ⟨1297, 0, some 0⟩) 2 2] 58 10 false, .cells [.float .f32 1073741824, .float .f32 1077936128] 23 1 false, .cells [.float .f32 3221225472, .float .f32 1031798784] 23 1 false, .cells [.string ⟨⟨[115, 49]⟩⟩, .slice (some ⟨1719, 0, some 0⟩) 3 3] 54 2 false, .cells [.int .i64 0, .int .i64 0, .int .i64 30, .int .i64 40, .int .i64 5, .int .i64 0, .int .i64 0, .int .i64 0, .bool false, .slice (some ⟨1739, 0, some 0⟩) 3 3, .int .i64 0, .int .i64 0, .int .i64 60, .int .i64 80, .int .i64 5, .int .i64 1, .int .i64 0, .int .i64 0, .bool true, .slice none 0 0, .int .i64 0, .int .i64 0, .int .i64 0, .int .i64 0, .int .i64 5, .int .i64 2, .int .i64 0, .int .i64 (-7), .bool false, .slice (some ⟨1757, 0, some 0⟩) 3 3] 58 10 false, .cells [.float .f32 0, .float .f32 1065353216, .float .f32 1073741824] 23 1 false, .cells [.float .f32 0, .float .f32 1065353216, .float .f32 3221225472] 23 1 false]
def aw_e6 : Env := { sz := 329, l := aw_t6.zip aw_v6 }
def aw_h6 : H := hOf 1759 (aw_n6.zip aw_o6)
theorem aw_s6 : Ab.seen aw_t6 aw_n6 (evPieces Tryz.prog laidBase aw_rec aw_c 5 1 aw_e5 aw_h5) = some (aw_v6, aw_o6.map some, 329, 1759) := by kernel_rfl
def aw_t7 : List Nat := [2, 4, 6, 8, 10, 12, 1, 3, 5, 7, 9, 11, 0]
def aw_n7 : List Nat := [737, 1341, 1261, 1280, 1297, 1758, 1719, 1739, 1757, 2178, 2139, 2159, 2177]
def aw_v7 : List Value := [.int .i64 0, .int .i64 0, .int .i64 0, .int .i64 0, .int .i64 0, .int .i64 0, .int .i64 3, .slice (some ⟨737, 0, some 0⟩) 1 1, .int .i64 2500, .pointer (some ⟨1341, 0, some 0⟩), .pointer (some ⟨1758, 0, some 0⟩), .pointer (some ⟨2178, 0, some 0⟩), .bool false]
def aw_o7 : List AObj := [.cells [.int .i64 1] 3 1 true, .cells [.string ⟨⟨[115, 49]⟩⟩, .slice (some ⟨1261, 0, some 0⟩) 3 3] 54 2 false, .cells [.int .i64 0, .int .i64 0, .int .i64 30, .int .i64 40, .int .i64 6, .int .i64 0, .int .i64 0, .int .i64 0, .bool false, .slice (some ⟨1280, 0, some 0⟩) 2 2, .int .i64 0, .int .i64 0, .int .i64 60, .int .i64 80, .int .i64 6, .int .i64 1, .int .i64 0, .int .i64 0, .bool true, .slice none 0 0, .int .i64 0, .int .i64 0, .int .i64 0, .int .i64 0, .int .i64 6, .int .i64 2, .int .i64 0, .int .i64 (-7), .bool false, .slice (some ⟨1297, 0, some 0⟩) 2 2] 58 10 false, .cells [.float .f32 1073741824, .float .f32 1077936128] 23 1 false, .cells [.float .f32 3221225472, .float .f32 1031798784] 23 1 false, .cells [.string ⟨⟨[115, 49]⟩⟩, .slice (some ⟨1719, 0, some 0⟩) 3 3] 54 2 false, .cells [.int .i64 0, .int .i64 0, .int .i64 30, .int .i64 40, .int .i64 5, .int .i64 0, .int .i64 0, .int .i64 0, .bool false, .slice (some ⟨1739, 0, some 0⟩) 3 3, .int .i64 0, .int .i64 0, .int .i64 60, .int .i64 80, .int .i64 5, .int .i64 1, .int .i64 0, .int .i64 0, .bool true, .slice none 0 0, .int .i64 0, .int .i64 0, .int .i64 0, .int .i64 0, .int .i64 5, .int .i64 2, .int .i64 0, .int .i64 (-7), .bool false, .slice (some ⟨1757, 0, some 0⟩) 3 3] 58 10 false, .cells [.float .f32 0, .float .f32 1065353216, .float .f32 1073741824] 23 1 false, .cells [.float .f32 0, .float .f32 1065353216, .float .f32 3221225472] 23 1 false, .cells [.string ⟨⟨[115, 49]⟩⟩, .slice (some ⟨2139, 0, some 0⟩) 3 3] 54 2 false, .cells [.int .i64 0, .int .i64 0, .int .i64 30, .int .i64 40, .int .i64 5, .int .i64 0, .int .i64 0, .int .i64 0, .bool false, .slice (some ⟨2159, 0, some 0⟩) 3 3, .int .i64 0, .int .i64 0, .int .i64 60, .int .i64 80, .int .i64 5, .int .i64 1, .int .i64 0, .int .i64 0, .bool true, .slice none 0 0, .int .i64 0, .int .i64 0, .int .i64 0, .int .i64 0, .int .i64 5, .int .i64 2, .int .i64 0, .int .i64 (-7), .bool false, .slice (some ⟨2177, 0, some 0⟩) 3 3] 58 10 false, .cells [.float .f32 1056964608, .float .f32 1065353216, .float .f32 1069547520] 23 1 false, .cells [.float .f32 1056964608, .float .f32 3212836864, .float .f32 1031798784] 23 1 false]
def aw_e7 : Env := { sz := 329, l := aw_t7.zip aw_v7 }
def aw_h7 : H := hOf 2179 (aw_n7.zip aw_o7)
theorem aw_s7 : Ab.seen aw_t7 aw_n7 (evPieces Tryz.prog laidBase aw_rec aw_c 6 1 aw_e6 aw_h6) = some (aw_v7, aw_o7.map some, 329, 2179) := by kernel_rfl
def aw_t8 : List Nat := [2, 4, 6, 8, 10, 12, 14, 1, 3, 5, 13, 7, 9, 11, 0]
def aw_n8 : List Nat := [737, 2614, 1341, 1261, 1280, 1297, 1758, 1719, 1739, 1757, 2178, 2139, 2159, 2177]
def aw_v8 : List Value := [.int .i64 0, .int .i64 0, .int .i64 0, .int .i64 0, .int .i64 0, .int .i64 0, .int .i64 0, .int .i64 3, .slice (some ⟨737, 0, some 0⟩) 1 1, .int .i64 2500, .slice (some ⟨2614, 0, some 0⟩) 3 3, .pointer (some ⟨1341, 0, some 0⟩), .pointer (some ⟨1758, 0, some 0⟩), .pointer (some ⟨2178, 0, some 0⟩), .bool false]
def aw_o8 : List AObj := [.cells [.int .i64 1] 3 1 true, .cells [.float .f32 1065353216, .float .f32 0, .float .f32 1070071808] 23 1 false, .cells [.string ⟨⟨[115, 49]⟩⟩, .slice (some ⟨1261, 0, some 0⟩) 3 3] 54 2 false, .cells [.int .i64 0, .int .i64 0, .int .i64 30, .int .i64 40, .int .i64 6, .int .i64 0, .int .i64 0, .int .i64 0, .bool false, .slice (some ⟨1280, 0, some 0⟩) 2 2, .int .i64 0, .int .i64 0, .int .i64 60, .int .i64 80, .int .i64 6, .int .i64 1, .int .i64 0, .int .i64 0, .bool true, .slice none 0 0, .int .i64 0, .int .i64 0, .int .i64 0, .int .i64 0, .int .i64 6, .int .i64 2, .int .i64 0, .int .i64 (-7), .bool false, .slice (some ⟨1297, 0, some 0⟩) 2 2] 58 10 false, .cells [.float .f32 1073741824, .float .f32 1077936128] 23 1 false, .cells [.float .f32 3221225472, .float .f32 1031798784] 23 1 false, .cells [.string ⟨⟨[115, 49]⟩⟩, .slice (some ⟨1719, 0, some 0⟩) 3 3] 54 2 false, .cells [.int .i64 0, .int .i64 0, .int .i64 30, .int .i64 40, .int .i64 5, .int .i64 0, .int .i64 0, .int .i64 0, .bool false, .slice (some ⟨1739, 0, some 0⟩) 3 3, .int .i64 0, .int .i64 0, .int .i64 60, .int .i64 80, .int .i64 5, .int .i64 1, .int .i64 0, .int .i64 0, .bool true, .slice none 0 0, .int .i64 0, .int .i64 0, .int .i64 0, .int .i64 0, .int .i64 5, .int .i64 2, .int .i64 0, .int .i64 (-7), .bool false, .slice (some ⟨1757, 0, some 0⟩) 3 3] 58 10 false, .cells [.float .f32 0, .float .f32 1065353216, .float .f32 1073741824] 23 1 false, .cells [.float .f32 0, .float .f32 1065353216, .float .f32 3221225472] 23 1 false, .cells [.string ⟨⟨[115, 49]⟩⟩, .slice (some ⟨2139, 0, some 0⟩) 3 3] 54 2 false, .cells [.int .i64 0, .int .i64 0, .int .i64 30, .int .i64 40, .int .i64 5, .int .i64 0, .int .i64 0, .int .i64 0, .bool false, .slice (some ⟨2159, 0, some 0⟩) 3 3, .int .i64 0, .int .i64 0, .int .i64 60, .int .i64 80, .int .i64 5, .int .i64 1, .int .i64 0, .int .i64 0, .bool true, .slice none 0 0, .int .i64 0, .int .i64 0, .int .i64 0, .int .i64 0, .int .i64 5, .int .i64 2, .int .i64 0, .int .i64 (-7), .bool false, .slice (some ⟨2177, 0, some 0⟩) 3 3] 58 10 false, .cells [.float .f32 1056964608, .float .f32 1065353216, .float .f32 1069547520] 23 1 false, .cells [.float .f32 1056964608, .float .f32 3212836864, .float .f32 1031798784] 23 1 false]
def aw_e8 : Env := { sz := 329, l := aw_t8.zip aw_v8 }
def aw_h8 : H := hOf 2615 (aw_n8.zip aw_o8)
theorem aw_s8 : Ab.seen aw_t8 aw_n8 (evPieces Tryz.prog laidBase aw_rec aw_c 7 1 aw_e7 aw_h7) = some (aw_v8, aw_o8.map some, 329, 2615) := by kernel_rfl
def aw_t9 : List Nat := [0]
def aw_n9 : List Nat := []
def aw_v9 : List Value := [.bool false]
def aw_o9 : List AObj := []
def aw_e9 : Env := { sz := 329, l := aw_t9.zip aw_v9 }
def aw_h9 : H := hOf 2728 (aw_n9.zip aw_o9)
theorem aw_s9 : Ab.seen aw_t9 aw_n9 (evPieces Tryz.prog laidBase aw_rec aw_c 8 1 aw_e8 aw_h8) = some (aw_v9, aw_o9.map some, 329, 2728) := by kernel_rfl
def aw_t10 : List Nat := [16, 15, 0]
def aw_n10 : List Nat := [2733]
def aw_v10 : List Value := [.int .i64 0, .slice (some ⟨2733, 0, some 0⟩) 4 4, .bool false]
def aw_o10 : List AObj := [.cells [.float .f32 1065353216, .float .f32 1065353216, .float .f32 1065353216, .float .f32 3225419776] 23 1 false]
def aw_e10 : Env := { sz := 329, l := aw_t10.zip aw_v10 }
def aw_h10 : H := hOf 2734 (aw_n10.zip aw_o10)
theorem aw_s10 : Ab.seen aw_t10 aw_n10 (evPieces Tryz.prog laidBase aw_rec aw_c 9 1 aw_e9 aw_h9) = some (aw_v10, aw_o10.map some, 329, 2734) := by kernel_rfl
def aw_t11 : List Nat := [16, 18, 15, 17, 0]
def aw_n11 : List Nat := [2733, 2739]
def aw_v11 : List Value := [.int .i64 0, .int .i64 0, .slice (some ⟨2733, 0, some 0⟩) 4 4, .slice (some ⟨2739, 0, some 0⟩) 4 4, .bool false]
def aw_o11 : List AObj := [.cells [.float .f32 1065353216, .float .f32 1065353216, .float .f32 1065353216, .float .f32 3225419776] 23 1 false, .cells [.int .i64 512, .int .i64 1024, .int .i64 256, .int .i64 512] 3 1 false]
def aw_e11 : Env := { sz := 329, l := aw_t11.zip aw_v11 }
def aw_h11 : H := hOf 2872 (aw_n11.zip aw_o11)
theorem aw_s11 : Ab.seen aw_t11 aw_n11 (evPieces Tryz.prog laidBase aw_rec aw_c 10 1 aw_e10 aw_h10) = some (aw_v11, aw_o11.map some, 329, 2872) := by kernel_rfl
def aw_t12 : List Nat := [16, 18, 20, 15, 17, 19, 0]
def aw_n12 : List Nat := [2733, 2739]
def aw_v12 : List Value := [.int .i64 0, .int .i64 0, .int .i64 0, .slice (some ⟨2733, 0, some 0⟩) 4 4, .slice (some ⟨2739, 0, some 0⟩) 4 4, .int .i64 3584, .bool false]
def aw_o12 : List AObj := [.cells [.float .f32 1065353216, .float .f32 1065353216, .float .f32 1065353216, .float .f32 3225419776] 23 1 false, .cells [.int .i64 512, .int .i64 1024, .int .i64 256, .int .i64 512] 3 1 false]
def aw_e12 : Env := { sz := 329, l := aw_t12.zip aw_v12 }
def aw_h12 : H := hOf 2874 (aw_n12.zip aw_o12)
theorem aw_s12 : Ab.seen aw_t12 aw_n12 (evPieces Tryz.prog laidBase aw_rec aw_c 11 1 aw_e11 aw_h11) = some (aw_v12, aw_o12.map some, 329, 2874) := by kernel_rfl
def aw_t13 : List Nat := [16, 18, 20, 22, 15, 17, 19, 21, 0]
def aw_n13 : List Nat := [2733, 2739]
def aw_v13 : List Value := [.int .i64 0, .int .i64 0, .int .i64 0, .int .i64 0, .slice (some ⟨2733, 0, some 0⟩) 4 4, .slice (some ⟨2739, 0, some 0⟩) 4 4, .int .i64 3584, .int .i64 1, .bool false]
def aw_o13 : List AObj := [.cells [.float .f32 1065353216, .float .f32 1065353216, .float .f32 1065353216, .float .f32 3225419776] 23 1 false, .cells [.int .i64 512, .int .i64 1024, .int .i64 256, .int .i64 512] 3 1 false]
def aw_e13 : Env := { sz := 329, l := aw_t13.zip aw_v13 }
def aw_h13 : H := hOf 2876 (aw_n13.zip aw_o13)
theorem aw_s13 : Ab.seen aw_t13 aw_n13 (evPieces Tryz.prog laidBase aw_rec aw_c 12 1 aw_e12 aw_h12) = some (aw_v13, aw_o13.map some, 329, 2876) := by kernel_rfl
def aw_t14 : List Nat := [16, 18, 20, 22, 24, 15, 17, 19, 21, 23, 0]
def aw_n14 : List Nat := [2733, 2739, 3567]
def aw_v14 : List Value := [.int .i64 0, .int .i64 0, .int .i64 0, .int .i64 0, .int .i64 0, .slice (some ⟨2733, 0, some 0⟩) 4 4, .slice (some ⟨2739, 0, some 0⟩) 4 4, .int .i64 3584, .int .i64 1, .pointer (some ⟨3567, 0, some 0⟩), .bool false]
def aw_o14 : List AObj := [.cells [.float .f32 1065353216, .float .f32 1065353216, .float .f32 1065353216, .float .f32 3225419776] 23 1 false, .cells [.int .i64 512, .int .i64 1024, .int .i64 256, .int .i64 512] 3 1 false, .cells [.complex .f32 1092616192 0, .complex .f32 3221225472 1073741824, .complex .f32 3221225472 0, .complex .f32 3221225472 3221225472] 135 4 false]
def aw_e14 : Env := { sz := 329, l := aw_t14.zip aw_v14 }
def aw_h14 : H := hOf 3568 (aw_n14.zip aw_o14)
theorem aw_s14 : Ab.seen aw_t14 aw_n14 (evPieces Tryz.prog laidBase aw_rec aw_c 13 1 aw_e13 aw_h13) = some (aw_v14, aw_o14.map some, 329, 3568) := by kernel_rfl
def aw_t15 : List Nat := [16, 18, 20, 22, 24, 26, 15, 17, 19, 21, 23, 25, 0]
def aw_n15 : List Nat := [2733, 2739, 3567, 4219]
def aw_v15 : List Value := [.int .i64 0, .int .i64 0, .int .i64 0, .int .i64 0, .int .i64 0, .int .i64 0, .slice (some ⟨2733, 0, some 0⟩) 4 4, .slice (some ⟨2739, 0, some 0⟩) 4 4, .int .i64 3584, .int .i64 1, .pointer (some ⟨3567, 0, some 0⟩), .pointer (some ⟨4219, 0, some 0⟩), .bool false]
def aw_o15 : List AObj := [.cells [.float .f32 1065353216, .float .f32 1065353216, .float .f32 1065353216, .float .f32 3225419776] 23 1 false, .cells [.int .i64 512, .int .i64 1024, .int .i64 256, .int .i64 512] 3 1 false, .cells [.complex .f32 1092616192 0, .complex .f32 3221225472 1073741824, .complex .f32 3221225472 0, .complex .f32 3221225472 3221225472] 135 4 false, .cells [.float .f32 1048576000, .float .f32 1048576000, .float .f32 1048576000, .float .f32 1048576000] 132 4 false]
def aw_e15 : Env := { sz := 329, l := aw_t15.zip aw_v15 }
def aw_h15 : H := hOf 4220 (aw_n15.zip aw_o15)
theorem aw_s15 : Ab.seen aw_t15 aw_n15 (evPieces Tryz.prog laidBase aw_rec aw_c 14 1 aw_e14 aw_h14) = some (aw_v15, aw_o15.map some, 329, 4220) := by kernel_rfl
def aw_t16 : List Nat := [16, 18, 20, 22, 24, 26, 28, 15, 17, 19, 21, 23, 25, 0]
def aw_n16 : List Nat := [2733, 2739, 3567, 4219]
def aw_v16 : List Value := [.int .i64 0, .int .i64 0, .int .i64 0, .int .i64 0, .int .i64 0, .int .i64 0, .int .i64 1, .slice (some ⟨2733, 0, some 0⟩) 4 4, .slice (some ⟨2739, 0, some 0⟩) 4 4, .int .i64 3584, .int .i64 1, .pointer (some ⟨3567, 0, some 0⟩), .pointer (some ⟨4219, 0, some 0⟩), .bool false]
def aw_o16 : List AObj := [.cells [.float .f32 1065353216, .float .f32 1065353216, .float .f32 1065353216, .float .f32 3225419776] 23 1 false, .cells [.int .i64 512, .int .i64 1024, .int .i64 256, .int .i64 512] 3 1 false, .cells [.complex .f32 1092616192 0, .complex .f32 3221225472 1073741824, .complex .f32 3221225472 0, .complex .f32 3221225472 3221225472] 135 4 false, .cells [.float .f32 1048576000, .float .f32 1048576000, .float .f32 1048576000, .float .f32 1048576000] 132 4 false]
def aw_e16 : Env := { sz := 329, l := aw_t16.zip aw_v16 }
def aw_h16 : H := hOf 4870 (aw_n16.zip aw_o16)
theorem aw_s16 : Ab.seen aw_t16 aw_n16 (evPieces Tryz.prog laidBase aw_rec aw_c 15 1 aw_e15 aw_h15) = some (aw_v16, aw_o16.map some, 329, 4870) := by kernel_rfl
def aw_t17 : List Nat := [0]
def aw_n17 : List Nat := []
def aw_v17 : List Value := [.bool false]
def aw_o17 : List AObj := []
def aw_e17 : Env := { sz := 329, l := aw_t17.zip aw_v17 }
def aw_h17 : H := hOf 4944 (aw_n17.zip aw_o17)
theorem aw_s17 : Ab.seen aw_t17 aw_n17 (evPieces Tryz.prog laidBase aw_rec aw_c 16 1 aw_e16 aw_h16) = some (aw_v17, aw_o17.map some, 329, 4944) := by kernel_rfl
def aw_t18 : List Nat := [30, 29, 0]
def aw_n18 : List Nat := []
def aw_v18 : List Value := [.int .i64 0, .string ⟨⟨[115, 104, 111, 116, 32, 115, 49, 10, 116, 114, 97, 99, 101, 32, 48, 32, 48, 32, 51, 48, 32, 52, 48, 32, 53, 32, 48, 32, 48, 32, 48, 32, 49, 54, 32, 51, 50, 32, 52, 56, 10, 104, 111, 108, 101, 32, 48, 32, 48, 32, 54, 48, 32, 56, 48, 32, 53, 32, 49, 32, 48, 32, 48, 10, 116, 114, 97, 99, 101, 32, 48, 32, 48, 32, 48, 32, 48, 32, 53, 32, 50, 32, 48, 32, 45, 55, 32, 49, 54, 32, 45, 51, 50, 32, 49, 10]⟩⟩, .bool false]
def aw_o18 : List AObj := []
def aw_e18 : Env := { sz := 329, l := aw_t18.zip aw_v18 }
def aw_h18 : H := hOf 5548 (aw_n18.zip aw_o18)
theorem aw_s18 : Ab.seen aw_t18 aw_n18 (evPieces Tryz.prog laidBase aw_rec aw_c 17 1 aw_e17 aw_h17) = some (aw_v18, aw_o18.map some, 329, 5548) := by kernel_rfl
def aw_t19 : List Nat := [30, 32, 31, 29, 0]
def aw_n19 : List Nat := [5974]
def aw_v19 : List Value := [.int .i64 0, .int .i64 0, .slice (some ⟨5974, 0, some 0⟩) 157 157, .string ⟨⟨[115, 104, 111, 116, 32, 115, 49, 10, 116, 114, 97, 99, 101, 32, 48, 32, 48, 32, 51, 48, 32, 52, 48, 32, 53, 32, 48, 32, 48, 32, 48, 32, 49, 54, 32, 51, 50, 32, 52, 56, 10, 104, 111, 108, 101, 32, 48, 32, 48, 32, 54, 48, 32, 56, 48, 32, 53, 32, 49, 32, 48, 32, 48, 10, 116, 114, 97, 99, 101, 32, 48, 32, 48, 32, 48, 32, 48, 32, 53, 32, 50, 32, 48, 32, 45, 55, 32, 49, 54, 32, 45, 51, 50, 32, 49, 10]⟩⟩, .bool false]
def aw_o19 : List AObj := [.cells [.int .u8 83, .int .u8 72, .int .u8 79, .int .u8 84, .int .u8 2, .int .u8 115, .int .u8 49, .int .u8 3, .int .u8 0, .int .u8 3, .int .u8 0, .int .u8 0, .int .u8 0, .int .u8 0, .int .u8 0, .int .u8 0, .int .u8 0, .int .u8 0, .int .u8 0, .int .u8 0, .int .u8 0, .int .u8 0, .int .u8 30, .int .u8 0, .int .u8 0, .int .u8 0, .int .u8 40, .int .u8 0, .int .u8 0, .int .u8 0, .int .u8 5, .int .u8 0, .int .u8 0, .int .u8 0, .int .u8 0, .int .u8 0, .int .u8 0, .int .u8 0, .int .u8 0, .int .u8 0, .int .u8 0, .int .u8 0, .int .u8 0, .int .u8 63, .int .u8 128, .int .u8 0, .int .u8 0, .int .u8 64, .int .u8 0, .int .u8 0, .int .u8 0, .int .u8 64, .int .u8 64, .int .u8 0, .int .u8 0, .int .u8 0, .int .u8 170, .int .u8 186, .int .u8 169, .int .u8 1, .int .u8 0, .int .u8 0, .int .u8 0, .int .u8 0, .int .u8 0, .int .u8 0, .int .u8 0, .int .u8 0, .int .u8 0, .int .u8 0, .int .u8 0, .int .u8 60, .int .u8 0, .int .u8 0, .int .u8 0, .int .u8 80, .int .u8 0, .int .u8 0, .int .u8 0, .int .u8 5, .int .u8 0, .int .u8 0, .int .u8 0, .int .u8 1, .int .u8 0, .int .u8 0, .int .u8 0, .int .u8 0, .int .u8 0, .int .u8 0, .int .u8 0, .int .u8 0, .int .u8 0, .int .u8 0, .int .u8 0, .int .u8 0, .int .u8 0, .int .u8 0, .int .u8 0, .int .u8 0, .int .u8 0, .int .u8 0, .int .u8 0, .int .u8 0, .int .u8 0, .int .u8 189, .int .u8 176, .int .u8 166, .int .u8 0, .int .u8 0, .int .u8 0, .int .u8 0, .int .u8 0, .int .u8 0, .int .u8 0, .int .u8 0, .int .u8 0, .int .u8 0, .int .u8 0, .int .u8 0, .int .u8 0, .int .u8 0, .int .u8 0, .int .u8 0, .int .u8 0, .int .u8 0, .int .u8 0, .int .u8 0, .int .u8 5, .int .u8 0, .int .u8 0, .int .u8 0, .int .u8 2, .int .u8 0, .int .u8 0, .int .u8 0, .int .u8 0, .int .u8 255, .int .u8 255, .int .u8 255, .int .u8 249, .int .u8 63, .int .u8 128, .int .u8 0, .int .u8 0, .int .u8 192, .int .u8 0, .int .u8 0, .int .u8 0, .int .u8 61, .int .u8 128, .int .u8 0, .int .u8 0, .int .u8 0, .int .u8 226, .int .u8 143, .int .u8 7] 5 1 true]
def aw_e19 : Env := { sz := 329, l := aw_t19.zip aw_v19 }
def aw_h19 : H := hOf 5975 (aw_n19.zip aw_o19)
theorem aw_s19 : Ab.seen aw_t19 aw_n19 (evPieces Tryz.prog laidBase aw_rec aw_c 18 1 aw_e18 aw_h18) = some (aw_v19, aw_o19.map some, 329, 5975) := by kernel_rfl
def aw_t20 : List Nat := [31, 0]
def aw_n20 : List Nat := [5974]
def aw_v20 : List Value := [.slice (some ⟨5974, 0, some 0⟩) 157 157, .bool false]
def aw_o20 : List AObj := [.cells [.int .u8 83, .int .u8 72, .int .u8 79, .int .u8 84, .int .u8 2, .int .u8 115, .int .u8 49, .int .u8 3, .int .u8 0, .int .u8 3, .int .u8 0, .int .u8 0, .int .u8 0, .int .u8 0, .int .u8 0, .int .u8 0, .int .u8 0, .int .u8 0, .int .u8 0, .int .u8 0, .int .u8 0, .int .u8 0, .int .u8 30, .int .u8 0, .int .u8 0, .int .u8 0, .int .u8 40, .int .u8 0, .int .u8 0, .int .u8 0, .int .u8 5, .int .u8 0, .int .u8 0, .int .u8 0, .int .u8 0, .int .u8 0, .int .u8 0, .int .u8 0, .int .u8 0, .int .u8 0, .int .u8 0, .int .u8 0, .int .u8 0, .int .u8 63, .int .u8 128, .int .u8 0, .int .u8 0, .int .u8 64, .int .u8 0, .int .u8 0, .int .u8 0, .int .u8 64, .int .u8 64, .int .u8 0, .int .u8 0, .int .u8 0, .int .u8 170, .int .u8 186, .int .u8 169, .int .u8 1, .int .u8 0, .int .u8 0, .int .u8 0, .int .u8 0, .int .u8 0, .int .u8 0, .int .u8 0, .int .u8 0, .int .u8 0, .int .u8 0, .int .u8 0, .int .u8 60, .int .u8 0, .int .u8 0, .int .u8 0, .int .u8 80, .int .u8 0, .int .u8 0, .int .u8 0, .int .u8 5, .int .u8 0, .int .u8 0, .int .u8 0, .int .u8 1, .int .u8 0, .int .u8 0, .int .u8 0, .int .u8 0, .int .u8 0, .int .u8 0, .int .u8 0, .int .u8 0, .int .u8 0, .int .u8 0, .int .u8 0, .int .u8 0, .int .u8 0, .int .u8 0, .int .u8 0, .int .u8 0, .int .u8 0, .int .u8 0, .int .u8 0, .int .u8 0, .int .u8 0, .int .u8 189, .int .u8 176, .int .u8 166, .int .u8 0, .int .u8 0, .int .u8 0, .int .u8 0, .int .u8 0, .int .u8 0, .int .u8 0, .int .u8 0, .int .u8 0, .int .u8 0, .int .u8 0, .int .u8 0, .int .u8 0, .int .u8 0, .int .u8 0, .int .u8 0, .int .u8 0, .int .u8 0, .int .u8 0, .int .u8 0, .int .u8 5, .int .u8 0, .int .u8 0, .int .u8 0, .int .u8 2, .int .u8 0, .int .u8 0, .int .u8 0, .int .u8 0, .int .u8 255, .int .u8 255, .int .u8 255, .int .u8 249, .int .u8 63, .int .u8 128, .int .u8 0, .int .u8 0, .int .u8 192, .int .u8 0, .int .u8 0, .int .u8 0, .int .u8 61, .int .u8 128, .int .u8 0, .int .u8 0, .int .u8 0, .int .u8 226, .int .u8 143, .int .u8 7] 5 1 true]
def aw_e20 : Env := { sz := 329, l := aw_t20.zip aw_v20 }
def aw_h20 : H := hOf 5975 (aw_n20.zip aw_o20)
theorem aw_s20 : Ab.seen aw_t20 aw_n20 (evPieces Tryz.prog laidBase aw_rec aw_c 19 1 aw_e19 aw_h19) = some (aw_v20, aw_o20.map some, 329, 5975) := by kernel_rfl
def aw_t21 : List Nat := [31, 0]
def aw_n21 : List Nat := [5974]
def aw_v21 : List Value := [.slice (some ⟨5974, 0, some 0⟩) 157 157, .bool false]
def aw_o21 : List AObj := [.cells [.int .u8 83, .int .u8 72, .int .u8 79, .int .u8 84, .int .u8 2, .int .u8 115, .int .u8 49, .int .u8 3, .int .u8 0, .int .u8 3, .int .u8 0, .int .u8 0, .int .u8 0, .int .u8 0, .int .u8 0, .int .u8 0, .int .u8 0, .int .u8 0, .int .u8 0, .int .u8 0, .int .u8 0, .int .u8 0, .int .u8 30, .int .u8 0, .int .u8 0, .int .u8 0, .int .u8 40, .int .u8 0, .int .u8 0, .int .u8 0, .int .u8 4, .int .u8 0, .int .u8 0, .int .u8 0, .int .u8 0, .int .u8 0, .int .u8 0, .int .u8 0, .int .u8 0, .int .u8 0, .int .u8 0, .int .u8 0, .int .u8 0, .int .u8 63, .int .u8 128, .int .u8 0, .int .u8 0, .int .u8 64, .int .u8 0, .int .u8 0, .int .u8 0, .int .u8 64, .int .u8 64, .int .u8 0, .int .u8 0, .int .u8 0, .int .u8 170, .int .u8 186, .int .u8 169, .int .u8 1, .int .u8 0, .int .u8 0, .int .u8 0, .int .u8 0, .int .u8 0, .int .u8 0, .int .u8 0, .int .u8 0, .int .u8 0, .int .u8 0, .int .u8 0, .int .u8 60, .int .u8 0, .int .u8 0, .int .u8 0, .int .u8 80, .int .u8 0, .int .u8 0, .int .u8 0, .int .u8 5, .int .u8 0, .int .u8 0, .int .u8 0, .int .u8 1, .int .u8 0, .int .u8 0, .int .u8 0, .int .u8 0, .int .u8 0, .int .u8 0, .int .u8 0, .int .u8 0, .int .u8 0, .int .u8 0, .int .u8 0, .int .u8 0, .int .u8 0, .int .u8 0, .int .u8 0, .int .u8 0, .int .u8 0, .int .u8 0, .int .u8 0, .int .u8 0, .int .u8 0, .int .u8 189, .int .u8 176, .int .u8 166, .int .u8 0, .int .u8 0, .int .u8 0, .int .u8 0, .int .u8 0, .int .u8 0, .int .u8 0, .int .u8 0, .int .u8 0, .int .u8 0, .int .u8 0, .int .u8 0, .int .u8 0, .int .u8 0, .int .u8 0, .int .u8 0, .int .u8 0, .int .u8 0, .int .u8 0, .int .u8 0, .int .u8 5, .int .u8 0, .int .u8 0, .int .u8 0, .int .u8 2, .int .u8 0, .int .u8 0, .int .u8 0, .int .u8 0, .int .u8 255, .int .u8 255, .int .u8 255, .int .u8 249, .int .u8 63, .int .u8 128, .int .u8 0, .int .u8 0, .int .u8 192, .int .u8 0, .int .u8 0, .int .u8 0, .int .u8 61, .int .u8 128, .int .u8 0, .int .u8 0, .int .u8 0, .int .u8 226, .int .u8 143, .int .u8 7] 5 1 true]
def aw_e21 : Env := { sz := 329, l := aw_t21.zip aw_v21 }
def aw_h21 : H := hOf 5975 (aw_n21.zip aw_o21)
theorem aw_s21 : Ab.seen aw_t21 aw_n21 (evPieces Tryz.prog laidBase aw_rec aw_c 20 1 aw_e20 aw_h20) = some (aw_v21, aw_o21.map some, 329, 5975) := by kernel_rfl
def aw_t22 : List Nat := [31, 34, 0]
def aw_n22 : List Nat := [5974]
def aw_v22 : List Value := [.slice (some ⟨5974, 0, some 0⟩) 157 157, .int .i64 27, .bool false]
def aw_o22 : List AObj := [.cells [.int .u8 83, .int .u8 72, .int .u8 79, .int .u8 84, .int .u8 2, .int .u8 115, .int .u8 49, .int .u8 3, .int .u8 0, .int .u8 3, .int .u8 0, .int .u8 0, .int .u8 0, .int .u8 0, .int .u8 0, .int .u8 0, .int .u8 0, .int .u8 0, .int .u8 0, .int .u8 0, .int .u8 0, .int .u8 0, .int .u8 30, .int .u8 0, .int .u8 0, .int .u8 0, .int .u8 40, .int .u8 0, .int .u8 0, .int .u8 0, .int .u8 4, .int .u8 0, .int .u8 0, .int .u8 0, .int .u8 0, .int .u8 0, .int .u8 0, .int .u8 0, .int .u8 0, .int .u8 0, .int .u8 0, .int .u8 0, .int .u8 0, .int .u8 63, .int .u8 128, .int .u8 0, .int .u8 0, .int .u8 64, .int .u8 0, .int .u8 0, .int .u8 0, .int .u8 64, .int .u8 64, .int .u8 0, .int .u8 0, .int .u8 0, .int .u8 170, .int .u8 186, .int .u8 169, .int .u8 1, .int .u8 0, .int .u8 0, .int .u8 0, .int .u8 0, .int .u8 0, .int .u8 0, .int .u8 0, .int .u8 0, .int .u8 0, .int .u8 0, .int .u8 0, .int .u8 60, .int .u8 0, .int .u8 0, .int .u8 0, .int .u8 80, .int .u8 0, .int .u8 0, .int .u8 0, .int .u8 5, .int .u8 0, .int .u8 0, .int .u8 0, .int .u8 1, .int .u8 0, .int .u8 0, .int .u8 0, .int .u8 0, .int .u8 0, .int .u8 0, .int .u8 0, .int .u8 0, .int .u8 0, .int .u8 0, .int .u8 0, .int .u8 0, .int .u8 0, .int .u8 0, .int .u8 0, .int .u8 0, .int .u8 0, .int .u8 0, .int .u8 0, .int .u8 0, .int .u8 0, .int .u8 189, .int .u8 176, .int .u8 166, .int .u8 0, .int .u8 0, .int .u8 0, .int .u8 0, .int .u8 0, .int .u8 0, .int .u8 0, .int .u8 0, .int .u8 0, .int .u8 0, .int .u8 0, .int .u8 0, .int .u8 0, .int .u8 0, .int .u8 0, .int .u8 0, .int .u8 0, .int .u8 0, .int .u8 0, .int .u8 0, .int .u8 5, .int .u8 0, .int .u8 0, .int .u8 0, .int .u8 2, .int .u8 0, .int .u8 0, .int .u8 0, .int .u8 0, .int .u8 255, .int .u8 255, .int .u8 255, .int .u8 249, .int .u8 63, .int .u8 128, .int .u8 0, .int .u8 0, .int .u8 192, .int .u8 0, .int .u8 0, .int .u8 0, .int .u8 61, .int .u8 128, .int .u8 0, .int .u8 0, .int .u8 0, .int .u8 226, .int .u8 143, .int .u8 7] 5 1 true]
def aw_e22 : Env := { sz := 329, l := aw_t22.zip aw_v22 }
def aw_h22 : H := hOf 5989 (aw_n22.zip aw_o22)
theorem aw_s22 : Ab.seen aw_t22 aw_n22 (evPieces Tryz.prog laidBase aw_rec aw_c 21 1 aw_e21 aw_h21) = some (aw_v22, aw_o22.map some, 329, 5989) := by kernel_rfl
def aw_t23 : List Nat := [34, 37, 36, 35, 0]
def aw_n23 : List Nat := [6000, 6404, 6043, 6040]
def aw_v23 : List Value := [.int .i64 27, .int .i64 0, .slice (some ⟨6000, 0, some 0⟩) 1 1, .pointer (some ⟨6404, 0, some 0⟩), .bool false]
def aw_o23 : List AObj := [.cells [.int .i64 0] 3 1 true, .cells [.string ⟨⟨[115, 49]⟩⟩, .slice (some ⟨6043, 0, some 0⟩) 3 3] 54 2 false, .cells [.int .i64 0, .int .i64 0, .int .i64 0, .int .i64 0, .int .i64 0, .int .i64 0, .int .i64 0, .int .i64 0, .bool true, .slice none 0 0, .int .i64 0, .int .i64 0, .int .i64 60, .int .i64 80, .int .i64 5, .int .i64 1, .int .i64 0, .int .i64 0, .bool true, .slice none 0 0, .int .i64 0, .int .i64 0, .int .i64 0, .int .i64 0, .int .i64 5, .int .i64 2, .int .i64 0, .int .i64 (-7), .bool false, .slice (some ⟨6040, 0, some 0⟩) 3 3] 58 10 true, .cells [.float .f32 1065353216, .float .f32 3221225472, .float .f32 1031798784] 23 1 true]
def aw_e23 : Env := { sz := 329, l := aw_t23.zip aw_v23 }
def aw_h23 : H := hOf 6405 (aw_n23.zip aw_o23)
theorem aw_s23 : Ab.seen aw_t23 aw_n23 (evPieces Tryz.prog laidBase aw_rec aw_c 22 1 aw_e22 aw_h22) = some (aw_v23, aw_o23.map some, 329, 6405) := by kernel_rfl
def aw_t24 : List Nat := [0]
def aw_n24 : List Nat := []
def aw_v24 : List Value := [.bool true]
def aw_o24 : List AObj := []
def aw_e24 : Env := { sz := 329, l := aw_t24.zip aw_v24 }
def aw_h24 : H := hOf 6483 (aw_n24.zip aw_o24)
theorem aw_s24 : Ab.seen aw_t24 aw_n24 (evPieces Tryz.prog laidBase aw_rec aw_c 23 1 aw_e23 aw_h23) = some (aw_v24, aw_o24.map some, 329, 6483) := by kernel_rfl
theorem aw_last : lastValues Tryz.prog laidBase aw_rec Tryz.f16 aw_c 24 aw_e24 aw_h24 = some [.bool true] := by kernel_rfl
theorem awake_calls {W : World} (hB : BaseOk W.heap.size laidBase W) : Calls Tryz.prog 16 #[] W fun e W' => e = .returned (.bool true) ∧ Below W.heap.size W W' := by
 have hcs : ∀ c, CodeSound Tryz.prog W.heap.size laidBase (evC Tryz.prog laidBase aw_rec) one' c := code_sound mixed ext_sound no_count 300
 obtain ⟨ef, hf, hl, c24⟩ := ends_last (B := W.heap.size) (fn := Tryz.f16) hcs aw_last
 have c23 : Comes' Tryz.prog W.heap.size laidBase aw_c .ret ef hf 23 aw_e23 aw_h23 := aY_ hcs aw_s24 c24
 have c22 : Comes' Tryz.prog W.heap.size laidBase aw_c .ret ef hf 22 aw_e22 aw_h22 := aY_ hcs aw_s23 c23
 have c21 : Comes' Tryz.prog W.heap.size laidBase aw_c .ret ef hf 21 aw_e21 aw_h21 := aY_ hcs aw_s22 c22
 have c20 : Comes' Tryz.prog W.heap.size laidBase aw_c .ret ef hf 20 aw_e20 aw_h20 := aY_ hcs aw_s21 c21
 have c19 : Comes' Tryz.prog W.heap.size laidBase aw_c .ret ef hf 19 aw_e19 aw_h19 := aY_ hcs aw_s20 c20
 have c18 : Comes' Tryz.prog W.heap.size laidBase aw_c .ret ef hf 18 aw_e18 aw_h18 := aY_ hcs aw_s19 c19
 have c17 : Comes' Tryz.prog W.heap.size laidBase aw_c .ret ef hf 17 aw_e17 aw_h17 := aY_ hcs aw_s18 c18
 have c16 : Comes' Tryz.prog W.heap.size laidBase aw_c .ret ef hf 16 aw_e16 aw_h16 := aY_ hcs aw_s17 c17
 have c15 : Comes' Tryz.prog W.heap.size laidBase aw_c .ret ef hf 15 aw_e15 aw_h15 := aY_ hcs aw_s16 c16
 have c14 : Comes' Tryz.prog W.heap.size laidBase aw_c .ret ef hf 14 aw_e14 aw_h14 := aY_ hcs aw_s15 c15
 have c13 : Comes' Tryz.prog W.heap.size laidBase aw_c .ret ef hf 13 aw_e13 aw_h13 := aY_ hcs aw_s14 c14
 have c12 : Comes' Tryz.prog W.heap.size laidBase aw_c .ret ef hf 12 aw_e12 aw_h12 := aY_ hcs aw_s13 c13
 have c11 : Comes' Tryz.prog W.heap.size laidBase aw_c .ret ef hf 11 aw_e11 aw_h11 := aY_ hcs aw_s12 c12
 have c10 : Comes' Tryz.prog W.heap.size laidBase aw_c .ret ef hf 10 aw_e10 aw_h10 := aY_ hcs aw_s11 c11
 have c9 : Comes' Tryz.prog W.heap.size laidBase aw_c .ret ef hf 9 aw_e9 aw_h9 := aY_ hcs aw_s10 c10
 have c8 : Comes' Tryz.prog W.heap.size laidBase aw_c .ret ef hf 8 aw_e8 aw_h8 := aY_ hcs aw_s9 c9
 have c7 : Comes' Tryz.prog W.heap.size laidBase aw_c .ret ef hf 7 aw_e7 aw_h7 := aY_ hcs aw_s8 c8
 have c6 : Comes' Tryz.prog W.heap.size laidBase aw_c .ret ef hf 6 aw_e6 aw_h6 := aY_ hcs aw_s7 c7
 have c5 : Comes' Tryz.prog W.heap.size laidBase aw_c .ret ef hf 5 aw_e5 aw_h5 := aY_ hcs aw_s6 c6
 have c4 : Comes' Tryz.prog W.heap.size laidBase aw_c .ret ef hf 4 aw_e4 aw_h4 := aY_ hcs aw_s5 c5
 have c3 : Comes' Tryz.prog W.heap.size laidBase aw_c .ret ef hf 3 aw_e3 aw_h3 := aY_ hcs aw_s4 c4
 have c2 : Comes' Tryz.prog W.heap.size laidBase aw_c .ret ef hf 2 aw_e2 aw_h2 := aY_ hcs aw_s3 c3
 have c1 : Comes' Tryz.prog W.heap.size laidBase aw_c .ret ef hf 1 aw_e1 aw_h1 := aY_ hcs aw_s2 c2
 have c0 : Comes' Tryz.prog W.heap.size laidBase aw_c .ret ef hf 0 aw_e0 aw_h0 := aY_ hcs aw_s1 c1
 exact calls_of_ends (fn_comes Tryz.func16 (show Tryz.f16.body = some aw_c by rfl) (.start hB) .nil c0 (.inr rfl) hl) rfl
end Go.Proofs.YthnnndkfpamacaaGreatDoor
