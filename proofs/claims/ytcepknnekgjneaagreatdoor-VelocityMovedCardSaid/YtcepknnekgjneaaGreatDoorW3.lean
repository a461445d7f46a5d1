/- The function awake of the law answers true: its stretches. -/
import Derived.Test.YtcepknnekgjneaaGreatDoorA6
import Derived.Test.YtcepknnekgjneaaGreatDoorS1
import Derived.Below
import Derived.RowKit
import Derived.KernelRfl
set_option linter.all false
namespace Go.Proofs.YtcepknnekgjneaaGreatDoor
open Go Go.Ab Go.RowKit

set_option maxRecDepth 1000000
-- pieces 26
noncomputable def aw_c : Code := Tryz.f10.body.getD .skip
noncomputable def aw_rec : Ev := ev Tryz.prog laidBase ext0 300
def aw_e0 : Env := Env.start 362 []
def aw_h0 : H := H.empty
def aw_t1 : List Nat := [0]
def aw_n1 : List Nat := []
def aw_v1 : List Value := [.bool false]
def aw_o1 : List AObj := []
def aw_e1 : Env := { sz := 362, l := aw_t1.zip aw_v1 }
def aw_h1 : H := hOf 0 (aw_n1.zip aw_o1)
theorem aw_s1 : Ab.seen aw_t1 aw_n1 (evPieces Tryz.prog laidBase aw_rec aw_c 0 1 aw_e0 aw_h0) = some (aw_v1, aw_o1.map some, 362, 0) := by kernel_rfl
def aw_t2 : List Nat := [2, 1, 0]
def aw_n2 : List Nat := []
def aw_v2 : List Value := [.int .i64 0, .int .i64 5, .bool false]
def aw_o2 : List AObj := []
def aw_e2 : Env := { sz := 362, l := aw_t2.zip aw_v2 }
def aw_h2 : H := hOf 1 (aw_n2.zip aw_o2)
theorem aw_s2 : Ab.seen aw_t2 aw_n2 (evPieces Tryz.prog laidBase aw_rec aw_c 1 1 aw_e1 aw_h1) = some (aw_v2, aw_o2.map some, 362, 1) := by kernel_rfl
def aw_t3 : List Nat := [2, 4, 1, 3, 0]
def aw_n3 : List Nat := []
def aw_v3 : List Value := [.int .i64 0, .int .i64 0, .int .i64 5, .int .i64 4, .bool false]
def aw_o3 : List AObj := []
def aw_e3 : Env := { sz := 362, l := aw_t3.zip aw_v3 }
def aw_h3 : H := hOf 2 (aw_n3.zip aw_o3)
theorem aw_s3 : Ab.seen aw_t3 aw_n3 (evPieces Tryz.prog laidBase aw_rec aw_c 2 1 aw_e2 aw_h2) = some (aw_v3, aw_o3.map some, 362, 2) := by kernel_rfl
def aw_t4 : List Nat := [2, 4, 6, 1, 3, 5, 0]
def aw_n4 : List Nat := []
def aw_v4 : List Value := [.int .i64 0, .int .i64 0, .int .i64 0, .int .i64 5, .int .i64 4, .int .i64 1, .bool false]
def aw_o4 : List AObj := []
def aw_e4 : Env := { sz := 362, l := aw_t4.zip aw_v4 }
def aw_h4 : H := hOf 3 (aw_n4.zip aw_o4)
theorem aw_s4 : Ab.seen aw_t4 aw_n4 (evPieces Tryz.prog laidBase aw_rec aw_c 3 1 aw_e3 aw_h3) = some (aw_v4, aw_o4.map some, 362, 3) := by kernel_rfl
def aw_t5 : List Nat := [2, 4, 6, 8, 1, 3, 5, 7, 0]
def aw_n5 : List Nat := [1039, 819, 827, 837, 847]
def aw_v5 : List Value := [.int .i64 0, .int .i64 0, .int .i64 0, .int .i64 0, .int .i64 5, .int .i64 4, .int .i64 1, .pointer (some ⟨1039, 0, some 0⟩), .bool false]
def aw_o5 : List AObj := [.cells [.string ⟨⟨[103]⟩⟩, .slice (some ⟨819, 0, some 0⟩) 3 3] 103 2 false, .cells [.int .i64 0, .int .i64 0, .int .i64 0, .int .i64 0, .int .i64 0, .int .i64 0, .int .i64 0, .int .i64 0, .bool false, .slice (some ⟨827, 0, some 0⟩) 4 4, .int .i64 0, .int .i64 0, .int .i64 2, .int .i64 0, .int .i64 0, .int .i64 0, .int .i64 0, .int .i64 0, .bool false, .slice (some ⟨837, 0, some 0⟩) 4 4, .int .i64 0, .int .i64 0, .int .i64 0, .int .i64 0, .int .i64 0, .int .i64 0, .int .i64 0, .int .i64 0, .bool true, .slice (some ⟨847, 0, some 0⟩) 0 0] 116 10 true, .cells [.float .f32 0, .float .f32 0, .float .f32 1082130432, .float .f32 0] 117 1 false, .cells [.float .f32 1090519040, .float .f32 1090519040, .float .f32 1090519040, .float .f32 0] 117 1 false, .cells [] 117 1 false]
def aw_e5 : Env := { sz := 362, l := aw_t5.zip aw_v5 }
def aw_h5 : H := hOf 1040 (aw_n5.zip aw_o5)
theorem aw_s5 : Ab.seen aw_t5 aw_n5 (evPieces Tryz.prog laidBase aw_rec aw_c 4 1 aw_e4 aw_h4) = some (aw_v5, aw_o5.map some, 362, 1040) := by kernel_rfl
def aw_t6 : List Nat := [2, 4, 6, 8, 10, 1, 3, 5, 7, 9, 0]
def aw_n6 : List Nat := [1039, 819, 827, 837, 847, 2056, 1856, 1864, 1874, 1884]
def aw_v6 : List Value := [.int .i64 0, .int .i64 0, .int .i64 0, .int .i64 0, .int .i64 0, .int .i64 5, .int .i64 4, .int .i64 1, .pointer (some ⟨1039, 0, some 0⟩), .pointer (some ⟨2056, 0, some 0⟩), .bool false]
def aw_o6 : List AObj := [.cells [.string ⟨⟨[103]⟩⟩, .slice (some ⟨819, 0, some 0⟩) 3 3] 103 2 false, .cells [.int .i64 0, .int .i64 0, .int .i64 0, .int .i64 0, .int .i64 0, .int .i64 0, .int .i64 0, .int .i64 0, .bool false, .slice (some ⟨827, 0, some 0⟩) 4 4, .int .i64 0, .int .i64 0, .int .i64 2, .int .i64 0, .int .i64 0, .int .i64 0, .int .i64 0, .int .i64 0, .bool false, .slice (some ⟨837, 0, some 0⟩) 4 4, .int .i64 0, .int .i64 0, .int .i64 0, .int .i64 0, .int .i64 0, .int .i64 0, .int .i64 0, .int .i64 0, .bool true, .slice (some ⟨847, 0, some 0⟩) 0 0] 116 10 true, .cells [.float .f32 0, .float .f32 0, .float .f32 1082130432, .float .f32 0] 117 1 false, .cells [.float .f32 1090519040, .float .f32 1090519040, .float .f32 1090519040, .float .f32 0] 117 1 false, .cells [] 117 1 false, .cells [.string ⟨⟨[103]⟩⟩, .slice (some ⟨1856, 0, some 0⟩) 3 3] 103 2 false, .cells [.int .i64 0, .int .i64 0, .int .i64 0, .int .i64 0, .int .i64 0, .int .i64 0, .int .i64 0, .int .i64 0, .bool false, .slice (some ⟨1864, 0, some 0⟩) 4 4, .int .i64 0, .int .i64 0, .int .i64 2, .int .i64 0, .int .i64 0, .int .i64 0, .int .i64 0, .int .i64 0, .bool false, .slice (some ⟨1874, 0, some 0⟩) 4 4, .int .i64 0, .int .i64 0, .int .i64 0, .int .i64 0, .int .i64 0, .int .i64 0, .int .i64 0, .int .i64 0, .bool true, .slice (some ⟨1884, 0, some 0⟩) 0 0] 116 10 true, .cells [.float .f32 0, .float .f32 0, .float .f32 1082130432, .float .f32 0] 117 1 false, .cells [.float .f32 0, .float .f32 0, .float .f32 1090519040, .float .f32 0] 117 1 false, .cells [] 117 1 false]
def aw_e6 : Env := { sz := 362, l := aw_t6.zip aw_v6 }
def aw_h6 : H := hOf 2057 (aw_n6.zip aw_o6)
theorem aw_s6 : Ab.seen aw_t6 aw_n6 (evPieces Tryz.prog laidBase aw_rec aw_c 5 1 aw_e5 aw_h5) = some (aw_v6, aw_o6.map some, 362, 2057) := by kernel_rfl
def aw_t7 : List Nat := [2, 4, 6, 8, 10, 12, 1, 3, 5, 7, 9, 11, 0]
def aw_n7 : List Nat := [1039, 819, 827, 837, 847, 2056, 1856, 1864, 1874, 1884, 2889]
def aw_v7 : List Value := [.int .i64 0, .int .i64 0, .int .i64 0, .int .i64 0, .int .i64 0, .int .i64 0, .int .i64 5, .int .i64 4, .int .i64 1, .pointer (some ⟨1039, 0, some 0⟩), .pointer (some ⟨2056, 0, some 0⟩), .slice (some ⟨2889, 0, some 0⟩) 1 1, .bool false]
def aw_o7 : List AObj := [.cells [.string ⟨⟨[103]⟩⟩, .slice (some ⟨819, 0, some 0⟩) 3 3] 103 2 false, .cells [.int .i64 0, .int .i64 0, .int .i64 0, .int .i64 0, .int .i64 0, .int .i64 0, .int .i64 0, .int .i64 0, .bool false, .slice (some ⟨827, 0, some 0⟩) 4 4, .int .i64 0, .int .i64 0, .int .i64 2, .int .i64 0, .int .i64 0, .int .i64 0, .int .i64 0, .int .i64 0, .bool false, .slice (some ⟨837, 0, some 0⟩) 4 4, .int .i64 0, .int .i64 0, .int .i64 0, .int .i64 0, .int .i64 0, .int .i64 0, .int .i64 0, .int .i64 0, .bool true, .slice (some ⟨847, 0, some 0⟩) 0 0] 116 10 true, .cells [.float .f32 0, .float .f32 0, .float .f32 1082130432, .float .f32 0] 117 1 false, .cells [.float .f32 1090519040, .float .f32 1090519040, .float .f32 1090519040, .float .f32 0] 117 1 false, .cells [] 117 1 false, .cells [.string ⟨⟨[103]⟩⟩, .slice (some ⟨1856, 0, some 0⟩) 3 3] 103 2 false, .cells [.int .i64 0, .int .i64 0, .int .i64 0, .int .i64 0, .int .i64 0, .int .i64 0, .int .i64 0, .int .i64 0, .bool false, .slice (some ⟨1864, 0, some 0⟩) 4 4, .int .i64 0, .int .i64 0, .int .i64 2, .int .i64 0, .int .i64 0, .int .i64 0, .int .i64 0, .int .i64 0, .bool false, .slice (some ⟨1874, 0, some 0⟩) 4 4, .int .i64 0, .int .i64 0, .int .i64 0, .int .i64 0, .int .i64 0, .int .i64 0, .int .i64 0, .int .i64 0, .bool true, .slice (some ⟨1884, 0, some 0⟩) 0 0] 116 10 true, .cells [.float .f32 0, .float .f32 0, .float .f32 1082130432, .float .f32 0] 117 1 false, .cells [.float .f32 0, .float .f32 0, .float .f32 1090519040, .float .f32 0] 117 1 false, .cells [] 117 1 false, .cells [.int .i64 0] 3 1 true]
def aw_e7 : Env := { sz := 362, l := aw_t7.zip aw_v7 }
def aw_h7 : H := hOf 2901 (aw_n7.zip aw_o7)
theorem aw_s7 : Ab.seen aw_t7 aw_n7 (evPieces Tryz.prog laidBase aw_rec aw_c 6 1 aw_e6 aw_h6) = some (aw_v7, aw_o7.map some, 362, 2901) := by kernel_rfl
def aw_t8 : List Nat := [2, 4, 6, 8, 10, 12, 14, 1, 3, 5, 7, 9, 11, 13, 0]
def aw_n8 : List Nat := [1039, 819, 827, 837, 847, 2056, 1856, 1864, 1874, 1884, 2889, 3787]
def aw_v8 : List Value := [.int .i64 0, .int .i64 0, .int .i64 0, .int .i64 0, .int .i64 0, .int .i64 0, .int .i64 0, .int .i64 5, .int .i64 4, .int .i64 1, .pointer (some ⟨1039, 0, some 0⟩), .pointer (some ⟨2056, 0, some 0⟩), .slice (some ⟨2889, 0, some 0⟩) 1 1, .pointer (some ⟨3787, 0, some 0⟩), .bool false]
def aw_o8 : List AObj := [.cells [.string ⟨⟨[103]⟩⟩, .slice (some ⟨819, 0, some 0⟩) 3 3] 103 2 false, .cells [.int .i64 0, .int .i64 0, .int .i64 0, .int .i64 0, .int .i64 0, .int .i64 0, .int .i64 0, .int .i64 0, .bool false, .slice (some ⟨827, 0, some 0⟩) 4 4, .int .i64 0, .int .i64 0, .int .i64 2, .int .i64 0, .int .i64 0, .int .i64 0, .int .i64 0, .int .i64 0, .bool false, .slice (some ⟨837, 0, some 0⟩) 4 4, .int .i64 0, .int .i64 0, .int .i64 0, .int .i64 0, .int .i64 0, .int .i64 0, .int .i64 0, .int .i64 0, .bool true, .slice (some ⟨847, 0, some 0⟩) 0 0] 116 10 true, .cells [.float .f32 0, .float .f32 0, .float .f32 1082130432, .float .f32 0] 117 1 false, .cells [.float .f32 1090519040, .float .f32 1090519040, .float .f32 1090519040, .float .f32 0] 117 1 false, .cells [] 117 1 false, .cells [.string ⟨⟨[103]⟩⟩, .slice (some ⟨1856, 0, some 0⟩) 3 3] 103 2 false, .cells [.int .i64 0, .int .i64 0, .int .i64 0, .int .i64 0, .int .i64 0, .int .i64 0, .int .i64 0, .int .i64 0, .bool false, .slice (some ⟨1864, 0, some 0⟩) 4 4, .int .i64 0, .int .i64 0, .int .i64 2, .int .i64 0, .int .i64 0, .int .i64 0, .int .i64 0, .int .i64 0, .bool false, .slice (some ⟨1874, 0, some 0⟩) 4 4, .int .i64 0, .int .i64 0, .int .i64 0, .int .i64 0, .int .i64 0, .int .i64 0, .int .i64 0, .int .i64 0, .bool true, .slice (some ⟨1884, 0, some 0⟩) 0 0] 116 10 true, .cells [.float .f32 0, .float .f32 0, .float .f32 1082130432, .float .f32 0] 117 1 false, .cells [.float .f32 0, .float .f32 0, .float .f32 1090519040, .float .f32 0] 117 1 false, .cells [] 117 1 false, .cells [.int .i64 0] 3 1 true, .cells [.int .i64 9, .int .i64 10] 91 2 false]
def aw_e8 : Env := { sz := 362, l := aw_t8.zip aw_v8 }
def aw_h8 : H := hOf 3788 (aw_n8.zip aw_o8)
theorem aw_s8 : Ab.seen aw_t8 aw_n8 (evPieces Tryz.prog laidBase aw_rec aw_c 7 1 aw_e7 aw_h7) = some (aw_v8, aw_o8.map some, 362, 3788) := by kernel_rfl
def aw_t9 : List Nat := [2, 4, 6, 8, 10, 12, 14, 16, 1, 3, 5, 7, 9, 11, 13, 15, 0]
def aw_n9 : List Nat := [1039, 819, 827, 837, 847, 2056, 1856, 1864, 1874, 1884, 2889, 3787, 4752]
def aw_v9 : List Value := [.int .i64 0, .int .i64 0, .int .i64 0, .int .i64 0, .int .i64 0, .int .i64 0, .int .i64 0, .int .i64 0, .int .i64 5, .int .i64 4, .int .i64 1, .pointer (some ⟨1039, 0, some 0⟩), .pointer (some ⟨2056, 0, some 0⟩), .slice (some ⟨2889, 0, some 0⟩) 1 1, .pointer (some ⟨3787, 0, some 0⟩), .pointer (some ⟨4752, 0, some 0⟩), .bool false]
def aw_o9 : List AObj := [.cells [.string ⟨⟨[103]⟩⟩, .slice (some ⟨819, 0, some 0⟩) 3 3] 103 2 false, .cells [.int .i64 0, .int .i64 0, .int .i64 0, .int .i64 0, .int .i64 0, .int .i64 0, .int .i64 0, .int .i64 0, .bool false, .slice (some ⟨827, 0, some 0⟩) 4 4, .int .i64 0, .int .i64 0, .int .i64 2, .int .i64 0, .int .i64 0, .int .i64 0, .int .i64 0, .int .i64 0, .bool false, .slice (some ⟨837, 0, some 0⟩) 4 4, .int .i64 0, .int .i64 0, .int .i64 0, .int .i64 0, .int .i64 0, .int .i64 0, .int .i64 0, .int .i64 0, .bool true, .slice (some ⟨847, 0, some 0⟩) 0 0] 116 10 true, .cells [.float .f32 0, .float .f32 0, .float .f32 1082130432, .float .f32 0] 117 1 false, .cells [.float .f32 1090519040, .float .f32 1090519040, .float .f32 1090519040, .float .f32 0] 117 1 false, .cells [] 117 1 false, .cells [.string ⟨⟨[103]⟩⟩, .slice (some ⟨1856, 0, some 0⟩) 3 3] 103 2 false, .cells [.int .i64 0, .int .i64 0, .int .i64 0, .int .i64 0, .int .i64 0, .int .i64 0, .int .i64 0, .int .i64 0, .bool false, .slice (some ⟨1864, 0, some 0⟩) 4 4, .int .i64 0, .int .i64 0, .int .i64 2, .int .i64 0, .int .i64 0, .int .i64 0, .int .i64 0, .int .i64 0, .bool false, .slice (some ⟨1874, 0, some 0⟩) 4 4, .int .i64 0, .int .i64 0, .int .i64 0, .int .i64 0, .int .i64 0, .int .i64 0, .int .i64 0, .int .i64 0, .bool true, .slice (some ⟨1884, 0, some 0⟩) 0 0] 116 10 true, .cells [.float .f32 0, .float .f32 0, .float .f32 1082130432, .float .f32 0] 117 1 false, .cells [.float .f32 0, .float .f32 0, .float .f32 1090519040, .float .f32 0] 117 1 false, .cells [] 117 1 false, .cells [.int .i64 0] 3 1 true, .cells [.int .i64 9, .int .i64 10] 91 2 false, .cells [.int .i64 13, .int .i64 18] 91 2 false]
def aw_e9 : Env := { sz := 362, l := aw_t9.zip aw_v9 }
def aw_h9 : H := hOf 4753 (aw_n9.zip aw_o9)
theorem aw_s9 : Ab.seen aw_t9 aw_n9 (evPieces Tryz.prog laidBase aw_rec aw_c 8 1 aw_e8 aw_h8) = some (aw_v9, aw_o9.map some, 362, 4753) := by kernel_rfl
def aw_t10 : List Nat := [2, 4, 6, 8, 10, 12, 14, 16, 18, 1, 3, 5, 7, 9, 11, 13, 15, 17, 0]
def aw_n10 : List Nat := [1039, 819, 827, 837, 847, 2056, 1856, 1864, 1874, 1884, 2889, 3787, 4752, 5587, 5597, 5706]
def aw_v10 : List Value := [.int .i64 0, .int .i64 0, .int .i64 0, .int .i64 0, .int .i64 0, .int .i64 0, .int .i64 0, .int .i64 0, .int .i64 0, .int .i64 5, .int .i64 4, .int .i64 1, .pointer (some ⟨1039, 0, some 0⟩), .pointer (some ⟨2056, 0, some 0⟩), .slice (some ⟨2889, 0, some 0⟩) 1 1, .pointer (some ⟨3787, 0, some 0⟩), .pointer (some ⟨4752, 0, some 0⟩), .slice (some ⟨5587, 0, some 0⟩) 2 2, .bool false]
def aw_o10 : List AObj := [.cells [.string ⟨⟨[103]⟩⟩, .slice (some ⟨819, 0, some 0⟩) 3 3] 103 2 false, .cells [.int .i64 0, .int .i64 0, .int .i64 0, .int .i64 0, .int .i64 0, .int .i64 0, .int .i64 0, .int .i64 0, .bool false, .slice (some ⟨827, 0, some 0⟩) 4 4, .int .i64 0, .int .i64 0, .int .i64 2, .int .i64 0, .int .i64 0, .int .i64 0, .int .i64 0, .int .i64 0, .bool false, .slice (some ⟨837, 0, some 0⟩) 4 4, .int .i64 0, .int .i64 0, .int .i64 0, .int .i64 0, .int .i64 0, .int .i64 0, .int .i64 0, .int .i64 0, .bool true, .slice (some ⟨847, 0, some 0⟩) 0 0] 116 10 true, .cells [.float .f32 0, .float .f32 0, .float .f32 1082130432, .float .f32 0] 117 1 false, .cells [.float .f32 1090519040, .float .f32 1090519040, .float .f32 1090519040, .float .f32 0] 117 1 false, .cells [] 117 1 false, .cells [.string ⟨⟨[103]⟩⟩, .slice (some ⟨1856, 0, some 0⟩) 3 3] 103 2 false, .cells [.int .i64 0, .int .i64 0, .int .i64 0, .int .i64 0, .int .i64 0, .int .i64 0, .int .i64 0, .int .i64 0, .bool false, .slice (some ⟨1864, 0, some 0⟩) 4 4, .int .i64 0, .int .i64 0, .int .i64 2, .int .i64 0, .int .i64 0, .int .i64 0, .int .i64 0, .int .i64 0, .bool false, .slice (some ⟨1874, 0, some 0⟩) 4 4, .int .i64 0, .int .i64 0, .int .i64 0, .int .i64 0, .int .i64 0, .int .i64 0, .int .i64 0, .int .i64 0, .bool true, .slice (some ⟨1884, 0, some 0⟩) 0 0] 116 10 true, .cells [.float .f32 0, .float .f32 0, .float .f32 1082130432, .float .f32 0] 117 1 false, .cells [.float .f32 0, .float .f32 0, .float .f32 1090519040, .float .f32 0] 117 1 false, .cells [] 117 1 false, .cells [.int .i64 0] 3 1 true, .cells [.int .i64 9, .int .i64 10] 91 2 false, .cells [.int .i64 13, .int .i64 18] 91 2 false, .cells [.slice (some ⟨5597, 0, some 0⟩) 2 2, .slice (some ⟨5706, 0, some 0⟩) 2 2] 24 1 false, .cells [.int .i64 512, .int .i64 0] 3 1 false, .cells [.int .i64 921, .int .i64 921] 3 1 false]
def aw_e10 : Env := { sz := 362, l := aw_t10.zip aw_v10 }
def aw_h10 : H := hOf 5849 (aw_n10.zip aw_o10)
theorem aw_s10 : Ab.seen aw_t10 aw_n10 (evPieces Tryz.prog laidBase aw_rec aw_c 9 1 aw_e9 aw_h9) = some (aw_v10, aw_o10.map some, 362, 5849) := by kernel_rfl
def aw_t11 : List Nat := [0]
def aw_n11 : List Nat := []
def aw_v11 : List Value := [.bool false]
def aw_o11 : List AObj := []
def aw_e11 : Env := { sz := 362, l := aw_t11.zip aw_v11 }
def aw_h11 : H := hOf 5992 (aw_n11.zip aw_o11)
theorem aw_s11 : Ab.seen aw_t11 aw_n11 (evPieces Tryz.prog laidBase aw_rec aw_c 10 1 aw_e10 aw_h10) = some (aw_v11, aw_o11.map some, 362, 5992) := by kernel_rfl
def aw_t12 : List Nat := [19, 20, 0]
def aw_n12 : List Nat := [5994, 5992, 5993, 5995]
def aw_v12 : List Value := [.slice (some ⟨5994, 0, some 0⟩) 2 2, .pointer (some ⟨5995, 0, some 0⟩), .bool false]
def aw_o12 : List AObj := [.cells [.slice (some ⟨5992, 0, some 0⟩) 2 2, .slice (some ⟨5993, 0, some 0⟩) 2 2] 24 1 false, .cells [.int .i64 512, .int .i64 0] 3 1 false, .cells [.int .i64 921, .int .i64 921] 3 1 false, .cells [.int .i64 1, .int .i64 0] 44 2 false]
def aw_e12 : Env := { sz := 362, l := aw_t12.zip aw_v12 }
def aw_h12 : H := hOf 5996 (aw_n12.zip aw_o12)
theorem aw_s12 : Ab.seen aw_t12 aw_n12 (evPieces Tryz.prog laidBase aw_rec aw_c 11 1 aw_e11 aw_h11) = some (aw_v12, aw_o12.map some, 362, 5996) := by kernel_rfl
def aw_t13 : List Nat := [19, 20, 23, 21, 22, 0]
def aw_n13 : List Nat := [5994, 5992, 5993, 5995, 6132]
def aw_v13 : List Value := [.slice (some ⟨5994, 0, some 0⟩) 2 2, .pointer (some ⟨5995, 0, some 0⟩), .int .i64 0, .slice (some ⟨6132, 0, some 0⟩) 2 2, .int .i64 1433, .bool false]
def aw_o13 : List AObj := [.cells [.slice (some ⟨5992, 0, some 0⟩) 2 2, .slice (some ⟨5993, 0, some 0⟩) 2 2] 24 1 false, .cells [.int .i64 512, .int .i64 0] 3 1 false, .cells [.int .i64 921, .int .i64 921] 3 1 false, .cells [.int .i64 1, .int .i64 0] 44 2 false, .cells [.int .i64 0, .int .i64 0] 3 1 true]
def aw_e13 : Env := { sz := 362, l := aw_t13.zip aw_v13 }
def aw_h13 : H := hOf 6216 (aw_n13.zip aw_o13)
theorem aw_s13 : Ab.seen aw_t13 aw_n13 (evPieces Tryz.prog laidBase aw_rec aw_c 12 1 aw_e12 aw_h12) = some (aw_v13, aw_o13.map some, 362, 6216) := by kernel_rfl
def aw_t14 : List Nat := [19, 20, 23, 25, 21, 22, 24, 0]
def aw_n14 : List Nat := [5994, 5992, 5993, 5995, 6132, 6522, 6385, 6414, 6455]
def aw_v14 : List Value := [.slice (some ⟨5994, 0, some 0⟩) 2 2, .pointer (some ⟨5995, 0, some 0⟩), .int .i64 0, .int .i64 0, .slice (some ⟨6132, 0, some 0⟩) 2 2, .int .i64 1433, .slice (some ⟨6522, 0, some 0⟩) 3 3, .bool false]
def aw_o14 : List AObj := [.cells [.slice (some ⟨5992, 0, some 0⟩) 2 2, .slice (some ⟨5993, 0, some 0⟩) 2 2] 24 1 false, .cells [.int .i64 512, .int .i64 0] 3 1 false, .cells [.int .i64 921, .int .i64 921] 3 1 false, .cells [.int .i64 1, .int .i64 0] 44 2 false, .cells [.int .i64 0, .int .i64 0] 3 1 true, .cells [.slice (some ⟨6385, 0, some 0⟩) 2 2, .slice (some ⟨6414, 0, some 0⟩) 2 2, .slice (some ⟨6455, 0, some 0⟩) 2 2] 24 1 false, .cells [.int .i64 0, .int .i64 0] 3 1 true, .cells [.int .i64 0, .int .i64 1] 3 1 true, .cells [.int .i64 1, .int .i64 1] 3 1 true]
def aw_e14 : Env := { sz := 362, l := aw_t14.zip aw_v14 }
def aw_h14 : H := hOf 6529 (aw_n14.zip aw_o14)
theorem aw_s14 : Ab.seen aw_t14 aw_n14 (evPieces Tryz.prog laidBase aw_rec aw_c 13 1 aw_e13 aw_h13) = some (aw_v14, aw_o14.map some, 362, 6529) := by kernel_rfl
def aw_t15 : List Nat := [19, 20, 23, 25, 27, 21, 22, 24, 26, 0]
def aw_n15 : List Nat := [5994, 5992, 5993, 5995, 6132, 6522, 6385, 6414, 6455, 6541, 6543, 6545]
def aw_v15 : List Value := [.slice (some ⟨5994, 0, some 0⟩) 2 2, .pointer (some ⟨5995, 0, some 0⟩), .int .i64 0, .int .i64 0, .int .i64 0, .slice (some ⟨6132, 0, some 0⟩) 2 2, .int .i64 1433, .slice (some ⟨6522, 0, some 0⟩) 3 3, .slice (some ⟨6541, 0, some 0⟩) 2 2, .bool false]
def aw_o15 : List AObj := [.cells [.slice (some ⟨5992, 0, some 0⟩) 2 2, .slice (some ⟨5993, 0, some 0⟩) 2 2] 24 1 false, .cells [.int .i64 512, .int .i64 0] 3 1 false, .cells [.int .i64 921, .int .i64 921] 3 1 false, .cells [.int .i64 1, .int .i64 0] 44 2 false, .cells [.int .i64 0, .int .i64 0] 3 1 true, .cells [.slice (some ⟨6385, 0, some 0⟩) 2 2, .slice (some ⟨6414, 0, some 0⟩) 2 2, .slice (some ⟨6455, 0, some 0⟩) 2 2] 24 1 false, .cells [.int .i64 0, .int .i64 0] 3 1 true, .cells [.int .i64 0, .int .i64 1] 3 1 true, .cells [.int .i64 1, .int .i64 1] 3 1 true, .cells [.slice (some ⟨6543, 0, some 0⟩) 2 2, .slice (some ⟨6545, 0, some 0⟩) 2 2] 24 1 false, .cells [.int .i64 1433, .int .i64 921] 3 1 true, .cells [.int .i64 921, .int .i64 921] 3 1 true]
def aw_e15 : Env := { sz := 362, l := aw_t15.zip aw_v15 }
def aw_h15 : H := hOf 6599 (aw_n15.zip aw_o15)
theorem aw_s15 : Ab.seen aw_t15 aw_n15 (evPieces Tryz.prog laidBase aw_rec aw_c 14 1 aw_e14 aw_h14) = some (aw_v15, aw_o15.map some, 362, 6599) := by kernel_rfl
def aw_t16 : List Nat := [23, 25, 27, 29, 21, 22, 24, 26, 28, 0]
def aw_n16 : List Nat := [6132, 6522, 6385, 6414, 6455, 6541, 6543, 6545]
def aw_v16 : List Value := [.int .i64 0, .int .i64 0, .int .i64 0, .int .i64 0, .slice (some ⟨6132, 0, some 0⟩) 2 2, .int .i64 1433, .slice (some ⟨6522, 0, some 0⟩) 3 3, .slice (some ⟨6541, 0, some 0⟩) 2 2, .int .i64 1433, .bool false]
def aw_o16 : List AObj := [.cells [.int .i64 0, .int .i64 0] 3 1 true, .cells [.slice (some ⟨6385, 0, some 0⟩) 2 2, .slice (some ⟨6414, 0, some 0⟩) 2 2, .slice (some ⟨6455, 0, some 0⟩) 2 2] 24 1 false, .cells [.int .i64 0, .int .i64 0] 3 1 true, .cells [.int .i64 0, .int .i64 1] 3 1 true, .cells [.int .i64 1, .int .i64 1] 3 1 true, .cells [.slice (some ⟨6543, 0, some 0⟩) 2 2, .slice (some ⟨6545, 0, some 0⟩) 2 2] 24 1 false, .cells [.int .i64 1433, .int .i64 921] 3 1 true, .cells [.int .i64 921, .int .i64 921] 3 1 true]
def aw_e16 : Env := { sz := 362, l := aw_t16.zip aw_v16 }
def aw_h16 : H := hOf 6683 (aw_n16.zip aw_o16)
theorem aw_s16 : Ab.seen aw_t16 aw_n16 (evPieces Tryz.prog laidBase aw_rec aw_c 15 1 aw_e15 aw_h15) = some (aw_v16, aw_o16.map some, 362, 6683) := by kernel_rfl
def aw_t17 : List Nat := [0]
def aw_n17 : List Nat := []
def aw_v17 : List Value := [.bool false]
def aw_o17 : List AObj := []
def aw_e17 : Env := { sz := 362, l := aw_t17.zip aw_v17 }
def aw_h17 : H := hOf 6849 (aw_n17.zip aw_o17)
theorem aw_s17 : Ab.seen aw_t17 aw_n17 (evPieces Tryz.prog laidBase aw_rec aw_c 16 1 aw_e16 aw_h16) = some (aw_v17, aw_o17.map some, 362, 6849) := by kernel_rfl
def aw_t18 : List Nat := [30, 0]
def aw_n18 : List Nat := [6849]
def aw_v18 : List Value := [.slice (some ⟨6849, 0, some 0⟩) 2 2, .bool false]
def aw_o18 : List AObj := [.cells [.int .i64 10, .int .i64 4, .int .i64 1, .int .i64 20, .int .i64 6, .int .i64 0] 118 3 false]
def aw_e18 : Env := { sz := 362, l := aw_t18.zip aw_v18 }
def aw_h18 : H := hOf 6850 (aw_n18.zip aw_o18)
theorem aw_s18 : Ab.seen aw_t18 aw_n18 (evPieces Tryz.prog laidBase aw_rec aw_c 17 1 aw_e17 aw_h17) = some (aw_v18, aw_o18.map some, 362, 6850) := by kernel_rfl
def aw_t19 : List Nat := [30, 32, 31, 0]
def aw_n19 : List Nat := [6849, 6992]
def aw_v19 : List Value := [.slice (some ⟨6849, 0, some 0⟩) 2 2, .int .i64 0, .slice (some ⟨6992, 1, some 0⟩) 2 2, .bool false]
def aw_o19 : List AObj := [.cells [.int .i64 10, .int .i64 4, .int .i64 1, .int .i64 20, .int .i64 6, .int .i64 0] 118 3 false, .cells [.int .i64 0, .int .i64 40, .int .i64 120] 3 1 false]
def aw_e19 : Env := { sz := 362, l := aw_t19.zip aw_v19 }
def aw_h19 : H := hOf 7185 (aw_n19.zip aw_o19)
theorem aw_s19 : Ab.seen aw_t19 aw_n19 (evPieces Tryz.prog laidBase aw_rec aw_c 18 1 aw_e18 aw_h18) = some (aw_v19, aw_o19.map some, 362, 7185) := by kernel_rfl
def aw_t20 : List Nat := [30, 32, 34, 31, 33, 0]
def aw_n20 : List Nat := [6849, 6992, 7327]
def aw_v20 : List Value := [.slice (some ⟨6849, 0, some 0⟩) 2 2, .int .i64 0, .int .i64 0, .slice (some ⟨6992, 1, some 0⟩) 2 2, .slice (some ⟨7327, 1, some 0⟩) 2 2, .bool false]
def aw_o20 : List AObj := [.cells [.int .i64 10, .int .i64 4, .int .i64 1, .int .i64 20, .int .i64 6, .int .i64 0] 118 3 false, .cells [.int .i64 0, .int .i64 40, .int .i64 120] 3 1 false, .cells [.int .i64 0, .int .i64 50, .int .i64 120] 3 1 false]
def aw_e20 : Env := { sz := 362, l := aw_t20.zip aw_v20 }
def aw_h20 : H := hOf 7520 (aw_n20.zip aw_o20)
theorem aw_s20 : Ab.seen aw_t20 aw_n20 (evPieces Tryz.prog laidBase aw_rec aw_c 19 1 aw_e19 aw_h19) = some (aw_v20, aw_o20.map some, 362, 7520) := by kernel_rfl
def aw_t21 : List Nat := [30, 32, 34, 36, 31, 33, 35, 0]
def aw_n21 : List Nat := [6849, 6992, 7327, 7639]
def aw_v21 : List Value := [.slice (some ⟨6849, 0, some 0⟩) 2 2, .int .i64 0, .int .i64 0, .int .i64 0, .slice (some ⟨6992, 1, some 0⟩) 2 2, .slice (some ⟨7327, 1, some 0⟩) 2 2, .slice (some ⟨7639, 0, some 0⟩) 2 2, .bool false]
def aw_o21 : List AObj := [.cells [.int .i64 10, .int .i64 4, .int .i64 1, .int .i64 20, .int .i64 6, .int .i64 0] 118 3 false, .cells [.int .i64 0, .int .i64 40, .int .i64 120] 3 1 false, .cells [.int .i64 0, .int .i64 50, .int .i64 120] 3 1 false, .cells [.int .i64 4, .int .i64 1, .int .i64 8, .int .i64 1] 91 2 false]
def aw_e21 : Env := { sz := 362, l := aw_t21.zip aw_v21 }
def aw_h21 : H := hOf 7746 (aw_n21.zip aw_o21)
theorem aw_s21 : Ab.seen aw_t21 aw_n21 (evPieces Tryz.prog laidBase aw_rec aw_c 20 1 aw_e20 aw_h20) = some (aw_v21, aw_o21.map some, 362, 7746) := by kernel_rfl
def aw_t22 : List Nat := [30, 32, 34, 36, 39, 31, 33, 35, 38, 37, 0]
def aw_n22 : List Nat := [6849, 6992, 7327, 7639, 7970]
def aw_v22 : List Value := [.slice (some ⟨6849, 0, some 0⟩) 2 2, .int .i64 0, .int .i64 0, .int .i64 0, .int .i64 0, .slice (some ⟨6992, 1, some 0⟩) 2 2, .slice (some ⟨7327, 1, some 0⟩) 2 2, .slice (some ⟨7639, 0, some 0⟩) 2 2, .bool true, .pointer (some ⟨7970, 0, some 0⟩), .bool false]
def aw_o22 : List AObj := [.cells [.int .i64 10, .int .i64 4, .int .i64 1, .int .i64 20, .int .i64 6, .int .i64 0] 118 3 false, .cells [.int .i64 0, .int .i64 40, .int .i64 120] 3 1 false, .cells [.int .i64 0, .int .i64 50, .int .i64 120] 3 1 false, .cells [.int .i64 4, .int .i64 1, .int .i64 8, .int .i64 1] 91 2 false, .cells [.int .i64 0, .int .i64 1] 71 2 false]
def aw_e22 : Env := { sz := 362, l := aw_t22.zip aw_v22 }
def aw_h22 : H := hOf 7971 (aw_n22.zip aw_o22)
theorem aw_s22 : Ab.seen aw_t22 aw_n22 (evPieces Tryz.prog laidBase aw_rec aw_c 21 1 aw_e21 aw_h21) = some (aw_v22, aw_o22.map some, 362, 7971) := by kernel_rfl
def aw_t23 : List Nat := [30, 32, 34, 36, 39, 41, 31, 33, 35, 38, 37, 40, 0]
def aw_n23 : List Nat := [6849, 6992, 7327, 7639, 7970, 7996]
def aw_v23 : List Value := [.slice (some ⟨6849, 0, some 0⟩) 2 2, .int .i64 0, .int .i64 0, .int .i64 0, .int .i64 0, .int .i64 0, .slice (some ⟨6992, 1, some 0⟩) 2 2, .slice (some ⟨7327, 1, some 0⟩) 2 2, .slice (some ⟨7639, 0, some 0⟩) 2 2, .bool true, .pointer (some ⟨7970, 0, some 0⟩), .slice (some ⟨7996, 0, some 0⟩) 1 1, .bool false]
def aw_o23 : List AObj := [.cells [.int .i64 10, .int .i64 4, .int .i64 1, .int .i64 20, .int .i64 6, .int .i64 0] 118 3 false, .cells [.int .i64 0, .int .i64 40, .int .i64 120] 3 1 false, .cells [.int .i64 0, .int .i64 50, .int .i64 120] 3 1 false, .cells [.int .i64 4, .int .i64 1, .int .i64 8, .int .i64 1] 91 2 false, .cells [.int .i64 0, .int .i64 1] 71 2 false, .cells [.int .i64 2, .int .i64 4, .int .i64 1] 118 3 true]
def aw_e23 : Env := { sz := 362, l := aw_t23.zip aw_v23 }
def aw_h23 : H := hOf 7997 (aw_n23.zip aw_o23)
theorem aw_s23 : Ab.seen aw_t23 aw_n23 (evPieces Tryz.prog laidBase aw_rec aw_c 22 1 aw_e22 aw_h22) = some (aw_v23, aw_o23.map some, 362, 7997) := by kernel_rfl
def aw_t24 : List Nat := [30, 32, 34, 36, 39, 41, 43, 31, 33, 35, 38, 37, 40, 42, 0]
def aw_n24 : List Nat := [6849, 6992, 7327, 7639, 7970, 7996, 9008]
def aw_v24 : List Value := [.slice (some ⟨6849, 0, some 0⟩) 2 2, .int .i64 0, .int .i64 0, .int .i64 0, .int .i64 0, .int .i64 0, .int .i64 0, .slice (some ⟨6992, 1, some 0⟩) 2 2, .slice (some ⟨7327, 1, some 0⟩) 2 2, .slice (some ⟨7639, 0, some 0⟩) 2 2, .bool true, .pointer (some ⟨7970, 0, some 0⟩), .slice (some ⟨7996, 0, some 0⟩) 1 1, .slice (some ⟨9008, 0, some 0⟩) 4 4, .bool false]
def aw_o24 : List AObj := [.cells [.int .i64 10, .int .i64 4, .int .i64 1, .int .i64 20, .int .i64 6, .int .i64 0] 118 3 false, .cells [.int .i64 0, .int .i64 40, .int .i64 120] 3 1 false, .cells [.int .i64 0, .int .i64 50, .int .i64 120] 3 1 false, .cells [.int .i64 4, .int .i64 1, .int .i64 8, .int .i64 1] 91 2 false, .cells [.int .i64 0, .int .i64 1] 71 2 false, .cells [.int .i64 2, .int .i64 4, .int .i64 1] 118 3 true, .cells [.float .f32 1082130432, .float .f32 1082130432, .float .f32 1086324736, .float .f32 0] 117 1 false]
def aw_e24 : Env := { sz := 362, l := aw_t24.zip aw_v24 }
def aw_h24 : H := hOf 9009 (aw_n24.zip aw_o24)
theorem aw_s24 : Ab.seen aw_t24 aw_n24 (evPieces Tryz.prog laidBase aw_rec aw_c 23 1 aw_e23 aw_h23) = some (aw_v24, aw_o24.map some, 362, 9009) := by kernel_rfl
def aw_t25 : List Nat := [32, 34, 36, 39, 41, 43, 45, 31, 33, 35, 38, 37, 40, 42, 44, 0]
def aw_n25 : List Nat := [6992, 7327, 7639, 7970, 7996, 9008]
def aw_v25 : List Value := [.int .i64 0, .int .i64 0, .int .i64 0, .int .i64 0, .int .i64 0, .int .i64 0, .int .i64 0, .slice (some ⟨6992, 1, some 0⟩) 2 2, .slice (some ⟨7327, 1, some 0⟩) 2 2, .slice (some ⟨7639, 0, some 0⟩) 2 2, .bool true, .pointer (some ⟨7970, 0, some 0⟩), .slice (some ⟨7996, 0, some 0⟩) 1 1, .slice (some ⟨9008, 0, some 0⟩) 4 4, .string ⟨⟨[112, 105, 99, 107, 32, 49, 48, 32, 52, 32, 49, 10]⟩⟩, .bool false]
def aw_o25 : List AObj := [.cells [.int .i64 0, .int .i64 40, .int .i64 120] 3 1 false, .cells [.int .i64 0, .int .i64 50, .int .i64 120] 3 1 false, .cells [.int .i64 4, .int .i64 1, .int .i64 8, .int .i64 1] 91 2 false, .cells [.int .i64 0, .int .i64 1] 71 2 false, .cells [.int .i64 2, .int .i64 4, .int .i64 1] 118 3 true, .cells [.float .f32 1082130432, .float .f32 1082130432, .float .f32 1086324736, .float .f32 0] 117 1 false]
def aw_e25 : Env := { sz := 362, l := aw_t25.zip aw_v25 }
def aw_h25 : H := hOf 9119 (aw_n25.zip aw_o25)
theorem aw_s25 : Ab.seen aw_t25 aw_n25 (evPieces Tryz.prog laidBase aw_rec aw_c 24 1 aw_e24 aw_h24) = some (aw_v25, aw_o25.map some, 362, 9119) := by kernel_rfl
def aw_t26 : List Nat := [0]
def aw_n26 : List Nat := []
def aw_v26 : List Value := [.bool true]
def aw_o26 : List AObj := []
def aw_e26 : Env := { sz := 362, l := aw_t26.zip aw_v26 }
def aw_h26 : H := hOf 9207 (aw_n26.zip aw_o26)
theorem aw_s26 : Ab.seen aw_t26 aw_n26 (evPieces Tryz.prog laidBase aw_rec aw_c 25 1 aw_e25 aw_h25) = some (aw_v26, aw_o26.map some, 362, 9207) := by kernel_rfl
end Go.Proofs.YtcepknnekgjneaaGreatDoor
