/- The function awake of the law answers true: its stretches. -/
import Derived.Test.YtlioomhcdlicmaaGreatDoorW3
set_option linter.all false
namespace Go.Proofs.YtlioomhcdlicmaaGreatDoor
open Go Go.Ab Go.RowKit
set_option maxRecDepth 1000000
theorem aw_s1 : Ab.seen aw_t1 aw_n1 (evPieces Tryz.prog laidBase aw_rec aw_c 0 1 aw_e0 aw_h0) = some (aw_v1, aw_o1.map some, 307, 0) := by kernel_rfl
theorem aw_s2 : Ab.seen aw_t2 aw_n2 (evPieces Tryz.prog laidBase aw_rec aw_c 1 1 aw_e1 aw_h1) = some (aw_v2, aw_o2.map some, 307, 351) := by kernel_rfl
theorem aw_s3 : Ab.seen aw_t3 aw_n3 (evPieces Tryz.prog laidBase aw_rec aw_c 2 1 aw_e2 aw_h2) = some (aw_v3, aw_o3.map some, 307, 846) := by kernel_rfl
theorem aw_s4 : Ab.seen aw_t4 aw_n4 (evPieces Tryz.prog laidBase aw_rec aw_c 3 1 aw_e3 aw_h3) = some (aw_v4, aw_o4.map some, 307, 1230) := by kernel_rfl
theorem aw_s5 : Ab.seen aw_t5 aw_n5 (evPieces Tryz.prog laidBase aw_rec aw_c 4 1 aw_e4 aw_h4) = some (aw_v5, aw_o5.map some, 307, 1744) := by kernel_rfl
theorem aw_s6 : Ab.seen aw_t6 aw_n6 (evPieces Tryz.prog laidBase aw_rec aw_c 5 1 aw_e5 aw_h5) = some (aw_v6, aw_o6.map some, 307, 2342) := by kernel_rfl
theorem aw_s7 : Ab.seen aw_t7 aw_n7 (evPieces Tryz.prog laidBase aw_rec aw_c 6 1 aw_e6 aw_h6) = some (aw_v7, aw_o7.map some, 307, 2965) := by kernel_rfl
theorem aw_s8 : Ab.seen aw_t8 aw_n8 (evPieces Tryz.prog laidBase aw_rec aw_c 7 1 aw_e7 aw_h7) = some (aw_v8, aw_o8.map some, 307, 3615) := by kernel_rfl
theorem aw_s9 : Ab.seen aw_t9 aw_n9 (evPieces Tryz.prog laidBase aw_rec aw_c 8 1 aw_e8 aw_h8) = some (aw_v9, aw_o9.map some, 307, 3994) := by kernel_rfl
theorem aw_s10 : Ab.seen aw_t10 aw_n10 (evPieces Tryz.prog laidBase aw_rec aw_c 9 1 aw_e9 aw_h9) = some (aw_v10, aw_o10.map some, 307, 4374) := by kernel_rfl
theorem aw_s11 : Ab.seen aw_t11 aw_n11 (evPieces Tryz.prog laidBase aw_rec aw_c 10 1 aw_e10 aw_h10) = some (aw_v11, aw_o11.map some, 307, 4754) := by kernel_rfl
theorem aw_s12 : Ab.seen aw_t12 aw_n12 (evPieces Tryz.prog laidBase aw_rec aw_c 11 1 aw_e11 aw_h11) = some (aw_v12, aw_o12.map some, 307, 4982) := by kernel_rfl
theorem aw_s13 : Ab.seen aw_t13 aw_n13 (evPieces Tryz.prog laidBase aw_rec aw_c 12 1 aw_e12 aw_h12) = some (aw_v13, aw_o13.map some, 307, 5798) := by kernel_rfl
theorem aw_s14 : Ab.seen aw_t14 aw_n14 (evPieces Tryz.prog laidBase aw_rec aw_c 13 1 aw_e13 aw_h13) = some (aw_v14, aw_o14.map some, 307, 5799) := by kernel_rfl
theorem aw_s15 : Ab.seen aw_t15 aw_n15 (evPieces Tryz.prog laidBase aw_rec aw_c 14 1 aw_e14 aw_h14) = some (aw_v15, aw_o15.map some, 307, 5859) := by kernel_rfl
theorem aw_s16 : Ab.seen aw_t16 aw_n16 (evPieces Tryz.prog laidBase aw_rec aw_c 15 1 aw_e15 aw_h15) = some (aw_v16, aw_o16.map some, 307, 6076) := by kernel_rfl
theorem aw_s17 : Ab.seen aw_t17 aw_n17 (evPieces Tryz.prog laidBase aw_rec aw_c 16 1 aw_e16 aw_h16) = some (aw_v17, aw_o17.map some, 307, 6420) := by kernel_rfl
theorem aw_s18 : Ab.seen aw_t18 aw_n18 (evPieces Tryz.prog laidBase aw_rec aw_c 17 1 aw_e17 aw_h17) = some (aw_v18, aw_o18.map some, 307, 6867) := by kernel_rfl
theorem aw_s19 : Ab.seen aw_t19 aw_n19 (evPieces Tryz.prog laidBase aw_rec aw_c 18 1 aw_e18 aw_h18) = some (aw_v19, aw_o19.map some, 307, 7318) := by kernel_rfl
theorem aw_s20 : Ab.seen aw_t20 aw_n20 (evPieces Tryz.prog laidBase aw_rec aw_c 19 1 aw_e19 aw_h19) = some (aw_v20, aw_o20.map some, 307, 7393) := by kernel_rfl
theorem aw_s21 : Ab.seen aw_t21 aw_n21 (evPieces Tryz.prog laidBase aw_rec aw_c 20 1 aw_e20 aw_h20) = some (aw_v21, aw_o21.map some, 307, 7486) := by kernel_rfl
theorem aw_s22 : Ab.seen aw_t22 aw_n22 (evPieces Tryz.prog laidBase aw_rec aw_c 21 1 aw_e21 aw_h21) = some (aw_v22, aw_o22.map some, 307, 7505) := by kernel_rfl
end Go.Proofs.YtlioomhcdlicmaaGreatDoor
