/- The function awake of the law answers true: where its stretches begin and end. -/
import Derived.Test.YtlioomhcdlicmaaGreatDoorA6
import Derived.Test.YtlioomhcdlicmaaGreatDoorS1
import Derived.Below
import Derived.RowKit
import Derived.KernelRfl
set_option linter.all false
namespace Go.Proofs.YtlioomhcdlicmaaGreatDoor
open Go Go.Ab Go.RowKit
set_option maxRecDepth 1000000
-- pieces 22
noncomputable def aw_c : Code := Tryz.f15.body.getD .skip
noncomputable def aw_rec : Ev := ev Tryz.prog laidBase ext0 3000
def aw_e0 : Env := Env.start 307 []
def aw_h0 : H := H.empty
def aw_t1 : List Nat := [0]
def aw_n1 : List Nat := []
def aw_v1 : List Value := [.bool false]
def aw_o1 : List AObj := []
def aw_e1 : Env := { sz := 307, l := aw_t1.zip aw_v1 }
def aw_h1 : H := hOf 0 (aw_n1.zip aw_o1)
def aw_t2 : List Nat := [2, 1, 0]
def aw_n2 : List Nat := [326]
def aw_v2 : List Value := [.int .i64 0, .slice (some ⟨326, 0, some 0⟩) 12 12, .bool false]
def aw_o2 : List AObj := [.cells [.bool false, .bool false, .bool true, .bool true, .bool true, .bool false, .bool false, .bool false, .bool false, .bool false, .bool false, .bool false] 4 1 false]
def aw_e2 : Env := { sz := 307, l := aw_t2.zip aw_v2 }
def aw_h2 : H := hOf 351 (aw_n2.zip aw_o2)
def aw_t3 : List Nat := [2, 4, 1, 3, 0]
def aw_n3 : List Nat := [326, 677]
def aw_v3 : List Value := [.int .i64 0, .int .i64 0, .slice (some ⟨326, 0, some 0⟩) 12 12, .slice (some ⟨677, 0, some 0⟩) 12 12, .bool false]
def aw_o3 : List AObj := [.cells [.bool false, .bool false, .bool true, .bool true, .bool true, .bool false, .bool false, .bool false, .bool false, .bool false, .bool false, .bool false] 4 1 false, .cells [.int .i64 0, .int .i64 0, .int .i64 0, .int .i64 0, .int .i64 0, .int .i64 0, .int .i64 0, .int .i64 0, .int .i64 1, .int .i64 2, .int .i64 3, .int .i64 3] 3 1 false]
def aw_e3 : Env := { sz := 307, l := aw_t3.zip aw_v3 }
def aw_h3 : H := hOf 846 (aw_n3.zip aw_o3)
def aw_t4 : List Nat := [2, 4, 6, 1, 3, 5, 0]
def aw_n4 : List Nat := [326, 677, 1061]
def aw_v4 : List Value := [.int .i64 0, .int .i64 0, .int .i64 0, .slice (some ⟨326, 0, some 0⟩) 12 12, .slice (some ⟨677, 0, some 0⟩) 12 12, .slice (some ⟨1061, 0, some 0⟩) 12 12, .bool false]
def aw_o4 : List AObj := [.cells [.bool false, .bool false, .bool true, .bool true, .bool true, .bool false, .bool false, .bool false, .bool false, .bool false, .bool false, .bool false] 4 1 false, .cells [.int .i64 0, .int .i64 0, .int .i64 0, .int .i64 0, .int .i64 0, .int .i64 0, .int .i64 0, .int .i64 0, .int .i64 1, .int .i64 2, .int .i64 3, .int .i64 3] 3 1 false, .cells [.int .i64 0, .int .i64 0, .int .i64 0, .int .i64 1, .int .i64 2, .int .i64 3, .int .i64 3, .int .i64 3, .int .i64 3, .int .i64 3, .int .i64 3, .int .i64 3] 3 1 false]
def aw_e4 : Env := { sz := 307, l := aw_t4.zip aw_v4 }
def aw_h4 : H := hOf 1230 (aw_n4.zip aw_o4)
def aw_t5 : List Nat := [2, 4, 6, 8, 1, 3, 5, 7, 0]
def aw_n5 : List Nat := [326, 677, 1061, 1741]
def aw_v5 : List Value := [.int .i64 0, .int .i64 0, .int .i64 0, .int .i64 0, .slice (some ⟨326, 0, some 0⟩) 12 12, .slice (some ⟨677, 0, some 0⟩) 12 12, .slice (some ⟨1061, 0, some 0⟩) 12 12, .slice (some ⟨1741, 0, some 0⟩) 1 2, .bool false]
def aw_o5 : List AObj := [.cells [.bool false, .bool false, .bool true, .bool true, .bool true, .bool false, .bool false, .bool false, .bool false, .bool false, .bool false, .bool false] 4 1 false, .cells [.int .i64 0, .int .i64 0, .int .i64 0, .int .i64 0, .int .i64 0, .int .i64 0, .int .i64 0, .int .i64 0, .int .i64 1, .int .i64 2, .int .i64 3, .int .i64 3] 3 1 false, .cells [.int .i64 0, .int .i64 0, .int .i64 0, .int .i64 1, .int .i64 2, .int .i64 3, .int .i64 3, .int .i64 3, .int .i64 3, .int .i64 3, .int .i64 3, .int .i64 3] 3 1 false, .cells [.int .i64 0, .int .i64 8, .int .i64 0, .int .i64 0] 79 2 true]
def aw_e5 : Env := { sz := 307, l := aw_t5.zip aw_v5 }
def aw_h5 : H := hOf 1744 (aw_n5.zip aw_o5)
def aw_t6 : List Nat := [2, 4, 6, 8, 10, 1, 3, 5, 7, 9, 0]
def aw_n6 : List Nat := [326, 677, 1061, 1741]
def aw_v6 : List Value := [.int .i64 0, .int .i64 0, .int .i64 0, .int .i64 0, .int .i64 0, .slice (some ⟨326, 0, some 0⟩) 12 12, .slice (some ⟨677, 0, some 0⟩) 12 12, .slice (some ⟨1061, 0, some 0⟩) 12 12, .slice (some ⟨1741, 0, some 0⟩) 1 2, .int .i64 10, .bool false]
def aw_o6 : List AObj := [.cells [.bool false, .bool false, .bool true, .bool true, .bool true, .bool false, .bool false, .bool false, .bool false, .bool false, .bool false, .bool false] 4 1 false, .cells [.int .i64 0, .int .i64 0, .int .i64 0, .int .i64 0, .int .i64 0, .int .i64 0, .int .i64 0, .int .i64 0, .int .i64 1, .int .i64 2, .int .i64 3, .int .i64 3] 3 1 false, .cells [.int .i64 0, .int .i64 0, .int .i64 0, .int .i64 1, .int .i64 2, .int .i64 3, .int .i64 3, .int .i64 3, .int .i64 3, .int .i64 3, .int .i64 3, .int .i64 3] 3 1 false, .cells [.int .i64 0, .int .i64 8, .int .i64 0, .int .i64 0] 79 2 true]
def aw_e6 : Env := { sz := 307, l := aw_t6.zip aw_v6 }
def aw_h6 : H := hOf 2342 (aw_n6.zip aw_o6)
def aw_t7 : List Nat := [2, 4, 6, 8, 10, 12, 1, 3, 5, 7, 9, 0]
def aw_n7 : List Nat := [326, 677, 1061, 1741]
def aw_v7 : List Value := [.int .i64 0, .int .i64 0, .int .i64 0, .int .i64 0, .int .i64 0, .int .i64 7, .slice (some ⟨326, 0, some 0⟩) 12 12, .slice (some ⟨677, 0, some 0⟩) 12 12, .slice (some ⟨1061, 0, some 0⟩) 12 12, .slice (some ⟨1741, 0, some 0⟩) 1 2, .int .i64 10, .bool false]
def aw_o7 : List AObj := [.cells [.bool false, .bool false, .bool true, .bool true, .bool true, .bool false, .bool false, .bool false, .bool false, .bool false, .bool false, .bool false] 4 1 false, .cells [.int .i64 0, .int .i64 0, .int .i64 0, .int .i64 0, .int .i64 0, .int .i64 0, .int .i64 0, .int .i64 0, .int .i64 1, .int .i64 2, .int .i64 3, .int .i64 3] 3 1 false, .cells [.int .i64 0, .int .i64 0, .int .i64 0, .int .i64 1, .int .i64 2, .int .i64 3, .int .i64 3, .int .i64 3, .int .i64 3, .int .i64 3, .int .i64 3, .int .i64 3] 3 1 false, .cells [.int .i64 0, .int .i64 8, .int .i64 0, .int .i64 0] 79 2 true]
def aw_e7 : Env := { sz := 307, l := aw_t7.zip aw_v7 }
def aw_h7 : H := hOf 2965 (aw_n7.zip aw_o7)
def aw_t8 : List Nat := [2, 4, 6, 8, 10, 14, 12, 1, 3, 5, 7, 9, 13, 0]
def aw_n8 : List Nat := [326, 677, 1061, 1741]
def aw_v8 : List Value := [.int .i64 0, .int .i64 0, .int .i64 0, .int .i64 0, .int .i64 0, .int .i64 0, .int .i64 7, .slice (some ⟨326, 0, some 0⟩) 12 12, .slice (some ⟨677, 0, some 0⟩) 12 12, .slice (some ⟨1061, 0, some 0⟩) 12 12, .slice (some ⟨1741, 0, some 0⟩) 1 2, .int .i64 10, .int .i64 10, .bool false]
def aw_o8 : List AObj := [.cells [.bool false, .bool false, .bool true, .bool true, .bool true, .bool false, .bool false, .bool false, .bool false, .bool false, .bool false, .bool false] 4 1 false, .cells [.int .i64 0, .int .i64 0, .int .i64 0, .int .i64 0, .int .i64 0, .int .i64 0, .int .i64 0, .int .i64 0, .int .i64 1, .int .i64 2, .int .i64 3, .int .i64 3] 3 1 false, .cells [.int .i64 0, .int .i64 0, .int .i64 0, .int .i64 1, .int .i64 2, .int .i64 3, .int .i64 3, .int .i64 3, .int .i64 3, .int .i64 3, .int .i64 3, .int .i64 3] 3 1 false, .cells [.int .i64 0, .int .i64 8, .int .i64 0, .int .i64 0] 79 2 true]
def aw_e8 : Env := { sz := 307, l := aw_t8.zip aw_v8 }
def aw_h8 : H := hOf 3615 (aw_n8.zip aw_o8)
def aw_t9 : List Nat := [2, 4, 6, 8, 10, 14, 15, 12, 1, 3, 5, 7, 9, 13, 0]
def aw_n9 : List Nat := [326, 677, 1061, 1741]
def aw_v9 : List Value := [.int .i64 0, .int .i64 0, .int .i64 0, .int .i64 0, .int .i64 0, .int .i64 0, .int .i64 0, .int .i64 7, .slice (some ⟨326, 0, some 0⟩) 12 12, .slice (some ⟨677, 0, some 0⟩) 12 12, .slice (some ⟨1061, 0, some 0⟩) 12 12, .slice (some ⟨1741, 0, some 0⟩) 1 2, .int .i64 10, .int .i64 10, .bool false]
def aw_o9 : List AObj := [.cells [.bool false, .bool false, .bool true, .bool true, .bool true, .bool false, .bool false, .bool false, .bool false, .bool false, .bool false, .bool false] 4 1 false, .cells [.int .i64 0, .int .i64 0, .int .i64 0, .int .i64 0, .int .i64 0, .int .i64 0, .int .i64 0, .int .i64 0, .int .i64 1, .int .i64 2, .int .i64 3, .int .i64 3] 3 1 false, .cells [.int .i64 0, .int .i64 0, .int .i64 0, .int .i64 1, .int .i64 2, .int .i64 3, .int .i64 3, .int .i64 3, .int .i64 3, .int .i64 3, .int .i64 3, .int .i64 3] 3 1 false, .cells [.int .i64 0, .int .i64 8, .int .i64 0, .int .i64 0] 79 2 true]
def aw_e9 : Env := { sz := 307, l := aw_t9.zip aw_v9 }
def aw_h9 : H := hOf 3994 (aw_n9.zip aw_o9)
def aw_t10 : List Nat := [2, 4, 6, 8, 10, 14, 15, 12, 16, 1, 3, 5, 7, 9, 13, 0]
def aw_n10 : List Nat := [326, 677, 1061, 1741]
def aw_v10 : List Value := [.int .i64 0, .int .i64 0, .int .i64 0, .int .i64 0, .int .i64 0, .int .i64 0, .int .i64 0, .int .i64 7, .int .i64 21, .slice (some ⟨326, 0, some 0⟩) 12 12, .slice (some ⟨677, 0, some 0⟩) 12 12, .slice (some ⟨1061, 0, some 0⟩) 12 12, .slice (some ⟨1741, 0, some 0⟩) 1 2, .int .i64 10, .int .i64 10, .bool false]
def aw_o10 : List AObj := [.cells [.bool false, .bool false, .bool true, .bool true, .bool true, .bool false, .bool false, .bool false, .bool false, .bool false, .bool false, .bool false] 4 1 false, .cells [.int .i64 0, .int .i64 0, .int .i64 0, .int .i64 0, .int .i64 0, .int .i64 0, .int .i64 0, .int .i64 0, .int .i64 1, .int .i64 2, .int .i64 3, .int .i64 3] 3 1 false, .cells [.int .i64 0, .int .i64 0, .int .i64 0, .int .i64 1, .int .i64 2, .int .i64 3, .int .i64 3, .int .i64 3, .int .i64 3, .int .i64 3, .int .i64 3, .int .i64 3] 3 1 false, .cells [.int .i64 0, .int .i64 8, .int .i64 0, .int .i64 0] 79 2 true]
def aw_e10 : Env := { sz := 307, l := aw_t10.zip aw_v10 }
def aw_h10 : H := hOf 4374 (aw_n10.zip aw_o10)
def aw_t11 : List Nat := [2, 4, 6, 8, 10, 14, 15, 12, 16, 17, 1, 3, 5, 7, 9, 13, 0]
def aw_n11 : List Nat := [326, 677, 1061, 1741]
def aw_v11 : List Value := [.int .i64 0, .int .i64 0, .int .i64 0, .int .i64 0, .int .i64 0, .int .i64 0, .int .i64 0, .int .i64 7, .int .i64 21, .int .i64 31, .slice (some ⟨326, 0, some 0⟩) 12 12, .slice (some ⟨677, 0, some 0⟩) 12 12, .slice (some ⟨1061, 0, some 0⟩) 12 12, .slice (some ⟨1741, 0, some 0⟩) 1 2, .int .i64 10, .int .i64 10, .bool false]
def aw_o11 : List AObj := [.cells [.bool false, .bool false, .bool true, .bool true, .bool true, .bool false, .bool false, .bool false, .bool false, .bool false, .bool false, .bool false] 4 1 false, .cells [.int .i64 0, .int .i64 0, .int .i64 0, .int .i64 0, .int .i64 0, .int .i64 0, .int .i64 0, .int .i64 0, .int .i64 1, .int .i64 2, .int .i64 3, .int .i64 3] 3 1 false, .cells [.int .i64 0, .int .i64 0, .int .i64 0, .int .i64 1, .int .i64 2, .int .i64 3, .int .i64 3, .int .i64 3, .int .i64 3, .int .i64 3, .int .i64 3, .int .i64 3] 3 1 false, .cells [.int .i64 0, .int .i64 8, .int .i64 0, .int .i64 0] 79 2 true]
def aw_e11 : Env := { sz := 307, l := aw_t11.zip aw_v11 }
def aw_h11 : H := hOf 4754 (aw_n11.zip aw_o11)
def aw_t12 : List Nat := [0]
def aw_n12 : List Nat := []
def aw_v12 : List Value := [.bool false]
def aw_o12 : List AObj := []
def aw_e12 : Env := { sz := 307, l := aw_t12.zip aw_v12 }
def aw_h12 : H := hOf 4982 (aw_n12.zip aw_o12)
def aw_t13 : List Nat := [19, 18, 0]
def aw_n13 : List Nat := [5753]
def aw_v13 : List Value := [.int .i64 0, .slice (some ⟨5753, 0, some 0⟩) 4 4, .bool false]
def aw_o13 : List AObj := [.cells [.int .i64 0, .int .i64 8, .string ⟨⟨[97, 110, 105, 109, 97, 108]⟩⟩, .int .i64 8, .int .i64 9, .string ⟨⟨[115, 104, 111, 111, 116]⟩⟩, .int .i64 9, .int .i64 10, .string ⟨⟨[119, 101, 97, 116, 104, 101, 114]⟩⟩, .int .i64 10, .int .i64 12, .string ⟨⟨[115, 104, 111, 111, 116]⟩⟩] 133 3 false]
def aw_e13 : Env := { sz := 307, l := aw_t13.zip aw_v13 }
def aw_h13 : H := hOf 5798 (aw_n13.zip aw_o13)
def aw_t14 : List Nat := [19, 18, 20, 0]
def aw_n14 : List Nat := [5753, 5798]
def aw_v14 : List Value := [.int .i64 0, .slice (some ⟨5753, 0, some 0⟩) 4 4, .slice (some ⟨5798, 0, some 0⟩) 4 4, .bool false]
def aw_o14 : List AObj := [.cells [.int .i64 0, .int .i64 8, .string ⟨⟨[97, 110, 105, 109, 97, 108]⟩⟩, .int .i64 8, .int .i64 9, .string ⟨⟨[115, 104, 111, 111, 116]⟩⟩, .int .i64 9, .int .i64 10, .string ⟨⟨[119, 101, 97, 116, 104, 101, 114]⟩⟩, .int .i64 10, .int .i64 12, .string ⟨⟨[115, 104, 111, 111, 116]⟩⟩] 133 3 false, .cells [.int .i64 0, .int .i64 8, .string ⟨⟨[97, 110, 105, 109, 97, 108]⟩⟩, .int .i64 8, .int .i64 9, .string ⟨⟨[115, 104, 111, 111, 116]⟩⟩, .int .i64 9, .int .i64 10, .string ⟨⟨[119, 101, 97, 116, 104, 101, 114]⟩⟩, .int .i64 10, .int .i64 12, .string ⟨⟨[115, 104, 111, 111, 116]⟩⟩] 133 3 false]
def aw_e14 : Env := { sz := 307, l := aw_t14.zip aw_v14 }
def aw_h14 : H := hOf 5799 (aw_n14.zip aw_o14)
def aw_t15 : List Nat := [20, 0]
def aw_n15 : List Nat := [5798]
def aw_v15 : List Value := [.slice (some ⟨5798, 0, some 0⟩) 4 4, .bool false]
def aw_o15 : List AObj := [.cells [.int .i64 0, .int .i64 8, .string ⟨⟨[97, 110, 105, 109, 97, 108]⟩⟩, .int .i64 8, .int .i64 9, .string ⟨⟨[115, 104, 111, 111, 116]⟩⟩, .int .i64 9, .int .i64 10, .string ⟨⟨[119, 101, 97, 116, 104, 101, 114]⟩⟩, .int .i64 10, .int .i64 12, .string ⟨⟨[115, 104, 111, 111, 116]⟩⟩] 133 3 false]
def aw_e15 : Env := { sz := 307, l := aw_t15.zip aw_v15 }
def aw_h15 : H := hOf 5859 (aw_n15.zip aw_o15)
def aw_t16 : List Nat := [20, 22, 21, 0]
def aw_n16 : List Nat := [5798, 6075]
def aw_v16 : List Value := [.slice (some ⟨5798, 0, some 0⟩) 4 4, .int .i64 0, .pointer (some ⟨6075, 0, some 0⟩), .bool false]
def aw_o16 : List AObj := [.cells [.int .i64 0, .int .i64 8, .string ⟨⟨[97, 110, 105, 109, 97, 108]⟩⟩, .int .i64 8, .int .i64 9, .string ⟨⟨[115, 104, 111, 111, 116]⟩⟩, .int .i64 9, .int .i64 10, .string ⟨⟨[119, 101, 97, 116, 104, 101, 114]⟩⟩, .int .i64 10, .int .i64 12, .string ⟨⟨[115, 104, 111, 111, 116]⟩⟩] 133 3 false, .cells [.int .i64 3, .int .i64 0, .int .i64 1, .int .i64 8, .int .i64 0, .int .i64 0] 22 6 false]
def aw_e16 : Env := { sz := 307, l := aw_t16.zip aw_v16 }
def aw_h16 : H := hOf 6076 (aw_n16.zip aw_o16)
def aw_t17 : List Nat := [20, 22, 24, 21, 23, 0]
def aw_n17 : List Nat := [5798, 6075, 6419]
def aw_v17 : List Value := [.slice (some ⟨5798, 0, some 0⟩) 4 4, .int .i64 0, .int .i64 0, .pointer (some ⟨6075, 0, some 0⟩), .pointer (some ⟨6419, 0, some 0⟩), .bool false]
def aw_o17 : List AObj := [.cells [.int .i64 0, .int .i64 8, .string ⟨⟨[97, 110, 105, 109, 97, 108]⟩⟩, .int .i64 8, .int .i64 9, .string ⟨⟨[115, 104, 111, 111, 116]⟩⟩, .int .i64 9, .int .i64 10, .string ⟨⟨[119, 101, 97, 116, 104, 101, 114]⟩⟩, .int .i64 10, .int .i64 12, .string ⟨⟨[115, 104, 111, 111, 116]⟩⟩] 133 3 false, .cells [.int .i64 3, .int .i64 0, .int .i64 1, .int .i64 8, .int .i64 0, .int .i64 0] 22 6 false, .cells [.int .i64 3, .int .i64 4] 92 2 false]
def aw_e17 : Env := { sz := 307, l := aw_t17.zip aw_v17 }
def aw_h17 : H := hOf 6420 (aw_n17.zip aw_o17)
def aw_t18 : List Nat := [20, 25, 22, 24, 26, 21, 23, 0]
def aw_n18 : List Nat := [5798, 6866, 6075, 6419]
def aw_v18 : List Value := [.slice (some ⟨5798, 0, some 0⟩) 4 4, .pointer (some ⟨6866, 0, some 0⟩), .int .i64 0, .int .i64 0, .int .i64 0, .pointer (some ⟨6075, 0, some 0⟩), .pointer (some ⟨6419, 0, some 0⟩), .bool false]
def aw_o18 : List AObj := [.cells [.int .i64 0, .int .i64 8, .string ⟨⟨[97, 110, 105, 109, 97, 108]⟩⟩, .int .i64 8, .int .i64 9, .string ⟨⟨[115, 104, 111, 111, 116]⟩⟩, .int .i64 9, .int .i64 10, .string ⟨⟨[119, 101, 97, 116, 104, 101, 114]⟩⟩, .int .i64 10, .int .i64 12, .string ⟨⟨[115, 104, 111, 111, 116]⟩⟩] 133 3 false, .cells [.int .i64 300, .int .i64 0, .int .i64 20, .int .i64 80, .int .i64 0, .int .i64 0, .int .i64 300, .int .i64 700] 29 8 false, .cells [.int .i64 3, .int .i64 0, .int .i64 1, .int .i64 8, .int .i64 0, .int .i64 0] 22 6 false, .cells [.int .i64 3, .int .i64 4] 92 2 false]
def aw_e18 : Env := { sz := 307, l := aw_t18.zip aw_v18 }
def aw_h18 : H := hOf 6867 (aw_n18.zip aw_o18)
def aw_t19 : List Nat := [25, 27, 20, 22, 24, 26, 28, 21, 23, 0]
def aw_n19 : List Nat := [6866, 7317, 5798, 6075, 6419]
def aw_v19 : List Value := [.pointer (some ⟨6866, 0, some 0⟩), .pointer (some ⟨7317, 0, some 0⟩), .slice (some ⟨5798, 0, some 0⟩) 4 4, .int .i64 0, .int .i64 0, .int .i64 0, .int .i64 0, .pointer (some ⟨6075, 0, some 0⟩), .pointer (some ⟨6419, 0, some 0⟩), .bool false]
def aw_o19 : List AObj := [.cells [.int .i64 300, .int .i64 0, .int .i64 20, .int .i64 80, .int .i64 0, .int .i64 0, .int .i64 300, .int .i64 700] 29 8 false, .cells [.int .i64 300, .int .i64 0, .int .i64 0, .int .i64 80, .int .i64 0, .int .i64 0, .int .i64 300, .int .i64 680] 29 8 false, .cells [.int .i64 0, .int .i64 8, .string ⟨⟨[97, 110, 105, 109, 97, 108]⟩⟩, .int .i64 8, .int .i64 9, .string ⟨⟨[115, 104, 111, 111, 116]⟩⟩, .int .i64 9, .int .i64 10, .string ⟨⟨[119, 101, 97, 116, 104, 101, 114]⟩⟩, .int .i64 10, .int .i64 12, .string ⟨⟨[115, 104, 111, 111, 116]⟩⟩] 133 3 false, .cells [.int .i64 3, .int .i64 0, .int .i64 1, .int .i64 8, .int .i64 0, .int .i64 0] 22 6 false, .cells [.int .i64 3, .int .i64 4] 92 2 false]
def aw_e19 : Env := { sz := 307, l := aw_t19.zip aw_v19 }
def aw_h19 : H := hOf 7318 (aw_n19.zip aw_o19)
def aw_t20 : List Nat := [20, 22, 24, 26, 28, 30, 21, 23, 25, 27, 29, 0]
def aw_n20 : List Nat := [5798, 6075, 6419, 6866, 7317, 7392]
def aw_v20 : List Value := [.slice (some ⟨5798, 0, some 0⟩) 4 4, .int .i64 0, .int .i64 0, .int .i64 0, .int .i64 0, .int .i64 0, .pointer (some ⟨6075, 0, some 0⟩), .pointer (some ⟨6419, 0, some 0⟩), .pointer (some ⟨6866, 0, some 0⟩), .pointer (some ⟨7317, 0, some 0⟩), .slice (some ⟨7392, 0, some 0⟩) 2 2, .bool false]
def aw_o20 : List AObj := [.cells [.int .i64 0, .int .i64 8, .string ⟨⟨[97, 110, 105, 109, 97, 108]⟩⟩, .int .i64 8, .int .i64 9, .string ⟨⟨[115, 104, 111, 111, 116]⟩⟩, .int .i64 9, .int .i64 10, .string ⟨⟨[119, 101, 97, 116, 104, 101, 114]⟩⟩, .int .i64 10, .int .i64 12, .string ⟨⟨[115, 104, 111, 111, 116]⟩⟩] 133 3 false, .cells [.int .i64 3, .int .i64 0, .int .i64 1, .int .i64 8, .int .i64 0, .int .i64 0] 22 6 false, .cells [.int .i64 3, .int .i64 4] 92 2 false, .cells [.int .i64 300, .int .i64 0, .int .i64 20, .int .i64 80, .int .i64 0, .int .i64 0, .int .i64 300, .int .i64 700] 29 8 false, .cells [.int .i64 300, .int .i64 0, .int .i64 0, .int .i64 80, .int .i64 0, .int .i64 0, .int .i64 300, .int .i64 680] 29 8 false, .cells [.string ⟨⟨[119, 101, 97, 116, 104, 101, 114]⟩⟩, .string ⟨⟨[116, 111, 116, 97, 108]⟩⟩] 9 1 true]
def aw_e20 : Env := { sz := 307, l := aw_t20.zip aw_v20 }
def aw_h20 : H := hOf 7393 (aw_n20.zip aw_o20)
def aw_t21 : List Nat := [22, 24, 26, 28, 30, 32, 21, 23, 25, 27, 29, 31, 0]
def aw_n21 : List Nat := [6075, 6419, 6866, 7317, 7392]
def aw_v21 : List Value := [.int .i64 0, .int .i64 0, .int .i64 0, .int .i64 0, .int .i64 0, .int .i64 0, .pointer (some ⟨6075, 0, some 0⟩), .pointer (some ⟨6419, 0, some 0⟩), .pointer (some ⟨6866, 0, some 0⟩), .pointer (some ⟨7317, 0, some 0⟩), .slice (some ⟨7392, 0, some 0⟩) 2 2, .string ⟨⟨[48, 32, 56, 32, 97, 110, 105, 109, 97, 108, 10]⟩⟩, .bool false]
def aw_o21 : List AObj := [.cells [.int .i64 3, .int .i64 0, .int .i64 1, .int .i64 8, .int .i64 0, .int .i64 0] 22 6 false, .cells [.int .i64 3, .int .i64 4] 92 2 false, .cells [.int .i64 300, .int .i64 0, .int .i64 20, .int .i64 80, .int .i64 0, .int .i64 0, .int .i64 300, .int .i64 700] 29 8 false, .cells [.int .i64 300, .int .i64 0, .int .i64 0, .int .i64 80, .int .i64 0, .int .i64 0, .int .i64 300, .int .i64 680] 29 8 false, .cells [.string ⟨⟨[119, 101, 97, 116, 104, 101, 114]⟩⟩, .string ⟨⟨[116, 111, 116, 97, 108]⟩⟩] 9 1 true]
def aw_e21 : Env := { sz := 307, l := aw_t21.zip aw_v21 }
def aw_h21 : H := hOf 7486 (aw_n21.zip aw_o21)
def aw_t22 : List Nat := [0]
def aw_n22 : List Nat := []
def aw_v22 : List Value := [.bool true]
def aw_o22 : List AObj := []
def aw_e22 : Env := { sz := 307, l := aw_t22.zip aw_v22 }
def aw_h22 : H := hOf 7505 (aw_n22.zip aw_o22)
end Go.Proofs.YtlioomhcdlicmaaGreatDoor
