/- The function awake of the law answers true: where its stretches begin and end. -/
import Derived.Test.YtnkmencbnoipmaaGreatDoorA6
import Derived.Test.YtnkmencbnoipmaaGreatDoorS1
import Derived.Below
import Derived.RowKit
import Derived.KernelRfl
set_option linter.all false
namespace Go.Proofs.YtnkmencbnoipmaaGreatDoor
open Go Go.Ab Go.RowKit

set_option maxRecDepth 1000000
-- pieces 23
noncomputable def aw_c : Code := Tryz.f10.body.getD .skip
noncomputable def aw_rec : Ev := ev Tryz.prog laidBase ext0 3000
def aw_e0 : Env := Env.start 312 []
def aw_h0 : H := H.empty
def aw_t1 : List Nat := [0]
def aw_n1 : List Nat := []
def aw_v1 : List Value := [.bool false]
def aw_o1 : List AObj := []
def aw_e1 : Env := { sz := 312, l := aw_t1.zip aw_v1 }
def aw_h1 : H := hOf 0 (aw_n1.zip aw_o1)
def aw_t2 : List Nat := [1, 0]
def aw_n2 : List Nat := []
def aw_v2 : List Value := [.func (.func 50) ⟨[]⟩ ⟨[]⟩, .bool false]
def aw_o2 : List AObj := []
def aw_e2 : Env := { sz := 312, l := aw_t2.zip aw_v2 }
def aw_h2 : H := hOf 0 (aw_n2.zip aw_o2)
def aw_t3 : List Nat := [1, 3, 2, 0]
def aw_n3 : List Nat := [353]
def aw_v3 : List Value := [.func (.func 50) ⟨[]⟩ ⟨[]⟩, .int .i64 0, .slice (some ⟨353, 0, some 0⟩) 4 4, .bool false]
def aw_o3 : List AObj := [.cells [.int .i64 60, .int .i64 50, .int .i64 40, .int .i64 50, .int .i64 60, .int .i64 50, .int .i64 0, .int .i64 50, .int .i64 160, .int .i64 50, .int .i64 140, .int .i64 50, .int .i64 160, .int .i64 50, .int .i64 100, .int .i64 50] 81 4 true]
def aw_e3 : Env := { sz := 312, l := aw_t3.zip aw_v3 }
def aw_h3 : H := hOf 354 (aw_n3.zip aw_o3)
def aw_t4 : List Nat := [1, 3, 5, 2, 4, 0]
def aw_n4 : List Nat := [353, 647]
def aw_v4 : List Value := [.func (.func 50) ⟨[]⟩ ⟨[]⟩, .int .i64 0, .int .i64 0, .slice (some ⟨353, 0, some 0⟩) 4 4, .slice (some ⟨647, 0, some 0⟩) 4 4, .bool false]
def aw_o4 : List AObj := [.cells [.int .i64 60, .int .i64 50, .int .i64 40, .int .i64 50, .int .i64 60, .int .i64 50, .int .i64 0, .int .i64 50, .int .i64 160, .int .i64 50, .int .i64 140, .int .i64 50, .int .i64 160, .int .i64 50, .int .i64 100, .int .i64 50] 81 4 true, .cells [.int .i64 1, .int .i64 1, .int .i64 1, .int .i64 1] 3 1 false]
def aw_e4 : Env := { sz := 312, l := aw_t4.zip aw_v4 }
def aw_h4 : H := hOf 845 (aw_n4.zip aw_o4)
def aw_t5 : List Nat := [3, 5, 7, 2, 4, 6, 1, 0]
def aw_n5 : List Nat := [353, 647]
def aw_v5 : List Value := [.int .i64 0, .int .i64 0, .int .i64 0, .slice (some ⟨353, 0, some 0⟩) 4 4, .slice (some ⟨647, 0, some 0⟩) 4 4, .int .i64 1, .func (.func 50) ⟨[]⟩ ⟨[]⟩, .bool false]
def aw_o5 : List AObj := [.cells [.int .i64 60, .int .i64 50, .int .i64 40, .int .i64 50, .int .i64 60, .int .i64 50, .int .i64 0, .int .i64 50, .int .i64 160, .int .i64 50, .int .i64 140, .int .i64 50, .int .i64 160, .int .i64 50, .int .i64 100, .int .i64 50] 81 4 true, .cells [.int .i64 1, .int .i64 1, .int .i64 1, .int .i64 1] 3 1 false]
def aw_e5 : Env := { sz := 312, l := aw_t5.zip aw_v5 }
def aw_h5 : H := hOf 884 (aw_n5.zip aw_o5)
def aw_t6 : List Nat := [3, 5, 7, 9, 2, 4, 6, 1, 8, 0]
def aw_n6 : List Nat := [353, 647, 1422, 1154]
def aw_v6 : List Value := [.int .i64 0, .int .i64 0, .int .i64 0, .int .i64 0, .slice (some ⟨353, 0, some 0⟩) 4 4, .slice (some ⟨647, 0, some 0⟩) 4 4, .int .i64 1, .func (.func 50) ⟨[]⟩ ⟨[]⟩, .pointer (some ⟨1422, 0, some 0⟩), .bool false]
def aw_o6 : List AObj := [.cells [.int .i64 60, .int .i64 50, .int .i64 40, .int .i64 50, .int .i64 60, .int .i64 50, .int .i64 0, .int .i64 50, .int .i64 160, .int .i64 50, .int .i64 140, .int .i64 50, .int .i64 160, .int .i64 50, .int .i64 100, .int .i64 50] 81 4 true, .cells [.int .i64 1, .int .i64 1, .int .i64 1, .int .i64 1] 3 1 false, .cells [.string ⟨⟨[97]⟩⟩, .int .i64 60, .int .i64 50, .int .i64 100, .int .i64 0, .int .i64 2, .int .i64 (-20), .int .i64 0, .int .i64 (-40), .int .i64 60, .int .i64 2, .slice (some ⟨1154, 0, some 0⟩) 0 0] 43 12 false, .cells [] 3 1 false]
def aw_e6 : Env := { sz := 312, l := aw_t6.zip aw_v6 }
def aw_h6 : H := hOf 1423 (aw_n6.zip aw_o6)
def aw_t7 : List Nat := [1, 8, 0]
def aw_n7 : List Nat := [1422, 1154]
def aw_v7 : List Value := [.func (.func 50) ⟨[]⟩ ⟨[]⟩, .pointer (some ⟨1422, 0, some 0⟩), .bool false]
def aw_o7 : List AObj := [.cells [.string ⟨⟨[97]⟩⟩, .int .i64 60, .int .i64 50, .int .i64 100, .int .i64 0, .int .i64 2, .int .i64 (-20), .int .i64 0, .int .i64 (-40), .int .i64 60, .int .i64 2, .slice (some ⟨1154, 0, some 0⟩) 0 0] 43 12 false, .cells [] 3 1 false]
def aw_e7 : Env := { sz := 312, l := aw_t7.zip aw_v7 }
def aw_h7 : H := hOf 1460 (aw_n7.zip aw_o7)
def aw_t8 : List Nat := [10, 1, 8, 0]
def aw_n8 : List Nat := [1461, 1422, 1154]
def aw_v8 : List Value := [.pointer (some ⟨1461, 0, some 0⟩), .func (.func 50) ⟨[]⟩ ⟨[]⟩, .pointer (some ⟨1422, 0, some 0⟩), .bool false]
def aw_o8 : List AObj := [.cells [.string ⟨⟨[97]⟩⟩, .int .i64 60, .int .i64 50, .int .i64 100, .int .i64 0, .int .i64 2, .int .i64 (-20), .int .i64 0, .int .i64 (-40), .int .i64 0, .int .i64 2, .slice none 0 0] 43 12 false, .cells [.string ⟨⟨[97]⟩⟩, .int .i64 60, .int .i64 50, .int .i64 100, .int .i64 0, .int .i64 2, .int .i64 (-20), .int .i64 0, .int .i64 (-40), .int .i64 60, .int .i64 2, .slice (some ⟨1154, 0, some 0⟩) 0 0] 43 12 false, .cells [] 3 1 false]
def aw_e8 : Env := { sz := 312, l := aw_t8.zip aw_v8 }
def aw_h8 : H := hOf 1462 (aw_n8.zip aw_o8)
def aw_t9 : List Nat := [1, 8, 10, 0]
def aw_n9 : List Nat := [1422, 1154, 1461, 1462]
def aw_v9 : List Value := [.func (.func 50) ⟨[]⟩ ⟨[]⟩, .pointer (some ⟨1422, 0, some 0⟩), .pointer (some ⟨1461, 0, some 0⟩), .bool false]
def aw_o9 : List AObj := [.cells [.string ⟨⟨[97]⟩⟩, .int .i64 60, .int .i64 50, .int .i64 100, .int .i64 0, .int .i64 2, .int .i64 (-20), .int .i64 0, .int .i64 (-40), .int .i64 60, .int .i64 2, .slice (some ⟨1154, 0, some 0⟩) 0 0] 43 12 false, .cells [] 3 1 false, .cells [.string ⟨⟨[97]⟩⟩, .int .i64 60, .int .i64 50, .int .i64 100, .int .i64 0, .int .i64 2, .int .i64 (-20), .int .i64 0, .int .i64 (-40), .int .i64 0, .int .i64 2, .slice (some ⟨1462, 0, some 0⟩) 1 1] 43 12 false, .cells [.int .i64 0] 3 1 false]
def aw_e9 : Env := { sz := 312, l := aw_t9.zip aw_v9 }
def aw_h9 : H := hOf 1463 (aw_n9.zip aw_o9)
def aw_t10 : List Nat := [1, 10, 12, 11, 0]
def aw_n10 : List Nat := [1461, 1462, 1965]
def aw_v10 : List Value := [.func (.func 50) ⟨[]⟩ ⟨[]⟩, .pointer (some ⟨1461, 0, some 0⟩), .int .i64 0, .slice (some ⟨1965, 0, some 0⟩) 2 2, .bool false]
def aw_o10 : List AObj := [.cells [.string ⟨⟨[97]⟩⟩, .int .i64 60, .int .i64 50, .int .i64 100, .int .i64 0, .int .i64 2, .int .i64 (-20), .int .i64 0, .int .i64 (-40), .int .i64 0, .int .i64 2, .slice (some ⟨1462, 0, some 0⟩) 1 1] 43 12 false, .cells [.int .i64 0] 3 1 false, .cells [.int .i64 1, .int .i64 1] 3 1 false]
def aw_e10 : Env := { sz := 312, l := aw_t10.zip aw_v10 }
def aw_h10 : H := hOf 2031 (aw_n10.zip aw_o10)
def aw_t11 : List Nat := [1, 10, 12, 14, 11, 13, 0]
def aw_n11 : List Nat := [1461, 1462, 1965, 2479]
def aw_v11 : List Value := [.func (.func 50) ⟨[]⟩ ⟨[]⟩, .pointer (some ⟨1461, 0, some 0⟩), .int .i64 0, .int .i64 0, .slice (some ⟨1965, 0, some 0⟩) 2 2, .slice (some ⟨2479, 0, some 0⟩) 2 2, .bool false]
def aw_o11 : List AObj := [.cells [.string ⟨⟨[97]⟩⟩, .int .i64 60, .int .i64 50, .int .i64 100, .int .i64 0, .int .i64 2, .int .i64 (-20), .int .i64 0, .int .i64 (-40), .int .i64 0, .int .i64 2, .slice (some ⟨1462, 0, some 0⟩) 1 1] 43 12 false, .cells [.int .i64 0] 3 1 false, .cells [.int .i64 1, .int .i64 1] 3 1 false, .cells [.int .i64 0, .int .i64 2] 3 1 false]
def aw_e11 : Env := { sz := 312, l := aw_t11.zip aw_v11 }
def aw_h11 : H := hOf 2545 (aw_n11.zip aw_o11)
def aw_t12 : List Nat := [12, 14, 16, 11, 13, 15, 1, 0]
def aw_n12 : List Nat := [1965, 2479, 3064]
def aw_v12 : List Value := [.int .i64 0, .int .i64 0, .int .i64 0, .slice (some ⟨1965, 0, some 0⟩) 2 2, .slice (some ⟨2479, 0, some 0⟩) 2 2, .slice (some ⟨3064, 0, some 0⟩) 1 1, .func (.func 50) ⟨[]⟩ ⟨[]⟩, .bool false]
def aw_o12 : List AObj := [.cells [.int .i64 1, .int .i64 1] 3 1 false, .cells [.int .i64 0, .int .i64 2] 3 1 false, .cells [.int .i64 0] 3 1 true]
def aw_e12 : Env := { sz := 312, l := aw_t12.zip aw_v12 }
def aw_h12 : H := hOf 3065 (aw_n12.zip aw_o12)
def aw_t13 : List Nat := [12, 14, 16, 18, 11, 13, 15, 17, 1, 0]
def aw_n13 : List Nat := [1965, 2479, 3064, 3613, 3358]
def aw_v13 : List Value := [.int .i64 0, .int .i64 0, .int .i64 0, .int .i64 0, .slice (some ⟨1965, 0, some 0⟩) 2 2, .slice (some ⟨2479, 0, some 0⟩) 2 2, .slice (some ⟨3064, 0, some 0⟩) 1 1, .pointer (some ⟨3613, 0, some 0⟩), .func (.func 50) ⟨[]⟩ ⟨[]⟩, .bool false]
def aw_o13 : List AObj := [.cells [.int .i64 1, .int .i64 1] 3 1 false, .cells [.int .i64 0, .int .i64 2] 3 1 false, .cells [.int .i64 0] 3 1 true, .cells [.string ⟨⟨[97]⟩⟩, .int .i64 160, .int .i64 50, .int .i64 (-100), .int .i64 0, .int .i64 2, .int .i64 (-20), .int .i64 0, .int .i64 (-40), .int .i64 0, .int .i64 2, .slice (some ⟨3358, 0, some 0⟩) 0 0] 43 12 false, .cells [] 3 1 false]
def aw_e13 : Env := { sz := 312, l := aw_t13.zip aw_v13 }
def aw_h13 : H := hOf 3614 (aw_n13.zip aw_o13)
def aw_t14 : List Nat := [12, 14, 16, 18, 20, 11, 13, 15, 17, 19, 1, 0]
def aw_n14 : List Nat := [1965, 2479, 3064, 3613, 3358, 4086, 3892]
def aw_v14 : List Value := [.int .i64 0, .int .i64 0, .int .i64 0, .int .i64 0, .int .i64 0, .slice (some ⟨1965, 0, some 0⟩) 2 2, .slice (some ⟨2479, 0, some 0⟩) 2 2, .slice (some ⟨3064, 0, some 0⟩) 1 1, .pointer (some ⟨3613, 0, some 0⟩), .pointer (some ⟨4086, 0, some 0⟩), .func (.func 50) ⟨[]⟩ ⟨[]⟩, .bool false]
def aw_o14 : List AObj := [.cells [.int .i64 1, .int .i64 1] 3 1 false, .cells [.int .i64 0, .int .i64 2] 3 1 false, .cells [.int .i64 0] 3 1 true, .cells [.string ⟨⟨[97]⟩⟩, .int .i64 160, .int .i64 50, .int .i64 (-100), .int .i64 0, .int .i64 2, .int .i64 (-20), .int .i64 0, .int .i64 (-40), .int .i64 0, .int .i64 2, .slice (some ⟨3358, 0, some 0⟩) 0 0] 43 12 false, .cells [] 3 1 false, .cells [.string ⟨⟨[97]⟩⟩, .int .i64 160, .int .i64 50, .int .i64 100, .int .i64 0, .int .i64 1, .int .i64 (-20), .int .i64 0, .int .i64 (-40), .int .i64 0, .int .i64 2, .slice (some ⟨3892, 0, some 0⟩) 0 0] 43 12 false, .cells [] 3 1 false]
def aw_e14 : Env := { sz := 312, l := aw_t14.zip aw_v14 }
def aw_h14 : H := hOf 4087 (aw_n14.zip aw_o14)
def aw_t15 : List Nat := [1, 0]
def aw_n15 : List Nat := []
def aw_v15 : List Value := [.func (.func 50) ⟨[]⟩ ⟨[]⟩, .bool false]
def aw_o15 : List AObj := []
def aw_e15 : Env := { sz := 312, l := aw_t15.zip aw_v15 }
def aw_h15 : H := hOf 4135 (aw_n15.zip aw_o15)
def aw_t16 : List Nat := [1, 21, 0]
def aw_n16 : List Nat := []
def aw_v16 : List Value := [.func (.func 50) ⟨[]⟩ ⟨[]⟩, .func (.func 53) ⟨[]⟩ ⟨[]⟩, .bool false]
def aw_o16 : List AObj := []
def aw_e16 : Env := { sz := 312, l := aw_t16.zip aw_v16 }
def aw_h16 : H := hOf 4135 (aw_n16.zip aw_o16)
def aw_t17 : List Nat := [1, 21, 24, 22, 23, 0]
def aw_n17 : List Nat := [6115]
def aw_v17 : List Value := [.func (.func 50) ⟨[]⟩ ⟨[]⟩, .func (.func 53) ⟨[]⟩ ⟨[]⟩, .int .i64 0, .slice (some ⟨6115, 0, some 0⟩) 1 1, .int .i64 65, .bool false]
def aw_o17 : List AObj := [.cells [.int .i64 2] 3 1 false]
def aw_e17 : Env := { sz := 312, l := aw_t17.zip aw_v17 }
def aw_h17 : H := hOf 6118 (aw_n17.zip aw_o17)
def aw_t18 : List Nat := [1, 21, 24, 26, 22, 23, 25, 0]
def aw_n18 : List Nat := [6115, 8006]
def aw_v18 : List Value := [.func (.func 50) ⟨[]⟩ ⟨[]⟩, .func (.func 53) ⟨[]⟩ ⟨[]⟩, .int .i64 0, .int .i64 0, .slice (some ⟨6115, 0, some 0⟩) 1 1, .int .i64 65, .slice (some ⟨8006, 0, some 0⟩) 2 2, .bool false]
def aw_o18 : List AObj := [.cells [.int .i64 2] 3 1 false, .cells [.int .i64 30, .int .i64 35] 3 1 false]
def aw_e18 : Env := { sz := 312, l := aw_t18.zip aw_v18 }
def aw_h18 : H := hOf 8075 (aw_n18.zip aw_o18)
def aw_t19 : List Nat := [24, 26, 28, 22, 23, 25, 27, 0]
def aw_n19 : List Nat := [6115, 8006]
def aw_v19 : List Value := [.int .i64 0, .int .i64 0, .int .i64 0, .slice (some ⟨6115, 0, some 0⟩) 1 1, .int .i64 65, .slice (some ⟨8006, 0, some 0⟩) 2 2, .int .i64 65, .bool false]
def aw_o19 : List AObj := [.cells [.int .i64 2] 3 1 false, .cells [.int .i64 30, .int .i64 35] 3 1 false]
def aw_e19 : Env := { sz := 312, l := aw_t19.zip aw_v19 }
def aw_h19 : H := hOf 9991 (aw_n19.zip aw_o19)
def aw_t20 : List Nat := [24, 26, 28, 31, 22, 23, 25, 27, 29, 30, 0]
def aw_n20 : List Nat := [6115, 8006, 10005]
def aw_v20 : List Value := [.int .i64 0, .int .i64 0, .int .i64 0, .int .i64 0, .slice (some ⟨6115, 0, some 0⟩) 1 1, .int .i64 65, .slice (some ⟨8006, 0, some 0⟩) 2 2, .int .i64 65, .slice (some ⟨10005, 0, some 0⟩) 3 3, .int .i64 8, .bool false]
def aw_o20 : List AObj := [.cells [.int .i64 2] 3 1 false, .cells [.int .i64 30, .int .i64 35] 3 1 false, .cells [.int .i64 0, .int .i64 1, .int .i64 2] 3 1 true]
def aw_e20 : Env := { sz := 312, l := aw_t20.zip aw_v20 }
def aw_h20 : H := hOf 10416 (aw_n20.zip aw_o20)
def aw_t21 : List Nat := [24, 26, 28, 31, 34, 22, 23, 25, 27, 29, 30, 32, 33, 0]
def aw_n21 : List Nat := [6115, 8006, 10005, 10759]
def aw_v21 : List Value := [.int .i64 0, .int .i64 0, .int .i64 0, .int .i64 0, .int .i64 0, .slice (some ⟨6115, 0, some 0⟩) 1 1, .int .i64 65, .slice (some ⟨8006, 0, some 0⟩) 2 2, .int .i64 65, .slice (some ⟨10005, 0, some 0⟩) 3 3, .int .i64 8, .slice (some ⟨10759, 0, some 0⟩) 2 2, .int .i64 7, .bool false]
def aw_o21 : List AObj := [.cells [.int .i64 2] 3 1 false, .cells [.int .i64 30, .int .i64 35] 3 1 false, .cells [.int .i64 0, .int .i64 1, .int .i64 2] 3 1 true, .cells [.int .i64 1, .int .i64 2, .int .i64 0, .int .i64 1] 108 2 true]
def aw_e21 : Env := { sz := 312, l := aw_t21.zip aw_v21 }
def aw_h21 : H := hOf 10796 (aw_n21.zip aw_o21)
def aw_t22 : List Nat := [24, 26, 28, 31, 34, 36, 22, 23, 25, 27, 29, 30, 32, 33, 35, 0]
def aw_n22 : List Nat := [6115, 8006, 10005, 10759]
def aw_v22 : List Value := [.int .i64 0, .int .i64 0, .int .i64 0, .int .i64 0, .int .i64 0, .int .i64 0, .slice (some ⟨6115, 0, some 0⟩) 1 1, .int .i64 65, .slice (some ⟨8006, 0, some 0⟩) 2 2, .int .i64 65, .slice (some ⟨10005, 0, some 0⟩) 3 3, .int .i64 8, .slice (some ⟨10759, 0, some 0⟩) 2 2, .int .i64 7, .string ⟨⟨[108, 105, 110, 101, 32, 97, 32, 54, 48, 32, 53, 48, 32, 49, 48, 48, 32, 48, 32, 50, 32, 45, 50, 48, 32, 48, 32, 45, 52, 48, 32, 48, 32, 50, 10]⟩⟩, .bool false]
def aw_o22 : List AObj := [.cells [.int .i64 2] 3 1 false, .cells [.int .i64 30, .int .i64 35] 3 1 false, .cells [.int .i64 0, .int .i64 1, .int .i64 2] 3 1 true, .cells [.int .i64 1, .int .i64 2, .int .i64 0, .int .i64 1] 108 2 true]
def aw_e22 : Env := { sz := 312, l := aw_t22.zip aw_v22 }
def aw_h22 : H := hOf 11166 (aw_n22.zip aw_o22)
def aw_t23 : List Nat := [0]
def aw_n23 : List Nat := []
def aw_v23 : List Value := [.bool true]
def aw_o23 : List AObj := []
def aw_e23 : Env := { sz := 312, l := aw_t23.zip aw_v23 }
def aw_h23 : H := hOf 11242 (aw_n23.zip aw_o23)
end Go.Proofs.YtnkmencbnoipmaaGreatDoor
