/- The types of this program: sizes and zeros; its calls of the outside, its tables. -/
import Derived.Test.YtdfpadokepmknaaGreatDoorK1
import Derived.Test.YtdfpadokepmknaaGreatDoorProg
import Derived.Test.YtdfpadokepmknaaGreatDoorA5
import Derived.KernelRfl
import Derived.Room.MakeNoZero
import Derived.Laws.Externs
import Derived.Test.YtdfpadokepmknaaGreatDoorA6
import Derived.Test.YtdfpadokepmknaaGreatDoorRows
set_option linter.all false
namespace Go.Proofs.YtdfpadokepmknaaGreatDoor
open Go Go.Ab
set_option maxRecDepth 100000
theorem zs1 : tsz Tryz.prog 1 = some 1 := by kernel_rfl
theorem zz1 : tzero Tryz.prog 1 = some (.nilFunc) := by kernel_rfl
theorem zb1 : tby Tryz.prog 1 = some 8 := by kernel_rfl
theorem zs2 : tsz Tryz.prog 2 = some 1 := by kernel_rfl
theorem zz2 : tzero Tryz.prog 2 = some (.int .i64 (0)) := by kernel_rfl
theorem zb2 : tby Tryz.prog 2 = some 8 := by kernel_rfl
theorem zs3 : tsz Tryz.prog 3 = some 1 := by kernel_rfl
theorem zz3 : tzero Tryz.prog 3 = some (.int .i64 (0)) := by kernel_rfl
theorem zb3 : tby Tryz.prog 3 = some 8 := by kernel_rfl
theorem zs4 : tsz Tryz.prog 4 = some 1 := by kernel_rfl
theorem zz4 : tzero Tryz.prog 4 = some (.bool false) := by kernel_rfl
theorem zb4 : tby Tryz.prog 4 = some 1 := by kernel_rfl
theorem zs5 : tsz Tryz.prog 5 = some 1 := by kernel_rfl
theorem zz5 : tzero Tryz.prog 5 = some (.int .u8 (0)) := by kernel_rfl
theorem zb5 : tby Tryz.prog 5 = some 1 := by kernel_rfl
theorem zs6 : tsz Tryz.prog 6 = some 1 := by kernel_rfl
theorem zz6 : tzero Tryz.prog 6 = some (.int .u8 (0)) := by kernel_rfl
theorem zb6 : tby Tryz.prog 6 = some 1 := by kernel_rfl
theorem zs7 : tsz Tryz.prog 7 = some 4 := by kernel_rfl
theorem zz7 : tzero Tryz.prog 7 = some (.agg #[.int .i64 (0), .int .i64 (0), .bool false, .int .u8 (0)]) := by kernel_rfl
theorem zb7 : tby Tryz.prog 7 = some 24 := by kernel_rfl
theorem zp7 : placesOf Tryz.prog 7 = some [(0, 1), (1, 1), (2, 1), (3, 1)] := by kernel_rfl
theorem zs8 : tsz Tryz.prog 8 = some 4 := by kernel_rfl
theorem zz8 : tzero Tryz.prog 8 = some (.agg #[.int .i64 (0), .int .i64 (0), .bool false, .int .u8 (0)]) := by kernel_rfl
theorem zb8 : tby Tryz.prog 8 = some 24 := by kernel_rfl
theorem zp8 : placesOf Tryz.prog 8 = some [(0, 1), (1, 1), (2, 1), (3, 1)] := by kernel_rfl
theorem zs9 : tsz Tryz.prog 9 = some 1 := by kernel_rfl
theorem zz9 : tzero Tryz.prog 9 = some (.string .empty) := by kernel_rfl
theorem zb9 : tby Tryz.prog 9 = some 16 := by kernel_rfl
theorem zs10 : tsz Tryz.prog 10 = some 1 := by kernel_rfl
theorem zz10 : tzero Tryz.prog 10 = some (.string .empty) := by kernel_rfl
theorem zb10 : tby Tryz.prog 10 = some 16 := by kernel_rfl
theorem zs11 : tsz Tryz.prog 11 = some 1 := by kernel_rfl
theorem zz11 : tzero Tryz.prog 11 = some (.string .empty) := by kernel_rfl
theorem zb11 : tby Tryz.prog 11 = some 16 := by kernel_rfl
theorem zs12 : tsz Tryz.prog 12 = some 1 := by kernel_rfl
theorem zz12 : tzero Tryz.prog 12 = some (.int .u64 (0)) := by kernel_rfl
theorem zb12 : tby Tryz.prog 12 = some 8 := by kernel_rfl
theorem zs13 : tsz Tryz.prog 13 = some 2 := by kernel_rfl
theorem zz13 : tzero Tryz.prog 13 = some (.agg #[.string .empty, .int .u64 (0)]) := by kernel_rfl
theorem zb13 : tby Tryz.prog 13 = some 24 := by kernel_rfl
theorem zp13 : placesOf Tryz.prog 13 = some [(0, 1), (1, 1)] := by kernel_rfl
theorem zs14 : tsz Tryz.prog 14 = some 2 := by kernel_rfl
theorem zz14 : tzero Tryz.prog 14 = some (.agg #[.string .empty, .int .u64 (0)]) := by kernel_rfl
theorem zb14 : tby Tryz.prog 14 = some 24 := by kernel_rfl
theorem zp14 : placesOf Tryz.prog 14 = some [(0, 1), (1, 1)] := by kernel_rfl
theorem zs15 : tsz Tryz.prog 15 = some 1 := by kernel_rfl
theorem zz15 : tzero Tryz.prog 15 = some (.pointer none) := by kernel_rfl
theorem zb15 : tby Tryz.prog 15 = some 8 := by kernel_rfl
theorem zs16 : tsz Tryz.prog 16 = some 1 := by kernel_rfl
theorem zz16 : tzero Tryz.prog 16 = some (.pointer none) := by kernel_rfl
theorem zb16 : tby Tryz.prog 16 = some 8 := by kernel_rfl
theorem zs17 : tsz Tryz.prog 17 = some 1 := by kernel_rfl
theorem zz17 : tzero Tryz.prog 17 = some (.pointer none) := by kernel_rfl
theorem zb17 : tby Tryz.prog 17 = some 8 := by kernel_rfl
theorem zs18 : tsz Tryz.prog 18 = some 1 := by kernel_rfl
theorem zz18 : tzero Tryz.prog 18 = some (.agg #[.pointer none]) := by kernel_rfl
theorem zb18 : tby Tryz.prog 18 = some 8 := by kernel_rfl
theorem zp18 : placesOf Tryz.prog 18 = some [(0, 1)] := by kernel_rfl
theorem zs19 : tsz Tryz.prog 19 = some 1 := by kernel_rfl
theorem zz19 : tzero Tryz.prog 19 = some (.agg #[.pointer none]) := by kernel_rfl
theorem zb19 : tby Tryz.prog 19 = some 8 := by kernel_rfl
theorem zp19 : placesOf Tryz.prog 19 = some [(0, 1)] := by kernel_rfl
theorem zs20 : tsz Tryz.prog 20 = some 1 := by kernel_rfl
theorem zz20 : tzero Tryz.prog 20 = some (.nilIface) := by kernel_rfl
theorem zb20 : tby Tryz.prog 20 = some 16 := by kernel_rfl
theorem zs21 : tsz Tryz.prog 21 = some 1 := by kernel_rfl
theorem zz21 : tzero Tryz.prog 21 = some (.int .i32 (0)) := by kernel_rfl
theorem zb21 : tby Tryz.prog 21 = some 4 := by kernel_rfl
theorem zs22 : tsz Tryz.prog 22 = some 1 := by kernel_rfl
theorem zz22 : tzero Tryz.prog 22 = some (.slice none 0 0) := by kernel_rfl
theorem zb22 : tby Tryz.prog 22 = some 24 := by kernel_rfl
theorem zs23 : tsz Tryz.prog 23 = some 1 := by kernel_rfl
theorem zz23 : tzero Tryz.prog 23 = some (.slice none 0 0) := by kernel_rfl
theorem zb23 : tby Tryz.prog 23 = some 24 := by kernel_rfl
theorem zs24 : tsz Tryz.prog 24 = some 2 := by kernel_rfl
theorem zz24 : tzero Tryz.prog 24 = some (.agg #[.slice none 0 0, .slice none 0 0]) := by kernel_rfl
theorem zb24 : tby Tryz.prog 24 = some 48 := by kernel_rfl
theorem zp24 : placesOf Tryz.prog 24 = some [(0, 1), (1, 1)] := by kernel_rfl
theorem zs25 : tsz Tryz.prog 25 = some 1 := by kernel_rfl
theorem zz25 : tzero Tryz.prog 25 = some (.nilFunc) := by kernel_rfl
theorem zb25 : tby Tryz.prog 25 = some 8 := by kernel_rfl
theorem zs26 : tsz Tryz.prog 26 = some 1 := by kernel_rfl
theorem zz26 : tzero Tryz.prog 26 = some (.nilFunc) := by kernel_rfl
theorem zb26 : tby Tryz.prog 26 = some 8 := by kernel_rfl
theorem zs27 : tsz Tryz.prog 27 = some 1 := by kernel_rfl
theorem zz27 : tzero Tryz.prog 27 = some (.nilFunc) := by kernel_rfl
theorem zb27 : tby Tryz.prog 27 = some 8 := by kernel_rfl
theorem zs28 : tsz Tryz.prog 28 = some 1 := by kernel_rfl
theorem zz28 : tzero Tryz.prog 28 = some (.nilFunc) := by kernel_rfl
theorem zb28 : tby Tryz.prog 28 = some 8 := by kernel_rfl
theorem zs29 : tsz Tryz.prog 29 = some 1 := by kernel_rfl
theorem zz29 : tzero Tryz.prog 29 = some (.int .i64 (0)) := by kernel_rfl
theorem zb29 : tby Tryz.prog 29 = some 8 := by kernel_rfl
theorem zs31 : tsz Tryz.prog 31 = some 1 := by kernel_rfl
theorem zz31 : tzero Tryz.prog 31 = some (.nilFunc) := by kernel_rfl
theorem zb31 : tby Tryz.prog 31 = some 8 := by kernel_rfl
theorem zs32 : tsz Tryz.prog 32 = some 1 := by kernel_rfl
theorem zz32 : tzero Tryz.prog 32 = some (.nilFunc) := by kernel_rfl
theorem zb32 : tby Tryz.prog 32 = some 8 := by kernel_rfl
theorem zs33 : tsz Tryz.prog 33 = some 1 := by kernel_rfl
theorem zz33 : tzero Tryz.prog 33 = some (.nilFunc) := by kernel_rfl
theorem zb33 : tby Tryz.prog 33 = some 8 := by kernel_rfl
theorem zs35 : tsz Tryz.prog 35 = some 1 := by kernel_rfl
theorem zz35 : tzero Tryz.prog 35 = some (.nilFunc) := by kernel_rfl
theorem zb35 : tby Tryz.prog 35 = some 8 := by kernel_rfl
theorem zs36 : tsz Tryz.prog 36 = some 1 := by kernel_rfl
theorem zz36 : tzero Tryz.prog 36 = some (.float .f32 0) := by kernel_rfl
theorem zb36 : tby Tryz.prog 36 = some 4 := by kernel_rfl
theorem zs37 : tsz Tryz.prog 37 = some 1 := by kernel_rfl
theorem zz37 : tzero Tryz.prog 37 = some (.nilFunc) := by kernel_rfl
theorem zb37 : tby Tryz.prog 37 = some 8 := by kernel_rfl
theorem zs38 : tsz Tryz.prog 38 = some 1 := by kernel_rfl
theorem zz38 : tzero Tryz.prog 38 = some (.nilFunc) := by kernel_rfl
theorem zb38 : tby Tryz.prog 38 = some 8 := by kernel_rfl
theorem zs39 : tsz Tryz.prog 39 = some 1 := by kernel_rfl
theorem zz39 : tzero Tryz.prog 39 = some (.nilFunc) := by kernel_rfl
theorem zb39 : tby Tryz.prog 39 = some 8 := by kernel_rfl
theorem zs40 : tsz Tryz.prog 40 = some 1 := by kernel_rfl
theorem zz40 : tzero Tryz.prog 40 = some (.complex .f64 0 0) := by kernel_rfl
theorem zb40 : tby Tryz.prog 40 = some 16 := by kernel_rfl
theorem zs41 : tsz Tryz.prog 41 = some 4 := by kernel_rfl
theorem zz41 : tzero Tryz.prog 41 = some (.agg #[.complex .f64 0 0, .complex .f64 0 0, .complex .f64 0 0, .complex .f64 0 0]) := by kernel_rfl
theorem zb41 : tby Tryz.prog 41 = some 64 := by kernel_rfl
theorem zp41 : placesOf Tryz.prog 41 = some [(0, 1), (1, 1), (2, 1), (3, 1)] := by kernel_rfl
theorem zs43 : tsz Tryz.prog 43 = some 1 := by kernel_rfl
theorem zz43 : tzero Tryz.prog 43 = some (.nilFunc) := by kernel_rfl
theorem zb43 : tby Tryz.prog 43 = some 8 := by kernel_rfl
theorem zs44 : tsz Tryz.prog 44 = some 1 := by kernel_rfl
theorem zz44 : tzero Tryz.prog 44 = some (.nilFunc) := by kernel_rfl
theorem zb44 : tby Tryz.prog 44 = some 8 := by kernel_rfl
theorem zs45 : tsz Tryz.prog 45 = some 1 := by kernel_rfl
theorem zz45 : tzero Tryz.prog 45 = some (.nilFunc) := by kernel_rfl
theorem zb45 : tby Tryz.prog 45 = some 8 := by kernel_rfl
theorem zs46 : tsz Tryz.prog 46 = some 1 := by kernel_rfl
theorem zz46 : tzero Tryz.prog 46 = some (.nilFunc) := by kernel_rfl
theorem zb46 : tby Tryz.prog 46 = some 8 := by kernel_rfl
theorem zs48 : tsz Tryz.prog 48 = some 1 := by kernel_rfl
theorem zz48 : tzero Tryz.prog 48 = some (.nilFunc) := by kernel_rfl
theorem zb48 : tby Tryz.prog 48 = some 8 := by kernel_rfl
theorem zs49 : tsz Tryz.prog 49 = some 2 := by kernel_rfl
theorem zz49 : tzero Tryz.prog 49 = some (.agg #[.int .i64 (0), .int .i64 (0)]) := by kernel_rfl
theorem zb49 : tby Tryz.prog 49 = some 16 := by kernel_rfl
theorem zp49 : placesOf Tryz.prog 49 = some [(0, 1), (1, 1)] := by kernel_rfl
theorem zs50 : tsz Tryz.prog 50 = some 2 := by kernel_rfl
theorem zz50 : tzero Tryz.prog 50 = some (.agg #[.int .i64 (0), .int .i64 (0)]) := by kernel_rfl
theorem zb50 : tby Tryz.prog 50 = some 16 := by kernel_rfl
theorem zp50 : placesOf Tryz.prog 50 = some [(0, 1), (1, 1)] := by kernel_rfl
theorem zs51 : tsz Tryz.prog 51 = some 1 := by kernel_rfl
theorem zz51 : tzero Tryz.prog 51 = some (.nilFunc) := by kernel_rfl
theorem zb51 : tby Tryz.prog 51 = some 8 := by kernel_rfl
theorem zs52 : tsz Tryz.prog 52 = some 1 := by kernel_rfl
theorem zz52 : tzero Tryz.prog 52 = some (.float .f64 0) := by kernel_rfl
theorem zb52 : tby Tryz.prog 52 = some 8 := by kernel_rfl
theorem zs53 : tsz Tryz.prog 53 = some 1 := by kernel_rfl
theorem zz53 : tzero Tryz.prog 53 = some (.nilFunc) := by kernel_rfl
theorem zb53 : tby Tryz.prog 53 = some 8 := by kernel_rfl
theorem zs54 : tsz Tryz.prog 54 = some 1 := by kernel_rfl
theorem zz54 : tzero Tryz.prog 54 = some (.nilFunc) := by kernel_rfl
theorem zb54 : tby Tryz.prog 54 = some 8 := by kernel_rfl
theorem zs55 : tsz Tryz.prog 55 = some 1 := by kernel_rfl
theorem zz55 : tzero Tryz.prog 55 = some (.nilFunc) := by kernel_rfl
theorem zb55 : tby Tryz.prog 55 = some 8 := by kernel_rfl
theorem zs56 : tsz Tryz.prog 56 = some 1 := by kernel_rfl
theorem zz56 : tzero Tryz.prog 56 = some (.nilFunc) := by kernel_rfl
theorem zb56 : tby Tryz.prog 56 = some 8 := by kernel_rfl
theorem zs58 : tsz Tryz.prog 58 = some 1 := by kernel_rfl
theorem zz58 : tzero Tryz.prog 58 = some (.nilFunc) := by kernel_rfl
theorem zb58 : tby Tryz.prog 58 = some 8 := by kernel_rfl
theorem zs59 : tsz Tryz.prog 59 = some 1 := by kernel_rfl
theorem zz59 : tzero Tryz.prog 59 = some (.nilFunc) := by kernel_rfl
theorem zb59 : tby Tryz.prog 59 = some 8 := by kernel_rfl
theorem zs60 : tsz Tryz.prog 60 = some 1 := by kernel_rfl
theorem zz60 : tzero Tryz.prog 60 = some (.nilFunc) := by kernel_rfl
theorem zb60 : tby Tryz.prog 60 = some 8 := by kernel_rfl
theorem zs61 : tsz Tryz.prog 61 = some 1 := by kernel_rfl
theorem zz61 : tzero Tryz.prog 61 = some (.nilFunc) := by kernel_rfl
theorem zb61 : tby Tryz.prog 61 = some 8 := by kernel_rfl
theorem zs62 : tsz Tryz.prog 62 = some 1 := by kernel_rfl
theorem zz62 : tzero Tryz.prog 62 = some (.nilFunc) := by kernel_rfl
theorem zb62 : tby Tryz.prog 62 = some 8 := by kernel_rfl
theorem zs63 : tsz Tryz.prog 63 = some 1 := by kernel_rfl
theorem zz63 : tzero Tryz.prog 63 = some (.nilFunc) := by kernel_rfl
theorem zb63 : tby Tryz.prog 63 = some 8 := by kernel_rfl
theorem zs64 : tsz Tryz.prog 64 = some 2 := by kernel_rfl
theorem zz64 : tzero Tryz.prog 64 = some (.agg #[.int .i64 (0), .int .i64 (0)]) := by kernel_rfl
theorem zb64 : tby Tryz.prog 64 = some 16 := by kernel_rfl
theorem zp64 : placesOf Tryz.prog 64 = some [(0, 1), (1, 1)] := by kernel_rfl
theorem zs65 : tsz Tryz.prog 65 = some 2 := by kernel_rfl
theorem zz65 : tzero Tryz.prog 65 = some (.agg #[.int .i64 (0), .int .i64 (0)]) := by kernel_rfl
theorem zb65 : tby Tryz.prog 65 = some 16 := by kernel_rfl
theorem zp65 : placesOf Tryz.prog 65 = some [(0, 1), (1, 1)] := by kernel_rfl
theorem zs67 : tsz Tryz.prog 67 = some 1 := by kernel_rfl
theorem zz67 : tzero Tryz.prog 67 = some (.nilFunc) := by kernel_rfl
theorem zb67 : tby Tryz.prog 67 = some 8 := by kernel_rfl
theorem zs69 : tsz Tryz.prog 69 = some 1 := by kernel_rfl
theorem zz69 : tzero Tryz.prog 69 = some (.nilFunc) := by kernel_rfl
theorem zb69 : tby Tryz.prog 69 = some 8 := by kernel_rfl
theorem zs70 : tsz Tryz.prog 70 = some 1 := by kernel_rfl
theorem zz70 : tzero Tryz.prog 70 = some (.nilFunc) := by kernel_rfl
theorem zb70 : tby Tryz.prog 70 = some 8 := by kernel_rfl
theorem zs71 : tsz Tryz.prog 71 = some 1 := by kernel_rfl
theorem zz71 : tzero Tryz.prog 71 = some (.nilFunc) := by kernel_rfl
theorem zb71 : tby Tryz.prog 71 = some 8 := by kernel_rfl
theorem zs73 : tsz Tryz.prog 73 = some 1 := by kernel_rfl
theorem zz73 : tzero Tryz.prog 73 = some (.nilFunc) := by kernel_rfl
theorem zb73 : tby Tryz.prog 73 = some 8 := by kernel_rfl
theorem zs75 : tsz Tryz.prog 75 = some 1 := by kernel_rfl
theorem zz75 : tzero Tryz.prog 75 = some (.nilFunc) := by kernel_rfl
theorem zb75 : tby Tryz.prog 75 = some 8 := by kernel_rfl
theorem zs77 : tsz Tryz.prog 77 = some 1 := by kernel_rfl
theorem zz77 : tzero Tryz.prog 77 = some (.nilFunc) := by kernel_rfl
theorem zb77 : tby Tryz.prog 77 = some 8 := by kernel_rfl
theorem zs78 : tsz Tryz.prog 78 = some 1 := by kernel_rfl
theorem zz78 : tzero Tryz.prog 78 = some (.nilFunc) := by kernel_rfl
theorem zb78 : tby Tryz.prog 78 = some 8 := by kernel_rfl
theorem zs79 : tsz Tryz.prog 79 = some 1 := by kernel_rfl
theorem zz79 : tzero Tryz.prog 79 = some (.nilFunc) := by kernel_rfl
theorem zb79 : tby Tryz.prog 79 = some 8 := by kernel_rfl
theorem zs80 : tsz Tryz.prog 80 = some 3 := by kernel_rfl
theorem zz80 : tzero Tryz.prog 80 = some (.agg #[.int .i64 (0), .int .i64 (0), .int .i64 (0)]) := by kernel_rfl
theorem zb80 : tby Tryz.prog 80 = some 24 := by kernel_rfl
theorem zp80 : placesOf Tryz.prog 80 = some [(0, 1), (1, 1), (2, 1)] := by kernel_rfl
theorem zs81 : tsz Tryz.prog 81 = some 1 := by kernel_rfl
theorem zz81 : tzero Tryz.prog 81 = some (.nilFunc) := by kernel_rfl
theorem zb81 : tby Tryz.prog 81 = some 8 := by kernel_rfl
theorem zs82 : tsz Tryz.prog 82 = some 1 := by kernel_rfl
theorem zz82 : tzero Tryz.prog 82 = some (.nilFunc) := by kernel_rfl
theorem zb82 : tby Tryz.prog 82 = some 8 := by kernel_rfl
theorem zs83 : tsz Tryz.prog 83 = some 1 := by kernel_rfl
theorem zz83 : tzero Tryz.prog 83 = some (.nilFunc) := by kernel_rfl
theorem zb83 : tby Tryz.prog 83 = some 8 := by kernel_rfl
theorem zs84 : tsz Tryz.prog 84 = some 1 := by kernel_rfl
theorem zz84 : tzero Tryz.prog 84 = some (.slice none 0 0) := by kernel_rfl
theorem zb84 : tby Tryz.prog 84 = some 24 := by kernel_rfl
theorem zs85 : tsz Tryz.prog 85 = some 1 := by kernel_rfl
theorem zz85 : tzero Tryz.prog 85 = some (.nilFunc) := by kernel_rfl
theorem zb85 : tby Tryz.prog 85 = some 8 := by kernel_rfl
theorem zs86 : tsz Tryz.prog 86 = some 1 := by kernel_rfl
theorem zz86 : tzero Tryz.prog 86 = some (.nilFunc) := by kernel_rfl
theorem zb86 : tby Tryz.prog 86 = some 8 := by kernel_rfl
theorem zs87 : tsz Tryz.prog 87 = some 1 := by kernel_rfl
theorem zz87 : tzero Tryz.prog 87 = some (.slice none 0 0) := by kernel_rfl
theorem zb87 : tby Tryz.prog 87 = some 24 := by kernel_rfl
theorem zs88 : tsz Tryz.prog 88 = some 1 := by kernel_rfl
theorem zz88 : tzero Tryz.prog 88 = some (.nilFunc) := by kernel_rfl
theorem zb88 : tby Tryz.prog 88 = some 8 := by kernel_rfl
theorem zs89 : tsz Tryz.prog 89 = some 1 := by kernel_rfl
theorem zz89 : tzero Tryz.prog 89 = some (.nilFunc) := by kernel_rfl
theorem zb89 : tby Tryz.prog 89 = some 8 := by kernel_rfl
theorem zs90 : tsz Tryz.prog 90 = some 1 := by kernel_rfl
theorem zz90 : tzero Tryz.prog 90 = some (.nilFunc) := by kernel_rfl
theorem zb90 : tby Tryz.prog 90 = some 8 := by kernel_rfl
theorem zs91 : tsz Tryz.prog 91 = some 1 := by kernel_rfl
theorem zz91 : tzero Tryz.prog 91 = some (.nilFunc) := by kernel_rfl
theorem zb91 : tby Tryz.prog 91 = some 8 := by kernel_rfl
theorem zs92 : tsz Tryz.prog 92 = some 1 := by kernel_rfl
theorem zz92 : tzero Tryz.prog 92 = some (.nilFunc) := by kernel_rfl
theorem zb92 : tby Tryz.prog 92 = some 8 := by kernel_rfl
theorem zs93 : tsz Tryz.prog 93 = some 1 := by kernel_rfl
theorem zz93 : tzero Tryz.prog 93 = some (.nilFunc) := by kernel_rfl
theorem zb93 : tby Tryz.prog 93 = some 8 := by kernel_rfl
theorem zs94 : tsz Tryz.prog 94 = some 1 := by kernel_rfl
theorem zz94 : tzero Tryz.prog 94 = some (.nilFunc) := by kernel_rfl
theorem zb94 : tby Tryz.prog 94 = some 8 := by kernel_rfl
theorem zs95 : tsz Tryz.prog 95 = some 1 := by kernel_rfl
theorem zz95 : tzero Tryz.prog 95 = some (.nilFunc) := by kernel_rfl
theorem zb95 : tby Tryz.prog 95 = some 8 := by kernel_rfl
theorem zs96 : tsz Tryz.prog 96 = some 3 := by kernel_rfl
theorem zz96 : tzero Tryz.prog 96 = some (.agg #[.int .i64 (0), .int .i64 (0), .int .i64 (0)]) := by kernel_rfl
theorem zb96 : tby Tryz.prog 96 = some 24 := by kernel_rfl
theorem zp96 : placesOf Tryz.prog 96 = some [(0, 1), (1, 1), (2, 1)] := by kernel_rfl
theorem zs97 : tsz Tryz.prog 97 = some 3 := by kernel_rfl
theorem zz97 : tzero Tryz.prog 97 = some (.agg #[.int .i64 (0), .int .i64 (0), .int .i64 (0)]) := by kernel_rfl
theorem zb97 : tby Tryz.prog 97 = some 24 := by kernel_rfl
theorem zp97 : placesOf Tryz.prog 97 = some [(0, 1), (1, 1), (2, 1)] := by kernel_rfl
theorem zs99 : tsz Tryz.prog 99 = some 1 := by kernel_rfl
theorem zz99 : tzero Tryz.prog 99 = some (.nilFunc) := by kernel_rfl
theorem zb99 : tby Tryz.prog 99 = some 8 := by kernel_rfl
theorem zs100 : tsz Tryz.prog 100 = some 1 := by kernel_rfl
theorem zz100 : tzero Tryz.prog 100 = some (.nilFunc) := by kernel_rfl
theorem zb100 : tby Tryz.prog 100 = some 8 := by kernel_rfl
theorem zs101 : tsz Tryz.prog 101 = some 1 := by kernel_rfl
theorem zz101 : tzero Tryz.prog 101 = some (.nilFunc) := by kernel_rfl
theorem zb101 : tby Tryz.prog 101 = some 8 := by kernel_rfl
theorem zs102 : tsz Tryz.prog 102 = some 2 := by kernel_rfl
theorem zz102 : tzero Tryz.prog 102 = some (.agg #[.int .i64 (0), .int .i64 (0)]) := by kernel_rfl
theorem zb102 : tby Tryz.prog 102 = some 16 := by kernel_rfl
theorem zp102 : placesOf Tryz.prog 102 = some [(0, 1), (1, 1)] := by kernel_rfl
theorem zs103 : tsz Tryz.prog 103 = some 2 := by kernel_rfl
theorem zz103 : tzero Tryz.prog 103 = some (.agg #[.int .i64 (0), .int .i64 (0)]) := by kernel_rfl
theorem zb103 : tby Tryz.prog 103 = some 16 := by kernel_rfl
theorem zp103 : placesOf Tryz.prog 103 = some [(0, 1), (1, 1)] := by kernel_rfl
theorem zs104 : tsz Tryz.prog 104 = some 1 := by kernel_rfl
theorem zz104 : tzero Tryz.prog 104 = some (.complex .f32 0 0) := by kernel_rfl
theorem zb104 : tby Tryz.prog 104 = some 8 := by kernel_rfl
theorem zs105 : tsz Tryz.prog 105 = some 4 := by kernel_rfl
theorem zz105 : tzero Tryz.prog 105 = some (.agg #[.complex .f32 0 0, .complex .f32 0 0, .complex .f32 0 0, .complex .f32 0 0]) := by kernel_rfl
theorem zb105 : tby Tryz.prog 105 = some 32 := by kernel_rfl
theorem zp105 : placesOf Tryz.prog 105 = some [(0, 1), (1, 1), (2, 1), (3, 1)] := by kernel_rfl
theorem zs106 : tsz Tryz.prog 106 = some 16 := by kernel_rfl
theorem zz106 : tzero Tryz.prog 106 = some (.agg #[.complex .f32 0 0, .complex .f32 0 0, .complex .f32 0 0, .complex .f32 0 0, .complex .f32 0 0, .complex .f32 0 0, .complex .f32 0 0, .complex .f32 0 0, .complex .f32 0 0, .complex .f32 0 0, .complex .f32 0 0, .complex .f32 0 0, .complex .f32 0 0, .complex .f32 0 0, .complex .f32 0 0, .complex .f32 0 0]) := by kernel_rfl
theorem zb106 : tby Tryz.prog 106 = some 128 := by kernel_rfl
theorem zp106 : placesOf Tryz.prog 106 = some [(0, 4), (4, 4), (8, 4), (12, 4)] := by kernel_rfl
theorem zs108 : tsz Tryz.prog 108 = some 1 := by kernel_rfl
theorem zz108 : tzero Tryz.prog 108 = some (.nilFunc) := by kernel_rfl
theorem zb108 : tby Tryz.prog 108 = some 8 := by kernel_rfl
theorem zs109 : tsz Tryz.prog 109 = some 4 := by kernel_rfl
theorem zz109 : tzero Tryz.prog 109 = some (.agg #[.float .f32 0, .float .f32 0, .float .f32 0, .float .f32 0]) := by kernel_rfl
theorem zb109 : tby Tryz.prog 109 = some 16 := by kernel_rfl
theorem zp109 : placesOf Tryz.prog 109 = some [(0, 1), (1, 1), (2, 1), (3, 1)] := by kernel_rfl
theorem zs110 : tsz Tryz.prog 110 = some 16 := by kernel_rfl
theorem zz110 : tzero Tryz.prog 110 = some (.agg #[.float .f32 0, .float .f32 0, .float .f32 0, .float .f32 0, .float .f32 0, .float .f32 0, .float .f32 0, .float .f32 0, .float .f32 0, .float .f32 0, .float .f32 0, .float .f32 0, .float .f32 0, .float .f32 0, .float .f32 0, .float .f32 0]) := by kernel_rfl
theorem zb110 : tby Tryz.prog 110 = some 64 := by kernel_rfl
theorem zp110 : placesOf Tryz.prog 110 = some [(0, 4), (4, 4), (8, 4), (12, 4)] := by kernel_rfl
theorem zs111 : tsz Tryz.prog 111 = some 1 := by kernel_rfl
theorem zz111 : tzero Tryz.prog 111 = some (.nilFunc) := by kernel_rfl
theorem zb111 : tby Tryz.prog 111 = some 8 := by kernel_rfl
theorem zs112 : tsz Tryz.prog 112 = some 1 := by kernel_rfl
theorem zz112 : tzero Tryz.prog 112 = some (.int .u16 (0)) := by kernel_rfl
theorem zb112 : tby Tryz.prog 112 = some 2 := by kernel_rfl
theorem zs114 : tsz Tryz.prog 114 = some 1 := by kernel_rfl
theorem zz114 : tzero Tryz.prog 114 = some (.nilFunc) := by kernel_rfl
theorem zb114 : tby Tryz.prog 114 = some 8 := by kernel_rfl
theorem zs116 : tsz Tryz.prog 116 = some 1 := by kernel_rfl
theorem zz116 : tzero Tryz.prog 116 = some (.nilFunc) := by kernel_rfl
theorem zb116 : tby Tryz.prog 116 = some 8 := by kernel_rfl
theorem zs117 : tsz Tryz.prog 117 = some 1 := by kernel_rfl
theorem zz117 : tzero Tryz.prog 117 = some (.nilFunc) := by kernel_rfl
theorem zb117 : tby Tryz.prog 117 = some 8 := by kernel_rfl
theorem zs118 : tsz Tryz.prog 118 = some 1 := by kernel_rfl
theorem zz118 : tzero Tryz.prog 118 = some (.nilFunc) := by kernel_rfl
theorem zb118 : tby Tryz.prog 118 = some 8 := by kernel_rfl
theorem zs119 : tsz Tryz.prog 119 = some 1 := by kernel_rfl
theorem zz119 : tzero Tryz.prog 119 = some (.nilFunc) := by kernel_rfl
theorem zb119 : tby Tryz.prog 119 = some 8 := by kernel_rfl
theorem zs120 : tsz Tryz.prog 120 = some 1 := by kernel_rfl
theorem zz120 : tzero Tryz.prog 120 = some (.nilFunc) := by kernel_rfl
theorem zb120 : tby Tryz.prog 120 = some 8 := by kernel_rfl
theorem zs121 : tsz Tryz.prog 121 = some 1 := by kernel_rfl
theorem zz121 : tzero Tryz.prog 121 = some (.nilFunc) := by kernel_rfl
theorem zb121 : tby Tryz.prog 121 = some 8 := by kernel_rfl
theorem zs122 : tsz Tryz.prog 122 = some 1 := by kernel_rfl
theorem zz122 : tzero Tryz.prog 122 = some (.nilFunc) := by kernel_rfl
theorem zb122 : tby Tryz.prog 122 = some 8 := by kernel_rfl
theorem zs123 : tsz Tryz.prog 123 = some 8 := by kernel_rfl
theorem zz123 : tzero Tryz.prog 123 = some (.agg #[.int .i64 (0), .int .i64 (0), .int .i64 (0), .int .i64 (0), .int .i64 (0), .int .i64 (0), .int .i64 (0), .int .i64 (0)]) := by kernel_rfl
theorem zb123 : tby Tryz.prog 123 = some 64 := by kernel_rfl
theorem zp123 : placesOf Tryz.prog 123 = some [(0, 2), (2, 2), (4, 2), (6, 2)] := by kernel_rfl
theorem zs124 : tsz Tryz.prog 124 = some 1 := by kernel_rfl
theorem zz124 : tzero Tryz.prog 124 = some (.nilFunc) := by kernel_rfl
theorem zb124 : tby Tryz.prog 124 = some 8 := by kernel_rfl
theorem zs125 : tsz Tryz.prog 125 = some 1 := by kernel_rfl
theorem zz125 : tzero Tryz.prog 125 = some (.nilFunc) := by kernel_rfl
theorem zb125 : tby Tryz.prog 125 = some 8 := by kernel_rfl
theorem zs126 : tsz Tryz.prog 126 = some 1 := by kernel_rfl
theorem zz126 : tzero Tryz.prog 126 = some (.nilFunc) := by kernel_rfl
theorem zb126 : tby Tryz.prog 126 = some 8 := by kernel_rfl
theorem zs127 : tsz Tryz.prog 127 = some 1 := by kernel_rfl
theorem zz127 : tzero Tryz.prog 127 = some (.nilFunc) := by kernel_rfl
theorem zb127 : tby Tryz.prog 127 = some 8 := by kernel_rfl
theorem zs128 : tsz Tryz.prog 128 = some 1 := by kernel_rfl
theorem zz128 : tzero Tryz.prog 128 = some (.nilFunc) := by kernel_rfl
theorem zb128 : tby Tryz.prog 128 = some 8 := by kernel_rfl
theorem zs129 : tsz Tryz.prog 129 = some 1 := by kernel_rfl
theorem zz129 : tzero Tryz.prog 129 = some (.nilFunc) := by kernel_rfl
theorem zb129 : tby Tryz.prog 129 = some 8 := by kernel_rfl
theorem zs130 : tsz Tryz.prog 130 = some 1 := by kernel_rfl
theorem zz130 : tzero Tryz.prog 130 = some (.nilFunc) := by kernel_rfl
theorem zb130 : tby Tryz.prog 130 = some 8 := by kernel_rfl
theorem zs131 : tsz Tryz.prog 131 = some 1 := by kernel_rfl
theorem zz131 : tzero Tryz.prog 131 = some (.nilFunc) := by kernel_rfl
theorem zb131 : tby Tryz.prog 131 = some 8 := by kernel_rfl
theorem zs132 : tsz Tryz.prog 132 = some 1 := by kernel_rfl
theorem zz132 : tzero Tryz.prog 132 = some (.nilFunc) := by kernel_rfl
theorem zb132 : tby Tryz.prog 132 = some 8 := by kernel_rfl
theorem zs133 : tsz Tryz.prog 133 = some 1 := by kernel_rfl
theorem zz133 : tzero Tryz.prog 133 = some (.nilFunc) := by kernel_rfl
theorem zb133 : tby Tryz.prog 133 = some 8 := by kernel_rfl
theorem zs134 : tsz Tryz.prog 134 = some 1 := by kernel_rfl
theorem zz134 : tzero Tryz.prog 134 = some (.nilFunc) := by kernel_rfl
theorem zb134 : tby Tryz.prog 134 = some 8 := by kernel_rfl
theorem zs135 : tsz Tryz.prog 135 = some 1 := by kernel_rfl
theorem zz135 : tzero Tryz.prog 135 = some (.nilFunc) := by kernel_rfl
theorem zb135 : tby Tryz.prog 135 = some 8 := by kernel_rfl
theorem zs136 : tsz Tryz.prog 136 = some 1 := by kernel_rfl
theorem zz136 : tzero Tryz.prog 136 = some (.nilFunc) := by kernel_rfl
theorem zb136 : tby Tryz.prog 136 = some 8 := by kernel_rfl
theorem zs137 : tsz Tryz.prog 137 = some 2 := by kernel_rfl
theorem zz137 : tzero Tryz.prog 137 = some (.agg #[.int .i64 (0), .int .i64 (0)]) := by kernel_rfl
theorem zb137 : tby Tryz.prog 137 = some 16 := by kernel_rfl
theorem zp137 : placesOf Tryz.prog 137 = some [(0, 1), (1, 1)] := by kernel_rfl
theorem zs138 : tsz Tryz.prog 138 = some 1 := by kernel_rfl
theorem zz138 : tzero Tryz.prog 138 = some (.nilFunc) := by kernel_rfl
theorem zb138 : tby Tryz.prog 138 = some 8 := by kernel_rfl
theorem zs139 : tsz Tryz.prog 139 = some 1 := by kernel_rfl
theorem zz139 : tzero Tryz.prog 139 = some (.nilFunc) := by kernel_rfl
theorem zb139 : tby Tryz.prog 139 = some 8 := by kernel_rfl
theorem zs140 : tsz Tryz.prog 140 = some 1 := by kernel_rfl
theorem zz140 : tzero Tryz.prog 140 = some (.nilFunc) := by kernel_rfl
theorem zb140 : tby Tryz.prog 140 = some 8 := by kernel_rfl
theorem zs141 : tsz Tryz.prog 141 = some 1 := by kernel_rfl
theorem zz141 : tzero Tryz.prog 141 = some (.nilFunc) := by kernel_rfl
theorem zb141 : tby Tryz.prog 141 = some 8 := by kernel_rfl
theorem zs142 : tsz Tryz.prog 142 = some 1 := by kernel_rfl
theorem zz142 : tzero Tryz.prog 142 = some (.nilFunc) := by kernel_rfl
theorem zb142 : tby Tryz.prog 142 = some 8 := by kernel_rfl
theorem zs143 : tsz Tryz.prog 143 = some 9 := by kernel_rfl
theorem zz143 : tzero Tryz.prog 143 = some (.agg #[.int .i64 (0), .int .i64 (0), .int .i64 (0), .int .i64 (0), .int .i64 (0), .int .i64 (0), .int .i64 (0), .int .i64 (0), .int .i64 (0)]) := by kernel_rfl
theorem zb143 : tby Tryz.prog 143 = some 72 := by kernel_rfl
theorem zp143 : placesOf Tryz.prog 143 = some [(0, 3), (3, 3), (6, 3)] := by kernel_rfl
theorem zs144 : tsz Tryz.prog 144 = some 9 := by kernel_rfl
theorem zz144 : tzero Tryz.prog 144 = some (.agg #[.int .i64 (0), .int .i64 (0), .int .i64 (0), .int .i64 (0), .int .i64 (0), .int .i64 (0), .int .i64 (0), .int .i64 (0), .int .i64 (0)]) := by kernel_rfl
theorem zb144 : tby Tryz.prog 144 = some 72 := by kernel_rfl
theorem zp144 : placesOf Tryz.prog 144 = some [(0, 3), (3, 3), (6, 3)] := by kernel_rfl
theorem zs146 : tsz Tryz.prog 146 = some 1 := by kernel_rfl
theorem zz146 : tzero Tryz.prog 146 = some (.nilFunc) := by kernel_rfl
theorem zb146 : tby Tryz.prog 146 = some 8 := by kernel_rfl
theorem zs147 : tsz Tryz.prog 147 = some 1 := by kernel_rfl
theorem zz147 : tzero Tryz.prog 147 = some (.nilFunc) := by kernel_rfl
theorem zb147 : tby Tryz.prog 147 = some 8 := by kernel_rfl
theorem zs148 : tsz Tryz.prog 148 = some 1 := by kernel_rfl
theorem zz148 : tzero Tryz.prog 148 = some (.nilFunc) := by kernel_rfl
theorem zb148 : tby Tryz.prog 148 = some 8 := by kernel_rfl
theorem zs149 : tsz Tryz.prog 149 = some 32 := by kernel_rfl
theorem zz149 : tzero Tryz.prog 149 = some (.agg #[.int .i64 (0), .int .i64 (0), .int .i64 (0), .int .i64 (0), .int .i64 (0), .int .i64 (0), .int .i64 (0), .int .i64 (0), .int .i64 (0), .int .i64 (0), .int .i64 (0), .int .i64 (0), .int .i64 (0), .int .i64 (0), .int .i64 (0), .int .i64 (0), .int .i64 (0), .int .i64 (0), .int .i64 (0), .int .i64 (0), .int .i64 (0), .int .i64 (0), .int .i64 (0), .int .i64 (0), .int .i64 (0), .int .i64 (0), .int .i64 (0), .int .i64 (0), .int .i64 (0), .int .i64 (0), .int .i64 (0), .int .i64 (0)]) := by kernel_rfl
theorem zb149 : tby Tryz.prog 149 = some 256 := by kernel_rfl
theorem zp149 : placesOf Tryz.prog 149 = some [(0, 8), (8, 8), (16, 8), (24, 8)] := by kernel_rfl
theorem zs150 : tsz Tryz.prog 150 = some 1 := by kernel_rfl
theorem zz150 : tzero Tryz.prog 150 = some (.nilFunc) := by kernel_rfl
theorem zb150 : tby Tryz.prog 150 = some 8 := by kernel_rfl
theorem zs151 : tsz Tryz.prog 151 = some 1 := by kernel_rfl
theorem zz151 : tzero Tryz.prog 151 = some (.nilFunc) := by kernel_rfl
theorem zb151 : tby Tryz.prog 151 = some 8 := by kernel_rfl
theorem zs152 : tsz Tryz.prog 152 = some 1 := by kernel_rfl
theorem zz152 : tzero Tryz.prog 152 = some (.nilFunc) := by kernel_rfl
theorem zb152 : tby Tryz.prog 152 = some 8 := by kernel_rfl
theorem zs153 : tsz Tryz.prog 153 = some 1 := by kernel_rfl
theorem zz153 : tzero Tryz.prog 153 = some (.nilFunc) := by kernel_rfl
theorem zb153 : tby Tryz.prog 153 = some 8 := by kernel_rfl
theorem zs154 : tsz Tryz.prog 154 = some 1 := by kernel_rfl
theorem zz154 : tzero Tryz.prog 154 = some (.nilFunc) := by kernel_rfl
theorem zb154 : tby Tryz.prog 154 = some 8 := by kernel_rfl
theorem zs155 : tsz Tryz.prog 155 = some 1 := by kernel_rfl
theorem zz155 : tzero Tryz.prog 155 = some (.nilFunc) := by kernel_rfl
theorem zb155 : tby Tryz.prog 155 = some 8 := by kernel_rfl
theorem zs156 : tsz Tryz.prog 156 = some 1 := by kernel_rfl
theorem zz156 : tzero Tryz.prog 156 = some (.nilFunc) := by kernel_rfl
theorem zb156 : tby Tryz.prog 156 = some 8 := by kernel_rfl
theorem zs157 : tsz Tryz.prog 157 = some 1 := by kernel_rfl
theorem zz157 : tzero Tryz.prog 157 = some (.nilFunc) := by kernel_rfl
theorem zb157 : tby Tryz.prog 157 = some 8 := by kernel_rfl
theorem zs158 : tsz Tryz.prog 158 = some 1 := by kernel_rfl
theorem zz158 : tzero Tryz.prog 158 = some (.nilFunc) := by kernel_rfl
theorem zb158 : tby Tryz.prog 158 = some 8 := by kernel_rfl
theorem zs159 : tsz Tryz.prog 159 = some 1 := by kernel_rfl
theorem zz159 : tzero Tryz.prog 159 = some (.nilFunc) := by kernel_rfl
theorem zb159 : tby Tryz.prog 159 = some 8 := by kernel_rfl
theorem zs160 : tsz Tryz.prog 160 = some 1 := by kernel_rfl
theorem zz160 : tzero Tryz.prog 160 = some (.nilFunc) := by kernel_rfl
theorem zb160 : tby Tryz.prog 160 = some 8 := by kernel_rfl
theorem zs161 : tsz Tryz.prog 161 = some 1 := by kernel_rfl
theorem zz161 : tzero Tryz.prog 161 = some (.nilFunc) := by kernel_rfl
theorem zb161 : tby Tryz.prog 161 = some 8 := by kernel_rfl
theorem zs162 : tsz Tryz.prog 162 = some 1 := by kernel_rfl
theorem zz162 : tzero Tryz.prog 162 = some (.nilFunc) := by kernel_rfl
theorem zb162 : tby Tryz.prog 162 = some 8 := by kernel_rfl
theorem zs163 : tsz Tryz.prog 163 = some 1 := by kernel_rfl
theorem zz163 : tzero Tryz.prog 163 = some (.slice none 0 0) := by kernel_rfl
theorem zb163 : tby Tryz.prog 163 = some 24 := by kernel_rfl
theorem zs164 : tsz Tryz.prog 164 = some 1 := by kernel_rfl
theorem zz164 : tzero Tryz.prog 164 = some (.nilFunc) := by kernel_rfl
theorem zb164 : tby Tryz.prog 164 = some 8 := by kernel_rfl
theorem zs165 : tsz Tryz.prog 165 = some 8 := by kernel_rfl
theorem zz165 : tzero Tryz.prog 165 = some (.agg #[.int .i64 (0), .int .i64 (0), .int .i64 (0), .int .i64 (0), .int .i64 (0), .int .i64 (0), .int .i64 (0), .int .i64 (0)]) := by kernel_rfl
theorem zb165 : tby Tryz.prog 165 = some 64 := by kernel_rfl
theorem zp165 : placesOf Tryz.prog 165 = some [(0, 1), (1, 1), (2, 1), (3, 1), (4, 1), (5, 1), (6, 1), (7, 1)] := by kernel_rfl
theorem zs166 : tsz Tryz.prog 166 = some 10 := by kernel_rfl
theorem zz166 : tzero Tryz.prog 166 = some (.agg #[.int .i64 (0), .int .i64 (0), .int .i64 (0), .int .i64 (0), .int .i64 (0), .int .i64 (0), .int .i64 (0), .int .i64 (0), .bool false, .slice none 0 0]) := by kernel_rfl
theorem zb166 : tby Tryz.prog 166 = some 96 := by kernel_rfl
theorem zp166 : placesOf Tryz.prog 166 = some [(0, 8), (8, 1), (9, 1)] := by kernel_rfl
theorem zs167 : tsz Tryz.prog 167 = some 10 := by kernel_rfl
theorem zz167 : tzero Tryz.prog 167 = some (.agg #[.int .i64 (0), .int .i64 (0), .int .i64 (0), .int .i64 (0), .int .i64 (0), .int .i64 (0), .int .i64 (0), .int .i64 (0), .bool false, .slice none 0 0]) := by kernel_rfl
theorem zb167 : tby Tryz.prog 167 = some 96 := by kernel_rfl
theorem zp167 : placesOf Tryz.prog 167 = some [(0, 8), (8, 1), (9, 1)] := by kernel_rfl
theorem zs168 : tsz Tryz.prog 168 = some 1 := by kernel_rfl
theorem zz168 : tzero Tryz.prog 168 = some (.nilFunc) := by kernel_rfl
theorem zb168 : tby Tryz.prog 168 = some 8 := by kernel_rfl
theorem zs169 : tsz Tryz.prog 169 = some 1 := by kernel_rfl
theorem zz169 : tzero Tryz.prog 169 = some (.nilFunc) := by kernel_rfl
theorem zb169 : tby Tryz.prog 169 = some 8 := by kernel_rfl
theorem zs170 : tsz Tryz.prog 170 = some 1 := by kernel_rfl
theorem zz170 : tzero Tryz.prog 170 = some (.nilFunc) := by kernel_rfl
theorem zb170 : tby Tryz.prog 170 = some 8 := by kernel_rfl
theorem zs171 : tsz Tryz.prog 171 = some 1 := by kernel_rfl
theorem zz171 : tzero Tryz.prog 171 = some (.nilFunc) := by kernel_rfl
theorem zb171 : tby Tryz.prog 171 = some 8 := by kernel_rfl
theorem zs172 : tsz Tryz.prog 172 = some 1 := by kernel_rfl
theorem zz172 : tzero Tryz.prog 172 = some (.nilFunc) := by kernel_rfl
theorem zb172 : tby Tryz.prog 172 = some 8 := by kernel_rfl
theorem zs173 : tsz Tryz.prog 173 = some 1 := by kernel_rfl
theorem zz173 : tzero Tryz.prog 173 = some (.nilFunc) := by kernel_rfl
theorem zb173 : tby Tryz.prog 173 = some 8 := by kernel_rfl
theorem zs174 : tsz Tryz.prog 174 = some 1 := by kernel_rfl
theorem zz174 : tzero Tryz.prog 174 = some (.nilFunc) := by kernel_rfl
theorem zb174 : tby Tryz.prog 174 = some 8 := by kernel_rfl
theorem zs175 : tsz Tryz.prog 175 = some 1 := by kernel_rfl
theorem zz175 : tzero Tryz.prog 175 = some (.nilFunc) := by kernel_rfl
theorem zb175 : tby Tryz.prog 175 = some 8 := by kernel_rfl
theorem zs176 : tsz Tryz.prog 176 = some 1 := by kernel_rfl
theorem zz176 : tzero Tryz.prog 176 = some (.nilFunc) := by kernel_rfl
theorem zb176 : tby Tryz.prog 176 = some 8 := by kernel_rfl
theorem zs177 : tsz Tryz.prog 177 = some 1 := by kernel_rfl
theorem zz177 : tzero Tryz.prog 177 = some (.nilFunc) := by kernel_rfl
theorem zb177 : tby Tryz.prog 177 = some 8 := by kernel_rfl
theorem zs178 : tsz Tryz.prog 178 = some 1 := by kernel_rfl
theorem zz178 : tzero Tryz.prog 178 = some (.slice none 0 0) := by kernel_rfl
theorem zb178 : tby Tryz.prog 178 = some 24 := by kernel_rfl
theorem zs179 : tsz Tryz.prog 179 = some 1 := by kernel_rfl
theorem zz179 : tzero Tryz.prog 179 = some (.nilFunc) := by kernel_rfl
theorem zb179 : tby Tryz.prog 179 = some 8 := by kernel_rfl
theorem zs180 : tsz Tryz.prog 180 = some 1 := by kernel_rfl
theorem zz180 : tzero Tryz.prog 180 = some (.nilFunc) := by kernel_rfl
theorem zb180 : tby Tryz.prog 180 = some 8 := by kernel_rfl
theorem zs181 : tsz Tryz.prog 181 = some 1 := by kernel_rfl
theorem zz181 : tzero Tryz.prog 181 = some (.nilFunc) := by kernel_rfl
theorem zb181 : tby Tryz.prog 181 = some 8 := by kernel_rfl
theorem zs182 : tsz Tryz.prog 182 = some 1 := by kernel_rfl
theorem zz182 : tzero Tryz.prog 182 = some (.nilFunc) := by kernel_rfl
theorem zb182 : tby Tryz.prog 182 = some 8 := by kernel_rfl
theorem zs183 : tsz Tryz.prog 183 = some 1 := by kernel_rfl
theorem zz183 : tzero Tryz.prog 183 = some (.nilFunc) := by kernel_rfl
theorem zb183 : tby Tryz.prog 183 = some 8 := by kernel_rfl
theorem zs184 : tsz Tryz.prog 184 = some 1 := by kernel_rfl
theorem zz184 : tzero Tryz.prog 184 = some (.nilFunc) := by kernel_rfl
theorem zb184 : tby Tryz.prog 184 = some 8 := by kernel_rfl
theorem zs185 : tsz Tryz.prog 185 = some 1 := by kernel_rfl
theorem zz185 : tzero Tryz.prog 185 = some (.nilFunc) := by kernel_rfl
theorem zb185 : tby Tryz.prog 185 = some 8 := by kernel_rfl
theorem zs186 : tsz Tryz.prog 186 = some 1 := by kernel_rfl
theorem zz186 : tzero Tryz.prog 186 = some (.nilFunc) := by kernel_rfl
theorem zb186 : tby Tryz.prog 186 = some 8 := by kernel_rfl
theorem zs187 : tsz Tryz.prog 187 = some 1 := by kernel_rfl
theorem zz187 : tzero Tryz.prog 187 = some (.slice none 0 0) := by kernel_rfl
theorem zb187 : tby Tryz.prog 187 = some 24 := by kernel_rfl
theorem zs188 : tsz Tryz.prog 188 = some 1 := by kernel_rfl
theorem zz188 : tzero Tryz.prog 188 = some (.nilFunc) := by kernel_rfl
theorem zb188 : tby Tryz.prog 188 = some 8 := by kernel_rfl
theorem zs189 : tsz Tryz.prog 189 = some 1 := by kernel_rfl
theorem zz189 : tzero Tryz.prog 189 = some (.nilFunc) := by kernel_rfl
theorem zb189 : tby Tryz.prog 189 = some 8 := by kernel_rfl
theorem zs190 : tsz Tryz.prog 190 = some 1 := by kernel_rfl
theorem zz190 : tzero Tryz.prog 190 = some (.nilFunc) := by kernel_rfl
theorem zb190 : tby Tryz.prog 190 = some 8 := by kernel_rfl
theorem zs191 : tsz Tryz.prog 191 = some 2 := by kernel_rfl
theorem zz191 : tzero Tryz.prog 191 = some (.agg #[.int .i64 (0), .int .i64 (0)]) := by kernel_rfl
theorem zb191 : tby Tryz.prog 191 = some 16 := by kernel_rfl
theorem zp191 : placesOf Tryz.prog 191 = some [(0, 1), (1, 1)] := by kernel_rfl
theorem zs192 : tsz Tryz.prog 192 = some 2 := by kernel_rfl
theorem zz192 : tzero Tryz.prog 192 = some (.agg #[.int .i64 (0), .int .i64 (0)]) := by kernel_rfl
theorem zb192 : tby Tryz.prog 192 = some 16 := by kernel_rfl
theorem zp192 : placesOf Tryz.prog 192 = some [(0, 1), (1, 1)] := by kernel_rfl
theorem zs193 : tsz Tryz.prog 193 = some 16 := by kernel_rfl
theorem zz193 : tzero Tryz.prog 193 = some (.agg #[.int .i64 (0), .int .i64 (0), .int .i64 (0), .int .i64 (0), .int .i64 (0), .int .i64 (0), .int .i64 (0), .int .i64 (0), .int .i64 (0), .int .i64 (0), .int .i64 (0), .int .i64 (0), .int .i64 (0), .int .i64 (0), .int .i64 (0), .int .i64 (0)]) := by kernel_rfl
theorem zb193 : tby Tryz.prog 193 = some 128 := by kernel_rfl
theorem zp193 : placesOf Tryz.prog 193 = some [(0, 2), (2, 2), (4, 2), (6, 2), (8, 2), (10, 2), (12, 2), (14, 2)] := by kernel_rfl
theorem zs194 : tsz Tryz.prog 194 = some 1 := by kernel_rfl
theorem zz194 : tzero Tryz.prog 194 = some (.nilFunc) := by kernel_rfl
theorem zb194 : tby Tryz.prog 194 = some 8 := by kernel_rfl
theorem zs195 : tsz Tryz.prog 195 = some 1 := by kernel_rfl
theorem zz195 : tzero Tryz.prog 195 = some (.nilFunc) := by kernel_rfl
theorem zb195 : tby Tryz.prog 195 = some 8 := by kernel_rfl
theorem zs196 : tsz Tryz.prog 196 = some 1 := by kernel_rfl
theorem zz196 : tzero Tryz.prog 196 = some (.nilFunc) := by kernel_rfl
theorem zb196 : tby Tryz.prog 196 = some 8 := by kernel_rfl
theorem zs197 : tsz Tryz.prog 197 = some 1 := by kernel_rfl
theorem zz197 : tzero Tryz.prog 197 = some (.nilFunc) := by kernel_rfl
theorem zb197 : tby Tryz.prog 197 = some 8 := by kernel_rfl
theorem zs198 : tsz Tryz.prog 198 = some 1 := by kernel_rfl
theorem zz198 : tzero Tryz.prog 198 = some (.slice none 0 0) := by kernel_rfl
theorem zb198 : tby Tryz.prog 198 = some 24 := by kernel_rfl
theorem zs199 : tsz Tryz.prog 199 = some 1 := by kernel_rfl
theorem zz199 : tzero Tryz.prog 199 = some (.nilFunc) := by kernel_rfl
theorem zb199 : tby Tryz.prog 199 = some 8 := by kernel_rfl
theorem zs200 : tsz Tryz.prog 200 = some 1 := by kernel_rfl
theorem zz200 : tzero Tryz.prog 200 = some (.slice none 0 0) := by kernel_rfl
theorem zb200 : tby Tryz.prog 200 = some 24 := by kernel_rfl
theorem zs201 : tsz Tryz.prog 201 = some 1 := by kernel_rfl
theorem zz201 : tzero Tryz.prog 201 = some (.nilFunc) := by kernel_rfl
theorem zb201 : tby Tryz.prog 201 = some 8 := by kernel_rfl
theorem zs202 : tsz Tryz.prog 202 = some 1 := by kernel_rfl
theorem zz202 : tzero Tryz.prog 202 = some (.pointer none) := by kernel_rfl
theorem zb202 : tby Tryz.prog 202 = some 8 := by kernel_rfl
theorem zs203 : tsz Tryz.prog 203 = some 1 := by kernel_rfl
theorem zz203 : tzero Tryz.prog 203 = some (.slice none 0 0) := by kernel_rfl
theorem zb203 : tby Tryz.prog 203 = some 24 := by kernel_rfl
theorem zs204 : tsz Tryz.prog 204 = some 2 := by kernel_rfl
theorem zz204 : tzero Tryz.prog 204 = some (.agg #[.pointer none, .slice none 0 0]) := by kernel_rfl
theorem zb204 : tby Tryz.prog 204 = some 32 := by kernel_rfl
theorem zp204 : placesOf Tryz.prog 204 = some [(0, 1), (1, 1)] := by kernel_rfl
theorem zs205 : tsz Tryz.prog 205 = some 2 := by kernel_rfl
theorem zz205 : tzero Tryz.prog 205 = some (.agg #[.pointer none, .slice none 0 0]) := by kernel_rfl
theorem zb205 : tby Tryz.prog 205 = some 32 := by kernel_rfl
theorem zp205 : placesOf Tryz.prog 205 = some [(0, 1), (1, 1)] := by kernel_rfl
theorem zs206 : tsz Tryz.prog 206 = some 1 := by kernel_rfl
theorem zz206 : tzero Tryz.prog 206 = some (.nilFunc) := by kernel_rfl
theorem zb206 : tby Tryz.prog 206 = some 8 := by kernel_rfl
theorem zs207 : tsz Tryz.prog 207 = some 1 := by kernel_rfl
theorem zz207 : tzero Tryz.prog 207 = some (.nilIface) := by kernel_rfl
theorem zb207 : tby Tryz.prog 207 = some 16 := by kernel_rfl
theorem zs208 : tsz Tryz.prog 208 = some 1 := by kernel_rfl
theorem zz208 : tzero Tryz.prog 208 = some (.nilIface) := by kernel_rfl
theorem zb208 : tby Tryz.prog 208 = some 16 := by kernel_rfl
theorem zs210 : tsz Tryz.prog 210 = some 1 := by kernel_rfl
theorem zz210 : tzero Tryz.prog 210 = some (.nilFunc) := by kernel_rfl
theorem zb210 : tby Tryz.prog 210 = some 8 := by kernel_rfl
theorem zs211 : tsz Tryz.prog 211 = some 1 := by kernel_rfl
theorem zz211 : tzero Tryz.prog 211 = some (.nilFunc) := by kernel_rfl
theorem zb211 : tby Tryz.prog 211 = some 8 := by kernel_rfl
theorem zs212 : tsz Tryz.prog 212 = some 1 := by kernel_rfl
theorem zz212 : tzero Tryz.prog 212 = some (.nilFunc) := by kernel_rfl
theorem zb212 : tby Tryz.prog 212 = some 8 := by kernel_rfl
theorem zs213 : tsz Tryz.prog 213 = some 1 := by kernel_rfl
theorem zz213 : tzero Tryz.prog 213 = some (.nilFunc) := by kernel_rfl
theorem zb213 : tby Tryz.prog 213 = some 8 := by kernel_rfl
theorem zs214 : tsz Tryz.prog 214 = some 1 := by kernel_rfl
theorem zz214 : tzero Tryz.prog 214 = some (.nilFunc) := by kernel_rfl
theorem zb214 : tby Tryz.prog 214 = some 8 := by kernel_rfl
theorem zs215 : tsz Tryz.prog 215 = some 1 := by kernel_rfl
theorem zz215 : tzero Tryz.prog 215 = some (.nilFunc) := by kernel_rfl
theorem zb215 : tby Tryz.prog 215 = some 8 := by kernel_rfl
theorem zs216 : tsz Tryz.prog 216 = some 1 := by kernel_rfl
theorem zz216 : tzero Tryz.prog 216 = some (.int .u64 (0)) := by kernel_rfl
theorem zb216 : tby Tryz.prog 216 = some 8 := by kernel_rfl
theorem zs217 : tsz Tryz.prog 217 = some 1 := by kernel_rfl
theorem zz217 : tzero Tryz.prog 217 = some (.nilFunc) := by kernel_rfl
theorem zb217 : tby Tryz.prog 217 = some 8 := by kernel_rfl
theorem zs218 : tsz Tryz.prog 218 = some 1 := by kernel_rfl
theorem zz218 : tzero Tryz.prog 218 = some (.int .u64 (0)) := by kernel_rfl
theorem zb218 : tby Tryz.prog 218 = some 8 := by kernel_rfl
theorem zs219 : tsz Tryz.prog 219 = some 1 := by kernel_rfl
theorem zz219 : tzero Tryz.prog 219 = some (.nilFunc) := by kernel_rfl
theorem zb219 : tby Tryz.prog 219 = some 8 := by kernel_rfl
theorem zs220 : tsz Tryz.prog 220 = some 1 := by kernel_rfl
theorem zz220 : tzero Tryz.prog 220 = some (.pointer none) := by kernel_rfl
theorem zb220 : tby Tryz.prog 220 = some 8 := by kernel_rfl
theorem zs221 : tsz Tryz.prog 221 = some 1 := by kernel_rfl
theorem zz221 : tzero Tryz.prog 221 = some (.nilFunc) := by kernel_rfl
theorem zb221 : tby Tryz.prog 221 = some 8 := by kernel_rfl
theorem zs222 : tsz Tryz.prog 222 = some 1 := by kernel_rfl
theorem zz222 : tzero Tryz.prog 222 = some (.nilFunc) := by kernel_rfl
theorem zb222 : tby Tryz.prog 222 = some 8 := by kernel_rfl
theorem zs223 : tsz Tryz.prog 223 = some 1 := by kernel_rfl
theorem zz223 : tzero Tryz.prog 223 = some (.int .i64 (0)) := by kernel_rfl
theorem zb223 : tby Tryz.prog 223 = some 8 := by kernel_rfl
theorem zs225 : tsz Tryz.prog 225 = some 1 := by kernel_rfl
theorem zz225 : tzero Tryz.prog 225 = some (.nilFunc) := by kernel_rfl
theorem zb225 : tby Tryz.prog 225 = some 8 := by kernel_rfl
theorem zs226 : tsz Tryz.prog 226 = some 1 := by kernel_rfl
theorem zz226 : tzero Tryz.prog 226 = some (.nilFunc) := by kernel_rfl
theorem zb226 : tby Tryz.prog 226 = some 8 := by kernel_rfl
theorem zs227 : tsz Tryz.prog 227 = some 1 := by kernel_rfl
theorem zz227 : tzero Tryz.prog 227 = some (.nilFunc) := by kernel_rfl
theorem zb227 : tby Tryz.prog 227 = some 8 := by kernel_rfl
theorem zs228 : tsz Tryz.prog 228 = some 1 := by kernel_rfl
theorem zz228 : tzero Tryz.prog 228 = some (.nilFunc) := by kernel_rfl
theorem zb228 : tby Tryz.prog 228 = some 8 := by kernel_rfl
theorem zs230 : tsz Tryz.prog 230 = some 1 := by kernel_rfl
theorem zz230 : tzero Tryz.prog 230 = some (.nilFunc) := by kernel_rfl
theorem zb230 : tby Tryz.prog 230 = some 8 := by kernel_rfl
theorem zs231 : tsz Tryz.prog 231 = some 1 := by kernel_rfl
theorem zz231 : tzero Tryz.prog 231 = some (.nilFunc) := by kernel_rfl
theorem zb231 : tby Tryz.prog 231 = some 8 := by kernel_rfl
theorem zs232 : tsz Tryz.prog 232 = some 1 := by kernel_rfl
theorem zz232 : tzero Tryz.prog 232 = some (.int .u32 (0)) := by kernel_rfl
theorem zb232 : tby Tryz.prog 232 = some 4 := by kernel_rfl
theorem zs233 : tsz Tryz.prog 233 = some 1 := by kernel_rfl
theorem zz233 : tzero Tryz.prog 233 = some (.nilFunc) := by kernel_rfl
theorem zb233 : tby Tryz.prog 233 = some 8 := by kernel_rfl
theorem zs234 : tsz Tryz.prog 234 = some 1 := by kernel_rfl
theorem zz234 : tzero Tryz.prog 234 = some (.nilFunc) := by kernel_rfl
theorem zb234 : tby Tryz.prog 234 = some 8 := by kernel_rfl
theorem zb235 : tby Tryz.prog 235 = some 8 := by kernel_rfl
theorem zs236 : tsz Tryz.prog 236 = some 1 := by kernel_rfl
theorem zz236 : tzero Tryz.prog 236 = some (.nilFunc) := by kernel_rfl
theorem zb236 : tby Tryz.prog 236 = some 8 := by kernel_rfl
theorem zs237 : tsz Tryz.prog 237 = some 1 := by kernel_rfl
theorem zz237 : tzero Tryz.prog 237 = some (.nilFunc) := by kernel_rfl
theorem zb237 : tby Tryz.prog 237 = some 8 := by kernel_rfl
theorem zs238 : tsz Tryz.prog 238 = some 24 := by kernel_rfl
theorem zz238 : tzero Tryz.prog 238 = some (.agg #[.int .u8 (0), .int .u8 (0), .int .u8 (0), .int .u8 (0), .int .u8 (0), .int .u8 (0), .int .u8 (0), .int .u8 (0), .int .u8 (0), .int .u8 (0), .int .u8 (0), .int .u8 (0), .int .u8 (0), .int .u8 (0), .int .u8 (0), .int .u8 (0), .int .u8 (0), .int .u8 (0), .int .u8 (0), .int .u8 (0), .int .u8 (0), .int .u8 (0), .int .u8 (0), .int .u8 (0)]) := by kernel_rfl
theorem zb238 : tby Tryz.prog 238 = some 24 := by kernel_rfl
theorem zp238 : placesOf Tryz.prog 238 = some [(0, 1), (1, 1), (2, 1), (3, 1), (4, 1), (5, 1), (6, 1), (7, 1), (8, 1), (9, 1), (10, 1), (11, 1), (12, 1), (13, 1), (14, 1), (15, 1), (16, 1), (17, 1), (18, 1), (19, 1), (20, 1), (21, 1), (22, 1), (23, 1)] := by kernel_rfl
theorem zs239 : tsz Tryz.prog 239 = some 1 := by kernel_rfl
theorem zz239 : tzero Tryz.prog 239 = some (.nilFunc) := by kernel_rfl
theorem zb239 : tby Tryz.prog 239 = some 8 := by kernel_rfl
theorem zs241 : tsz Tryz.prog 241 = some 1 := by kernel_rfl
theorem zz241 : tzero Tryz.prog 241 = some (.nilFunc) := by kernel_rfl
theorem zb241 : tby Tryz.prog 241 = some 8 := by kernel_rfl
theorem zs243 : tsz Tryz.prog 243 = some 1 := by kernel_rfl
theorem zz243 : tzero Tryz.prog 243 = some (.nilFunc) := by kernel_rfl
theorem zb243 : tby Tryz.prog 243 = some 8 := by kernel_rfl
theorem zs244 : tsz Tryz.prog 244 = some 1 := by kernel_rfl
theorem zz244 : tzero Tryz.prog 244 = some (.int .u64 (0)) := by kernel_rfl
theorem zb244 : tby Tryz.prog 244 = some 8 := by kernel_rfl
theorem zs245 : tsz Tryz.prog 245 = some 1 := by kernel_rfl
theorem zz245 : tzero Tryz.prog 245 = some (.nilFunc) := by kernel_rfl
theorem zb245 : tby Tryz.prog 245 = some 8 := by kernel_rfl
theorem zs246 : tsz Tryz.prog 246 = some 1 := by kernel_rfl
theorem zz246 : tzero Tryz.prog 246 = some (.nilFunc) := by kernel_rfl
theorem zb246 : tby Tryz.prog 246 = some 8 := by kernel_rfl
theorem zs247 : tsz Tryz.prog 247 = some 1 := by kernel_rfl
theorem zz247 : tzero Tryz.prog 247 = some (.nilFunc) := by kernel_rfl
theorem zb247 : tby Tryz.prog 247 = some 8 := by kernel_rfl
theorem zs248 : tsz Tryz.prog 248 = some 1 := by kernel_rfl
theorem zz248 : tzero Tryz.prog 248 = some (.pointer none) := by kernel_rfl
theorem zb248 : tby Tryz.prog 248 = some 8 := by kernel_rfl
theorem zs249 : tsz Tryz.prog 249 = some 1 := by kernel_rfl
theorem zz249 : tzero Tryz.prog 249 = some (.nilFunc) := by kernel_rfl
theorem zb249 : tby Tryz.prog 249 = some 8 := by kernel_rfl
theorem zs250 : tsz Tryz.prog 250 = some 1 := by kernel_rfl
theorem zz250 : tzero Tryz.prog 250 = some (.nilFunc) := by kernel_rfl
theorem zb250 : tby Tryz.prog 250 = some 8 := by kernel_rfl
theorem zs251 : tsz Tryz.prog 251 = some 1 := by kernel_rfl
theorem zz251 : tzero Tryz.prog 251 = some (.nilFunc) := by kernel_rfl
theorem zb251 : tby Tryz.prog 251 = some 8 := by kernel_rfl
theorem zs252 : tsz Tryz.prog 252 = some 20 := by kernel_rfl
theorem zz252 : tzero Tryz.prog 252 = some (.agg #[.int .u64 (0), .int .u64 (0), .int .u64 (0), .int .u64 (0), .int .u64 (0), .int .u64 (0), .int .u64 (0), .int .u64 (0), .int .u64 (0), .int .u64 (0), .int .u64 (0), .int .u64 (0), .int .u64 (0), .int .u64 (0), .int .u64 (0), .int .u64 (0), .int .u64 (0), .int .u64 (0), .int .u64 (0), .int .u64 (0)]) := by kernel_rfl
theorem zb252 : tby Tryz.prog 252 = some 160 := by kernel_rfl
theorem zp252 : placesOf Tryz.prog 252 = some [(0, 1), (1, 1), (2, 1), (3, 1), (4, 1), (5, 1), (6, 1), (7, 1), (8, 1), (9, 1), (10, 1), (11, 1), (12, 1), (13, 1), (14, 1), (15, 1), (16, 1), (17, 1), (18, 1), (19, 1)] := by kernel_rfl
theorem zs253 : tsz Tryz.prog 253 = some 65 := by kernel_rfl
theorem zz253 : tzero Tryz.prog 253 = some (.agg #[.int .u8 (0), .int .u8 (0), .int .u8 (0), .int .u8 (0), .int .u8 (0), .int .u8 (0), .int .u8 (0), .int .u8 (0), .int .u8 (0), .int .u8 (0), .int .u8 (0), .int .u8 (0), .int .u8 (0), .int .u8 (0), .int .u8 (0), .int .u8 (0), .int .u8 (0), .int .u8 (0), .int .u8 (0), .int .u8 (0), .int .u8 (0), .int .u8 (0), .int .u8 (0), .int .u8 (0), .int .u8 (0), .int .u8 (0), .int .u8 (0), .int .u8 (0), .int .u8 (0), .int .u8 (0), .int .u8 (0), .int .u8 (0), .int .u8 (0), .int .u8 (0), .int .u8 (0), .int .u8 (0), .int .u8 (0), .int .u8 (0), .int .u8 (0), .int .u8 (0), .int .u8 (0), .int .u8 (0), .int .u8 (0), .int .u8 (0), .int .u8 (0), .int .u8 (0), .int .u8 (0), .int .u8 (0), .int .u8 (0), .int .u8 (0), .int .u8 (0), .int .u8 (0), .int .u8 (0), .int .u8 (0), .int .u8 (0), .int .u8 (0), .int .u8 (0), .int .u8 (0), .int .u8 (0), .int .u8 (0), .int .u8 (0), .int .u8 (0), .int .u8 (0), .int .u8 (0), .int .u8 (0)]) := by kernel_rfl
theorem zb253 : tby Tryz.prog 253 = some 65 := by kernel_rfl
theorem zs254 : tsz Tryz.prog 254 = some 1 := by kernel_rfl
theorem zz254 : tzero Tryz.prog 254 = some (.pointer none) := by kernel_rfl
theorem zb254 : tby Tryz.prog 254 = some 8 := by kernel_rfl
theorem zs256 : tsz Tryz.prog 256 = some 1 := by kernel_rfl
theorem zz256 : tzero Tryz.prog 256 = some (.nilFunc) := by kernel_rfl
theorem zb256 : tby Tryz.prog 256 = some 8 := by kernel_rfl
theorem zs257 : tsz Tryz.prog 257 = some 32 := by kernel_rfl
theorem zz257 : tzero Tryz.prog 257 = some (.agg #[.int .u8 (0), .int .u8 (0), .int .u8 (0), .int .u8 (0), .int .u8 (0), .int .u8 (0), .int .u8 (0), .int .u8 (0), .int .u8 (0), .int .u8 (0), .int .u8 (0), .int .u8 (0), .int .u8 (0), .int .u8 (0), .int .u8 (0), .int .u8 (0), .int .u8 (0), .int .u8 (0), .int .u8 (0), .int .u8 (0), .int .u8 (0), .int .u8 (0), .int .u8 (0), .int .u8 (0), .int .u8 (0), .int .u8 (0), .int .u8 (0), .int .u8 (0), .int .u8 (0), .int .u8 (0), .int .u8 (0), .int .u8 (0)]) := by kernel_rfl
theorem zb257 : tby Tryz.prog 257 = some 32 := by kernel_rfl
theorem zp257 : placesOf Tryz.prog 257 = some [(0, 1), (1, 1), (2, 1), (3, 1), (4, 1), (5, 1), (6, 1), (7, 1), (8, 1), (9, 1), (10, 1), (11, 1), (12, 1), (13, 1), (14, 1), (15, 1), (16, 1), (17, 1), (18, 1), (19, 1), (20, 1), (21, 1), (22, 1), (23, 1), (24, 1), (25, 1), (26, 1), (27, 1), (28, 1), (29, 1), (30, 1), (31, 1)] := by kernel_rfl
theorem zs258 : tsz Tryz.prog 258 = some 64 := by kernel_rfl
theorem zz258 : tzero Tryz.prog 258 = some (.agg #[.int .u8 (0), .int .u8 (0), .int .u8 (0), .int .u8 (0), .int .u8 (0), .int .u8 (0), .int .u8 (0), .int .u8 (0), .int .u8 (0), .int .u8 (0), .int .u8 (0), .int .u8 (0), .int .u8 (0), .int .u8 (0), .int .u8 (0), .int .u8 (0), .int .u8 (0), .int .u8 (0), .int .u8 (0), .int .u8 (0), .int .u8 (0), .int .u8 (0), .int .u8 (0), .int .u8 (0), .int .u8 (0), .int .u8 (0), .int .u8 (0), .int .u8 (0), .int .u8 (0), .int .u8 (0), .int .u8 (0), .int .u8 (0), .int .u8 (0), .int .u8 (0), .int .u8 (0), .int .u8 (0), .int .u8 (0), .int .u8 (0), .int .u8 (0), .int .u8 (0), .int .u8 (0), .int .u8 (0), .int .u8 (0), .int .u8 (0), .int .u8 (0), .int .u8 (0), .int .u8 (0), .int .u8 (0), .int .u8 (0), .int .u8 (0), .int .u8 (0), .int .u8 (0), .int .u8 (0), .int .u8 (0), .int .u8 (0), .int .u8 (0), .int .u8 (0), .int .u8 (0), .int .u8 (0), .int .u8 (0), .int .u8 (0), .int .u8 (0), .int .u8 (0), .int .u8 (0)]) := by kernel_rfl
theorem zb258 : tby Tryz.prog 258 = some 64 := by kernel_rfl
theorem zs259 : tsz Tryz.prog 259 = some 4 := by kernel_rfl
theorem zz259 : tzero Tryz.prog 259 = some (.agg #[.pointer none, .pointer none, .pointer none, .string .empty]) := by kernel_rfl
theorem zb259 : tby Tryz.prog 259 = some 40 := by kernel_rfl
theorem zp259 : placesOf Tryz.prog 259 = some [(0, 1), (1, 1), (2, 1), (3, 1)] := by kernel_rfl
theorem zs260 : tsz Tryz.prog 260 = some 4 := by kernel_rfl
theorem zz260 : tzero Tryz.prog 260 = some (.agg #[.pointer none, .pointer none, .pointer none, .string .empty]) := by kernel_rfl
theorem zb260 : tby Tryz.prog 260 = some 40 := by kernel_rfl
theorem zp260 : placesOf Tryz.prog 260 = some [(0, 1), (1, 1), (2, 1), (3, 1)] := by kernel_rfl
theorem zs261 : tsz Tryz.prog 261 = some 0 := by kernel_rfl
theorem zz261 : tzero Tryz.prog 261 = some (.agg #[]) := by kernel_rfl
theorem zp261 : placesOf Tryz.prog 261 = some [] := by kernel_rfl
theorem zs262 : tsz Tryz.prog 262 = some 0 := by kernel_rfl
theorem zz262 : tzero Tryz.prog 262 = some (.agg #[]) := by kernel_rfl
theorem zp262 : placesOf Tryz.prog 262 = some [(0, 0)] := by kernel_rfl
theorem zs263 : tsz Tryz.prog 263 = some 0 := by kernel_rfl
theorem zz263 : tzero Tryz.prog 263 = some (.agg #[]) := by kernel_rfl
theorem zp263 : placesOf Tryz.prog 263 = some [(0, 0)] := by kernel_rfl
theorem zs264 : tsz Tryz.prog 264 = some 1 := by kernel_rfl
theorem zz264 : tzero Tryz.prog 264 = some (.nilFunc) := by kernel_rfl
theorem zb264 : tby Tryz.prog 264 = some 8 := by kernel_rfl
theorem zs265 : tsz Tryz.prog 265 = some 1 := by kernel_rfl
theorem zz265 : tzero Tryz.prog 265 = some (.int .u8 (0)) := by kernel_rfl
theorem zb265 : tby Tryz.prog 265 = some 1 := by kernel_rfl
theorem zs266 : tsz Tryz.prog 266 = some 1 := by kernel_rfl
theorem zz266 : tzero Tryz.prog 266 = some (.int .u8 (0)) := by kernel_rfl
theorem zb266 : tby Tryz.prog 266 = some 1 := by kernel_rfl
theorem zs267 : tsz Tryz.prog 267 = some 1 := by kernel_rfl
theorem zz267 : tzero Tryz.prog 267 = some (.nilFunc) := by kernel_rfl
theorem zb267 : tby Tryz.prog 267 = some 8 := by kernel_rfl
theorem zs268 : tsz Tryz.prog 268 = some 1 := by kernel_rfl
theorem zz268 : tzero Tryz.prog 268 = some (.int .i32 (0)) := by kernel_rfl
theorem zb268 : tby Tryz.prog 268 = some 4 := by kernel_rfl
theorem zs269 : tsz Tryz.prog 269 = some 1 := by kernel_rfl
theorem zz269 : tzero Tryz.prog 269 = some (.int .i32 (0)) := by kernel_rfl
theorem zb269 : tby Tryz.prog 269 = some 4 := by kernel_rfl
theorem zs270 : tsz Tryz.prog 270 = some 11 := by kernel_rfl
theorem zz270 : tzero Tryz.prog 270 = some (.agg #[.int .u64 (0), .int .u64 (0), .int .u32 (0), .int .u8 (0), .int .u8 (0), .int .u8 (0), .int .u8 (0), .nilFunc, .pointer none, .int .i32 (0), .int .i32 (0)]) := by kernel_rfl
theorem zb270 : tby Tryz.prog 270 = some 48 := by kernel_rfl
theorem zp270 : placesOf Tryz.prog 270 = some [(0, 1), (1, 1), (2, 1), (3, 1), (4, 1), (5, 1), (6, 1), (7, 1), (8, 1), (9, 1), (10, 1)] := by kernel_rfl
theorem zs271 : tsz Tryz.prog 271 = some 11 := by kernel_rfl
theorem zz271 : tzero Tryz.prog 271 = some (.agg #[.int .u64 (0), .int .u64 (0), .int .u32 (0), .int .u8 (0), .int .u8 (0), .int .u8 (0), .int .u8 (0), .nilFunc, .pointer none, .int .i32 (0), .int .i32 (0)]) := by kernel_rfl
theorem zb271 : tby Tryz.prog 271 = some 48 := by kernel_rfl
theorem zp271 : placesOf Tryz.prog 271 = some [(0, 1), (1, 1), (2, 1), (3, 1), (4, 1), (5, 1), (6, 1), (7, 1), (8, 1), (9, 1), (10, 1)] := by kernel_rfl
end Go.Proofs.YtdfpadokepmknaaGreatDoor

namespace Go.Proofs.YtdfpadokepmknaaGreatDoor
open Go Go.Ab

/-- The cells of the tables that the law's road reads. -/
def tabHeader : List Value := [.int .i64 (-100000), .int .i64 100000, .int .i64 (-100000), .int .i64 100000, .int .i64 (-100000), .int .i64 100000, .int .i64 (-100000), .int .i64 100000, .int .i64 0, .int .i64 100000, .int .i64 (-999999999), .int .i64 999999999, .int .i64 (-999999999), .int .i64 999999999, .int .i64 (-999999999), .int .i64 999999999]
def tabPowers : List Value := [.int .i64 1, .int .i64 0, .int .i64 0, .int .i64 1, .int .i64 (-1), .int .i64 0, .int .i64 0, .int .i64 (-1)]
def tabPow10 : List Value := [.int .u64 1, .int .u64 10, .int .u64 100, .int .u64 1000, .int .u64 10000, .int .u64 100000, .int .u64 1000000, .int .u64 10000000, .int .u64 100000000, .int .u64 1000000000, .int .u64 10000000000, .int .u64 100000000000, .int .u64 1000000000000, .int .u64 10000000000000, .int .u64 100000000000000, .int .u64 1000000000000000, .int .u64 10000000000000000, .int .u64 100000000000000000, .int .u64 1000000000000000000, .int .u64 10000000000000000000]
def u8s (l : List Int) : List Value := l.map (.int .u8)
def tab32 : List Value := u8s [0, 1, 28, 2, 29, 14, 24, 3, 30, 22, 20, 15, 25, 17, 4, 8, 31, 27, 13, 23, 21, 19, 16, 7, 26, 12, 18, 6, 11, 5, 10, 9]
def tab64 : List Value := u8s [0, 1, 56, 2, 57, 49, 28, 3, 61, 58, 42, 50, 38, 29, 17, 4, 62, 47, 59, 36, 45, 43, 51, 22, 53, 39, 33, 30, 24, 18, 12, 5, 63, 55, 48, 27, 60, 41, 37, 16, 46, 35, 44, 21, 52, 32, 23, 11, 54, 26, 40, 15, 34, 20, 31, 10, 25, 14, 19, 9, 13, 8, 7, 6]
def tabAt : Nat → List Value
  | 0 => tabPowers
  | 1 => tabHeader
  | 4 => tabPow10
  | 5 => tab32
  | 6 => tab64
  | _ => []
/-- What the laid tables hold. -/
def laidBase : Base := fun a => match a.spot with
  | none => (tabAt a.block)[a.off]?
  | some _ => none

/-- The functions without a body, or of Go's own that are answered at once. -/
noncomputable def pureExt (s : Array Value → Sem Value) (xs : List Value) (h : H) : Option (Value × H) :=
  match xs.all gd with
  | true => match prun Tryz.prog (s ⟨xs⟩) with
    | some v => match gd v with
      | true => some (v, h)
      | false => none
    | none => none
  | false => none
noncomputable def ext0 : Ext := fun f => match f with
  | 172 => some (pureExt (Extern.MathFloor.toIntegral "math.archTrunc" .zero))
  | 174 => some (pureExt Extern.MathFloatBits.float64frombits)
  | 175 => some (pureExt Extern.MathFloatBits.float64bits)
  | 179 => some (pureExt (Extern.MathFloor.toIntegral "math.archFloor" .down))
  | 193 => some fun xs h => match xs with | [x] => some (x, h) | _ => none
  | 194 => some fun xs h => match xs with
    | [.int .i64 (.ofNat n)] => match Nat.ble n 70368744177664 with
      | true => some (.slice (some ⟨h.nx, 0, some 0⟩) n n, h.push (.cells (List.replicate n undef) 5 1 true))
      | false => none
    | _ => none
  | _ => none

theorem pure_sound {B : Nat} {G : Base} {f : FuncId} {fn : Func} {s : Array Value → Sem Value} (hf : Tryz.prog.funcs[f]? = some fn) (hname : (fn.name == "runtime.NumGoroutine") = false)
    (hb : fn.body.isNone = true) (hn : Extern.findNext fn = none) (he : Extern.find fn = some s) {args : List Value} {h : H} {v : Value} {h' : H} (hx : pureExt s args h = some (v, h')) {ρ : Ctx} {w : World} {args' : List Value}
    (R : Rep B G ρ h w) (A : LRel ρ args args') (c : Frame) (cs : List Frame) : Ab.Ends Tryz.prog B G ρ h w c cs (callFunc f args'.toArray) v h' := by
  unfold pureExt at hx
  split at hx
  · rename_i hg
    split at hx
    · rename_i u hu
      split at hx
      · rename_i hgu
        cases hx
        have e : args' = args := list_eq_of A.1 fun j x y hj hj' => (A.2 j x y hj hj').gd_eq (List.all_eq_true.1 hg x (List.mem_of_getElem? hj))
        subst e
        refine ⟨v, w, ρ, .gd_refl hgu, R, .refl _ _ _, .value v, w, ?_, rfl, rfl⟩
        rw [run_callFunc_extern hf hname hb hn he, show args'.toArray = ⟨args'⟩ from rfl, prun_run hu w]
        rfl
      · cases hx
    · cases hx
  · cases hx

theorem ext_sound {B : Nat} {G : Base} : ExtSound Tryz.prog B G ext0 := by
  intro f x hx args h v h' hv ρ w args' R A c cs
  unfold ext0 at hx
  split at hx
  · cases hx
    exact pure_sound (fn := Tryz.prog.funcs[172]!) (by kernel_rfl) (by kernel_rfl) (by kernel_rfl) (by kernel_rfl) (by kernel_rfl) hv R A c cs
  · cases hx
    exact pure_sound (fn := Tryz.prog.funcs[174]!) (by kernel_rfl) (by kernel_rfl) (by kernel_rfl) (by kernel_rfl) (by kernel_rfl) hv R A c cs
  · cases hx
    exact pure_sound (fn := Tryz.prog.funcs[175]!) (by kernel_rfl) (by kernel_rfl) (by kernel_rfl) (by kernel_rfl) (by kernel_rfl) hv R A c cs
  · cases hx
    exact pure_sound (fn := Tryz.prog.funcs[179]!) (by kernel_rfl) (by kernel_rfl) (by kernel_rfl) (by kernel_rfl) (by kernel_rfl) hv R A c cs
  · cases hx
    have hr := fun (args : Array Value) (w : World) => run_callFunc_extern (P := Tryz.prog) (f := 193) (fn := Tryz.prog.funcs[193]!) (e := Extern.AbiNoEscape.same) (by kernel_rfl) (by kernel_rfl) (by kernel_rfl) (by kernel_rfl) (by kernel_rfl) args w
    match args, args', A with
    | [x], [x'], A =>
      simp only [Option.some.injEq, Prod.mk.injEq] at hv
      obtain ⟨rfl, rfl⟩ := hv
      exact ⟨x', w, ρ, A.2 0 _ _ rfl rfl, R, .refl _ _ _, .value x', w, by rw [hr]; rfl, rfl, rfl⟩
    | [], _, _ => simp at hv
    | _ :: _ :: _, _, _ => simp at hv
    | [_], [], A => exact absurd A.1 (by simp)
    | [_], _ :: _ :: _, A => exact absurd A.1 (by simp)
  · cases hx
    have hr := fun (args : Array Value) (w : World) => run_callFunc_extern (P := Tryz.prog) (f := 194) (fn := Tryz.prog.funcs[194]!) (e := Extern.BytealgMakeNoZero.makeNoZero #[3] #[203]) (by kernel_rfl) (by kernel_rfl) (by kernel_rfl) (by kernel_rfl) (by kernel_rfl) args w
    dsimp only at hv
    split at hv
    · rename_i n
      split at hv
      · rename_i hn
        have hn := Nat.le_of_ble_eq_true hn
        simp only [Option.some.injEq, Prod.mk.injEq] at hv
        obtain ⟨rfl, rfl⟩ := hv
        match args', A with
        | [x'], A =>
          have hx : x' = .int .i64 (n : Int) := (A.2 0 _ _ rfl rfl).gd_eq rfl
          subst hx
          obtain ⟨cs', q1, q2, _, _⟩ := Lib.run_makeNoZero_cap (P := Tryz.prog) w #[3] 203 5 (by kernel_rfl) n (by omega)
          obtain ⟨ρ', r1, _, r3, r4⟩ := new_cells R 5 1 true (c := List.replicate n undef) (c' := cs'.toList.take n) (cr := cs')
            ⟨by simp; omega, fun j x y hj _ => by
              have := List.mem_of_getElem? hj
              rw [List.eq_of_mem_replicate this]; exact .top _⟩
            (by simp) (fun h => by cases h) (w1 := w.drew.drew.alloc (.cells cs' 5)) rfl rfl rfl rfl
          refine ⟨.slice (some ⟨w.heap.size, 0, none⟩) n cs'.size, _, ρ', .osl h.nx 0 n n cs'.size _ r1 (.inr ⟨rfl, by simp, q2, by simp⟩), r3, r4, .value (.slice (some ⟨w.heap.size, 0, none⟩) n cs'.size), w.drew.drew.alloc (.cells cs' 5), ?_, rfl, rfl⟩
          rw [hr]
          show (Sem.run Tryz.prog (Extern.BytealgMakeNoZero.makeNoZero #[3] #[203] #[.int .i64 n]) w).andThen _ = _
          rw [q1]; rfl
        | [], A => exact absurd A.1 (by simp)
        | _ :: _ :: _, A => exact absurd A.1 (by simp)
      · cases hv
    · cases hv
  · cases hx
theorem no_count : NoCount Tryz.prog := by
  have h : (Tryz.prog.funcs.toList.all fun fn => !(fn.name == "runtime.NumGoroutine")) = true := by kernel_rfl
  intro f fn hf _
  have := List.all_eq_true.1 h fn (Array.mem_toList_iff.2 (Array.mem_of_getElem? hf))
  simpa using this
theorem mixed : Tryz.prog.follows .mixedOrders = true := by kernel_rfl
/-- WHAT THE EVALUATOR TELLS OF THIS PROGRAM IS SO. -/
theorem door_sound {B : Nat} {G : Base} (n : Nat) : CallSound Tryz.prog B G (ev Tryz.prog G ext0 n) := ev_sound mixed ext_sound no_count n
end Go.Proofs.YtdfpadokepmknaaGreatDoor

namespace Go.Proofs.YtdfpadokepmknaaGreatDoor
open Go Go.Ab Go.RowKit

theorem tab_base {W : World} (g : Nat) (l : List Value) (hl : l.all gd = true) (h : ∃ e fr, W.heap[g]? = some (.cells ⟨l⟩ e fr)) (o : Nat) (v : Value) (hv : l[o]? = some v) :
    g < W.heap.size ∧ W.cell? ⟨g, o, none⟩ = some v ∧ VRel (fun _ => none) v v := by
  obtain ⟨e, fr, hh⟩ := h
  refine ⟨(Array.getElem?_eq_some_iff.1 hh).1, ?_, .gd_refl (List.all_eq_true.1 hl v (List.mem_of_getElem? hv))⟩
  simp [World.cell?, hh, hv]

theorem base_ok {W : World} (h : laidMetH Tryz.prog Rows.filterAdjointRow.laid W) : BaseOk W.heap.size laidBase W := by
  have h' : laidMet Tryz.prog Rows.filterAdjointRow.laid W := h
  have t0 := laid_tab (n := 4) h' (name := "moveout/common.powers") (d := Rows.laid_moveout_common_powers) (by simp [Rows.filterAdjointRow]) (g := 0) (by kernel_rfl) (t := (Tryz.prog.globals[0]!).type) (by kernel_rfl) (by kernel_rfl) (l := tabPowers) (by rfl)
  have t1 := laid_tab (n := 4) h' (name := "moveout/trace.headerRanges") (d := Rows.laid_moveout_trace_headerRanges) (by simp [Rows.filterAdjointRow]) (g := 1) (by kernel_rfl) (t := (Tryz.prog.globals[1]!).type) (by kernel_rfl) (by kernel_rfl) (l := tabHeader) (by rfl)
  have t4 := laid_tab (n := 4) h' (name := "internal/strconv.uint64pow10") (d := Rows.laid_internal_strconv_uint64pow10) (by simp [Rows.filterAdjointRow]) (g := 4) (by kernel_rfl) (t := (Tryz.prog.globals[4]!).type) (by kernel_rfl) (by kernel_rfl) (l := tabPow10) (by rfl)
  have t5 := laid_tab (n := 4) h' (name := "math/bits.deBruijn32tab") (d := Rows.laid_math_bits_deBruijn32tab) (by simp [Rows.filterAdjointRow]) (g := 5) (by kernel_rfl) (t := (Tryz.prog.globals[5]!).type) (by kernel_rfl) (by kernel_rfl) (l := tab32) (by rfl)
  have t6 := laid_tab (n := 4) h' (name := "math/bits.deBruijn64tab") (d := Rows.laid_math_bits_deBruijn64tab) (by simp [Rows.filterAdjointRow]) (g := 6) (by kernel_rfl) (t := (Tryz.prog.globals[6]!).type) (by kernel_rfl) (by kernel_rfl) (l := tab64) (by rfl)
  refine ⟨fun a v e => ?_, Nat.le_refl _⟩
  obtain ⟨blk, off, spot⟩ := a
  unfold laidBase at e
  cases spot with
  | some s => cases e
  | none =>
    simp only [tabAt] at e
    split at e
    · obtain ⟨q1, q2, q3⟩ := tab_base 0 tabPowers (by rfl) t0 off v e; exact ⟨rfl, q1, v, q2, q3⟩
    · obtain ⟨q1, q2, q3⟩ := tab_base 1 tabHeader (by rfl) t1 off v e; exact ⟨rfl, q1, v, q2, q3⟩
    · obtain ⟨q1, q2, q3⟩ := tab_base 4 tabPow10 (by rfl) t4 off v e; exact ⟨rfl, q1, v, q2, q3⟩
    · obtain ⟨q1, q2, q3⟩ := tab_base 5 tab32 (by rfl) t5 off v e; exact ⟨rfl, q1, v, q2, q3⟩
    · obtain ⟨q1, q2, q3⟩ := tab_base 6 tab64 (by rfl) t6 off v e; exact ⟨rfl, q1, v, q2, q3⟩
    · simp at e

end Go.Proofs.YtdfpadokepmknaaGreatDoor
