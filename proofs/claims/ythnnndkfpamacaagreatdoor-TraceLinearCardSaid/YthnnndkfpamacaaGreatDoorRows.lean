/-
  NARROWER THAN 'FOR EVERY INPUT', by the rows' own cells (each row's printed sentence says how): TraceBasics: laid · TraceShots: laid · TraceCuts: laid · TraceSums: laid · TraceLists: laid · TraceTexts: laid · TraceStreams: laid · TraceWhole: laid · TraceLinear: laid · TraceTaps: laid · TraceWaves: laid · TraceBack: laid · TraceSalvaged: laid.
  DERIVED. THE GIVEN ROWS OF THIS SEAT. 13 by the template 'for every input the law returns true; each argument reads behind the call as it read before'; 0 by the template 'total and deterministic' (their statements: YthnnndkfpamacaaGreatDoorTotals.lean).
  GIVEN WITH THE SEED: the statements are not yours to turn. If you find one false, say at which input.
  Laid BY PROGRAM, IN A SANDBOX (cutbox-rows.mjs): the forced cells as the released guide's own fill.sh prints them over the translation c08313c20b0df1c0… (all of the seat's roots in one cut). By AI agents, Wed Nov 11 2026. No macro, syntax, notation, axiom, sorry.
-/
import Derived.Test.YthnnndkfpamacaaGreatDoorChecked
import GoSem.PinnedTables
import GoSem.Claim
import GoSem.ClaimJoined
import GoSem.ClaimMapViews
import Derived.JoinedTies
import Derived.KernelRfl
namespace Go.Proofs.YthnnndkfpamacaaGreatDoor
/- THE CELL 'sum', in the pinned program and in every row, IS THE sha256 OF THE DUMP (.gsa) THAT YthnnndkfpamacaaGreatDoorProg.lean LOADS. Nothing in Lean hashes anything: it is a label: what it is worth is what the hold of that sum in a sandbox is worth. -/
noncomputable def Tryz.pinned : Pinned := { name := "ythnnndkfpamacaagreatdoor", sum := "c08313c20b0df1c0a21b56c32f07cf90e228f8c087c1ecbc0acda194e09ed669", checked := Tryz.checked }
namespace Rows
def none {H : Type} : Left H := { results := [], args := [] }

/- WHAT THE LISTED PACKAGE-LEVEL VARIABLES READ AS WHEN THE CALL BEGINS. Each datum BY PROGRAM (the guide's laid-datum.mjs) off the statement by which the dump's own 'gosem.cut.vars' lays the variable. In a bare row this is a premise. The card (YthnnndkfpamacaaGreatDoorCards.lean) ties it to the program's text. -/
def laid_math_bits_deBruijn32tab {H : Type} : DataW H := .agg [.lit (.int .u8 0), .lit (.int .u8 1), .lit (.int .u8 28), .lit (.int .u8 2), .lit (.int .u8 29), .lit (.int .u8 14), .lit (.int .u8 24), .lit (.int .u8 3), .lit (.int .u8 30), .lit (.int .u8 22), .lit (.int .u8 20), .lit (.int .u8 15), .lit (.int .u8 25), .lit (.int .u8 17), .lit (.int .u8 4), .lit (.int .u8 8), .lit (.int .u8 31), .lit (.int .u8 27), .lit (.int .u8 13), .lit (.int .u8 23), .lit (.int .u8 21), .lit (.int .u8 19), .lit (.int .u8 16), .lit (.int .u8 7), .lit (.int .u8 26), .lit (.int .u8 12), .lit (.int .u8 18), .lit (.int .u8 6), .lit (.int .u8 11), .lit (.int .u8 5), .lit (.int .u8 10), .lit (.int .u8 9)]
def laid_math_bits_deBruijn64tab {H : Type} : DataW H := .agg [.lit (.int .u8 0), .lit (.int .u8 1), .lit (.int .u8 56), .lit (.int .u8 2), .lit (.int .u8 57), .lit (.int .u8 49), .lit (.int .u8 28), .lit (.int .u8 3), .lit (.int .u8 61), .lit (.int .u8 58), .lit (.int .u8 42), .lit (.int .u8 50), .lit (.int .u8 38), .lit (.int .u8 29), .lit (.int .u8 17), .lit (.int .u8 4), .lit (.int .u8 62), .lit (.int .u8 47), .lit (.int .u8 59), .lit (.int .u8 36), .lit (.int .u8 45), .lit (.int .u8 43), .lit (.int .u8 51), .lit (.int .u8 22), .lit (.int .u8 53), .lit (.int .u8 39), .lit (.int .u8 33), .lit (.int .u8 30), .lit (.int .u8 24), .lit (.int .u8 18), .lit (.int .u8 12), .lit (.int .u8 5), .lit (.int .u8 63), .lit (.int .u8 55), .lit (.int .u8 48), .lit (.int .u8 27), .lit (.int .u8 60), .lit (.int .u8 41), .lit (.int .u8 37), .lit (.int .u8 16), .lit (.int .u8 46), .lit (.int .u8 35), .lit (.int .u8 44), .lit (.int .u8 21), .lit (.int .u8 52), .lit (.int .u8 32), .lit (.int .u8 23), .lit (.int .u8 11), .lit (.int .u8 54), .lit (.int .u8 26), .lit (.int .u8 40), .lit (.int .u8 15), .lit (.int .u8 34), .lit (.int .u8 20), .lit (.int .u8 31), .lit (.int .u8 10), .lit (.int .u8 25), .lit (.int .u8 14), .lit (.int .u8 19), .lit (.int .u8 9), .lit (.int .u8 13), .lit (.int .u8 8), .lit (.int .u8 7), .lit (.int .u8 6)]
def laid_internal_strconv_uint64pow10 {H : Type} : DataW H := .agg [.lit (.int .u64 1), .lit (.int .u64 10), .lit (.int .u64 100), .lit (.int .u64 1000), .lit (.int .u64 10000), .lit (.int .u64 100000), .lit (.int .u64 1000000), .lit (.int .u64 10000000), .lit (.int .u64 100000000), .lit (.int .u64 1000000000), .lit (.int .u64 10000000000), .lit (.int .u64 100000000000), .lit (.int .u64 1000000000000), .lit (.int .u64 10000000000000), .lit (.int .u64 100000000000000), .lit (.int .u64 1000000000000000), .lit (.int .u64 10000000000000000), .lit (.int .u64 100000000000000000), .lit (.int .u64 1000000000000000000), .lit (.int .u64 10000000000000000000)]
def laid_moveout_trace_headerRanges {H : Type} : DataW H := .agg [.agg [.lit (.int .i64 (-100000)), .lit (.int .i64 100000)], .agg [.lit (.int .i64 (-100000)), .lit (.int .i64 100000)], .agg [.lit (.int .i64 (-100000)), .lit (.int .i64 100000)], .agg [.lit (.int .i64 (-100000)), .lit (.int .i64 100000)], .agg [.lit (.int .i64 0), .lit (.int .i64 100000)], .agg [.lit (.int .i64 (-999999999)), .lit (.int .i64 999999999)], .agg [.lit (.int .i64 (-999999999)), .lit (.int .i64 999999999)], .agg [.lit (.int .i64 (-999999999)), .lit (.int .i64 999999999)]]
def laid_moveout_trace_powers {H : Type} : DataW H := .agg [.agg [.lit (.int .i64 1), .lit (.int .i64 0)], .agg [.lit (.int .i64 0), .lit (.int .i64 1)], .agg [.lit (.int .i64 (-1)), .lit (.int .i64 0)], .agg [.lit (.int .i64 0), .lit (.int .i64 (-1))]]
def laid_unicode_utf8_acceptRanges {H : Type} : DataW H := .agg [.agg [.lit (.int .u8 128), .lit (.int .u8 191)], .agg [.lit (.int .u8 160), .lit (.int .u8 191)], .agg [.lit (.int .u8 128), .lit (.int .u8 159)], .agg [.lit (.int .u8 144), .lit (.int .u8 191)], .agg [.lit (.int .u8 128), .lit (.int .u8 143)], .agg [.lit (.int .u8 0), .lit (.int .u8 0)], .agg [.lit (.int .u8 0), .lit (.int .u8 0)], .agg [.lit (.int .u8 0), .lit (.int .u8 0)], .agg [.lit (.int .u8 0), .lit (.int .u8 0)], .agg [.lit (.int .u8 0), .lit (.int .u8 0)], .agg [.lit (.int .u8 0), .lit (.int .u8 0)], .agg [.lit (.int .u8 0), .lit (.int .u8 0)], .agg [.lit (.int .u8 0), .lit (.int .u8 0)], .agg [.lit (.int .u8 0), .lit (.int .u8 0)], .agg [.lit (.int .u8 0), .lit (.int .u8 0)], .agg [.lit (.int .u8 0), .lit (.int .u8 0)]]
def laid_strconv_ErrRange {H : Type} : DataW H := .iface "*errors.errorString" (.ptr (.agg [.lit (.string [118, 97, 108, 117, 101, 32, 111, 117, 116, 32, 111, 102, 32, 114, 97, 110, 103, 101])]))
def laid_strconv_ErrSyntax {H : Type} : DataW H := .iface "*errors.errorString" (.ptr (.agg [.lit (.string [105, 110, 118, 97, 108, 105, 100, 32, 115, 121, 110, 116, 97, 120])]))
/-- One of Go's own tables, pinned by name: the form's constant. -/
def laid_unicode_utf8_first : DataW Unit := Go.Pinned.utf8First

/-- 'moveoutlaw01.TraceBasics': WHATEVER THE INPUT: true; the input reads as it did. -/
def traceBasicsSpec : ChangeSpec := { name := "traceBasics", fn := fun _ => fun
  | [d1, d2, d3] => { results := [.lit (.bool true)], args := [d1, d2, d3] }
  | _ => none }
def traceBasicsRow : OpenClaim := { program := "ythnnndkfpamacaagreatdoor", sum := "c08313c20b0df1c0a21b56c32f07cf90e228f8c087c1ecbc0acda194e09ed669", func := "moveout/moveoutlaw01.TraceBasics", spec := "traceBasics", inPlace := ["math.Float64bits", "math.Float64frombits", "math.archTrunc", "internal/abi.NoEscape", "internal/bytealg.MakeNoZero", "math.Float32bits", "math.Float32frombits", "math.archFloor"], unfollowed := true, recurses := true, named := ["moveout/trace.headerRanges", "moveout/trace.powers", "internal/strconv.uint64pow10", "math/bits.deBruijn32tab", "math/bits.deBruijn64tab"], apart := false, laid := [("math/bits.deBruijn32tab", laid_math_bits_deBruijn32tab), ("math/bits.deBruijn64tab", laid_math_bits_deBruijn64tab), ("internal/strconv.uint64pow10", laid_internal_strconv_uint64pow10), ("moveout/trace.headerRanges", laid_moveout_trace_headerRanges), ("moveout/trace.powers", laid_moveout_trace_powers)] }
def TraceBasicsSaid : Prop := traceBasicsRow.holds Tryz.pinned (OpenSpec.ofChange traceBasicsSpec)

/-- ITS FALSE NEIGHBOUR: 'it returns false'. Refute it at one input. -/
def traceBasicsWrong : ChangeSpec := { name := "traceBasics", fn := fun _ => fun
  | [d1, d2, d3] => { results := [.lit (.bool false)], args := [d1, d2, d3] }
  | _ => none }
def TraceBasicsWrongFalsely : Prop := traceBasicsRow.holds Tryz.pinned (OpenSpec.ofChange traceBasicsWrong)

/-- 'moveoutlaw01.TraceShots': WHATEVER THE INPUT: true; the input reads as it did. -/
def traceShotsSpec : ChangeSpec := { name := "traceShots", fn := fun _ => fun
  | [d1, d2] => { results := [.lit (.bool true)], args := [d1, d2] }
  | _ => none }
def traceShotsRow : OpenClaim := { program := "ythnnndkfpamacaagreatdoor", sum := "c08313c20b0df1c0a21b56c32f07cf90e228f8c087c1ecbc0acda194e09ed669", func := "moveout/moveoutlaw01.TraceShots", spec := "traceShots", inPlace := ["math.Float64bits", "math.Float64frombits", "math.archTrunc", "internal/abi.NoEscape", "internal/bytealg.MakeNoZero", "math.Float32bits", "math.Float32frombits", "math.archFloor"], unfollowed := true, recurses := true, named := ["moveout/trace.headerRanges", "moveout/trace.powers", "internal/strconv.uint64pow10", "math/bits.deBruijn32tab", "math/bits.deBruijn64tab"], apart := false, laid := [("math/bits.deBruijn32tab", laid_math_bits_deBruijn32tab), ("math/bits.deBruijn64tab", laid_math_bits_deBruijn64tab), ("internal/strconv.uint64pow10", laid_internal_strconv_uint64pow10), ("moveout/trace.headerRanges", laid_moveout_trace_headerRanges), ("moveout/trace.powers", laid_moveout_trace_powers)] }
def TraceShotsSaid : Prop := traceShotsRow.holds Tryz.pinned (OpenSpec.ofChange traceShotsSpec)

/-- ITS FALSE NEIGHBOUR: 'it returns false'. Refute it at one input. -/
def traceShotsWrong : ChangeSpec := { name := "traceShots", fn := fun _ => fun
  | [d1, d2] => { results := [.lit (.bool false)], args := [d1, d2] }
  | _ => none }
def TraceShotsWrongFalsely : Prop := traceShotsRow.holds Tryz.pinned (OpenSpec.ofChange traceShotsWrong)

/-- 'moveoutlaw01.TraceCuts': WHATEVER THE INPUT: true; the input reads as it did. -/
def traceCutsSpec : ChangeSpec := { name := "traceCuts", fn := fun _ => fun
  | [d1, d2, d3] => { results := [.lit (.bool true)], args := [d1, d2, d3] }
  | _ => none }
def traceCutsRow : OpenClaim := { program := "ythnnndkfpamacaagreatdoor", sum := "c08313c20b0df1c0a21b56c32f07cf90e228f8c087c1ecbc0acda194e09ed669", func := "moveout/moveoutlaw01.TraceCuts", spec := "traceCuts", inPlace := ["math.Float64bits", "math.Float64frombits", "math.archTrunc", "internal/abi.NoEscape", "internal/bytealg.MakeNoZero", "math.Float32bits", "math.Float32frombits", "math.archFloor"], unfollowed := true, recurses := true, named := ["moveout/trace.headerRanges", "moveout/trace.powers", "internal/strconv.uint64pow10", "math/bits.deBruijn32tab", "math/bits.deBruijn64tab"], apart := false, laid := [("math/bits.deBruijn32tab", laid_math_bits_deBruijn32tab), ("math/bits.deBruijn64tab", laid_math_bits_deBruijn64tab), ("internal/strconv.uint64pow10", laid_internal_strconv_uint64pow10), ("moveout/trace.headerRanges", laid_moveout_trace_headerRanges), ("moveout/trace.powers", laid_moveout_trace_powers)] }
def TraceCutsSaid : Prop := traceCutsRow.holds Tryz.pinned (OpenSpec.ofChange traceCutsSpec)

/-- ITS FALSE NEIGHBOUR: 'it returns false'. Refute it at one input. -/
def traceCutsWrong : ChangeSpec := { name := "traceCuts", fn := fun _ => fun
  | [d1, d2, d3] => { results := [.lit (.bool false)], args := [d1, d2, d3] }
  | _ => none }
def TraceCutsWrongFalsely : Prop := traceCutsRow.holds Tryz.pinned (OpenSpec.ofChange traceCutsWrong)

/-- 'moveoutlaw01.TraceSums': WHATEVER THE INPUT: true; the input reads as it did. -/
def traceSumsSpec : ChangeSpec := { name := "traceSums", fn := fun _ => fun
  | [d1, d2, d3] => { results := [.lit (.bool true)], args := [d1, d2, d3] }
  | _ => none }
def traceSumsRow : OpenClaim := { program := "ythnnndkfpamacaagreatdoor", sum := "c08313c20b0df1c0a21b56c32f07cf90e228f8c087c1ecbc0acda194e09ed669", func := "moveout/moveoutlaw01.TraceSums", spec := "traceSums", inPlace := ["math.Float64bits", "math.Float64frombits", "math.archTrunc", "internal/abi.NoEscape", "internal/bytealg.MakeNoZero", "math.Float32bits", "math.Float32frombits", "math.archFloor"], unfollowed := true, recurses := true, named := ["moveout/trace.headerRanges", "moveout/trace.powers", "internal/strconv.uint64pow10", "math/bits.deBruijn32tab", "math/bits.deBruijn64tab"], apart := false, laid := [("math/bits.deBruijn32tab", laid_math_bits_deBruijn32tab), ("math/bits.deBruijn64tab", laid_math_bits_deBruijn64tab), ("internal/strconv.uint64pow10", laid_internal_strconv_uint64pow10), ("moveout/trace.headerRanges", laid_moveout_trace_headerRanges), ("moveout/trace.powers", laid_moveout_trace_powers)] }
def TraceSumsSaid : Prop := traceSumsRow.holds Tryz.pinned (OpenSpec.ofChange traceSumsSpec)

/-- ITS FALSE NEIGHBOUR: 'it returns false'. Refute it at one input. -/
def traceSumsWrong : ChangeSpec := { name := "traceSums", fn := fun _ => fun
  | [d1, d2, d3] => { results := [.lit (.bool false)], args := [d1, d2, d3] }
  | _ => none }
def TraceSumsWrongFalsely : Prop := traceSumsRow.holds Tryz.pinned (OpenSpec.ofChange traceSumsWrong)

/-- 'moveoutlaw01.TraceLists': WHATEVER THE INPUT: true; the input reads as it did. -/
def traceListsSpec : ChangeSpec := { name := "traceLists", fn := fun _ => fun
  | [d1, d2, d3] => { results := [.lit (.bool true)], args := [d1, d2, d3] }
  | _ => none }
def traceListsRow : OpenClaim := { program := "ythnnndkfpamacaagreatdoor", sum := "c08313c20b0df1c0a21b56c32f07cf90e228f8c087c1ecbc0acda194e09ed669", func := "moveout/moveoutlaw01.TraceLists", spec := "traceLists", inPlace := ["math.Float64bits", "math.Float64frombits", "math.archTrunc", "internal/abi.NoEscape", "internal/bytealg.MakeNoZero", "math.Float32bits", "math.Float32frombits", "math.archFloor"], unfollowed := true, recurses := true, named := ["moveout/trace.headerRanges", "moveout/trace.powers", "internal/strconv.uint64pow10", "math/bits.deBruijn32tab", "math/bits.deBruijn64tab"], apart := false, laid := [("math/bits.deBruijn32tab", laid_math_bits_deBruijn32tab), ("math/bits.deBruijn64tab", laid_math_bits_deBruijn64tab), ("internal/strconv.uint64pow10", laid_internal_strconv_uint64pow10), ("moveout/trace.headerRanges", laid_moveout_trace_headerRanges), ("moveout/trace.powers", laid_moveout_trace_powers)] }
def TraceListsSaid : Prop := traceListsRow.holds Tryz.pinned (OpenSpec.ofChange traceListsSpec)

/-- ITS FALSE NEIGHBOUR: 'it returns false'. Refute it at one input. -/
def traceListsWrong : ChangeSpec := { name := "traceLists", fn := fun _ => fun
  | [d1, d2, d3] => { results := [.lit (.bool false)], args := [d1, d2, d3] }
  | _ => none }
def TraceListsWrongFalsely : Prop := traceListsRow.holds Tryz.pinned (OpenSpec.ofChange traceListsWrong)

/-- 'moveoutlaw01.TraceTexts': WHATEVER THE INPUT: true; the input reads as it did. -/
def traceTextsSpec : ChangeSpec := { name := "traceTexts", fn := fun _ => fun
  | [d1, d2] => { results := [.lit (.bool true)], args := [d1, d2] }
  | _ => none }
def traceTextsRow : OpenClaim := { program := "ythnnndkfpamacaagreatdoor", sum := "c08313c20b0df1c0a21b56c32f07cf90e228f8c087c1ecbc0acda194e09ed669", func := "moveout/moveoutlaw01.TraceTexts", spec := "traceTexts", inPlace := ["math.Float64bits", "math.Float64frombits", "math.archTrunc", "internal/abi.NoEscape", "internal/bytealg.MakeNoZero", "math.Float32bits", "math.Float32frombits", "internal/bytealg.CountString", "internal/bytealg.IndexByteString", "internal/bytealg.IndexString", "math.archFloor"], unfollowed := true, recurses := true, named := ["moveout/trace.headerRanges", "moveout/trace.powers", "internal/strconv.uint64pow10", "math/bits.deBruijn32tab", "math/bits.deBruijn64tab", "unicode/utf8.first", "unicode/utf8.acceptRanges", "internal/bytealg.MaxLen", "strconv.ErrSyntax", "strconv.ErrRange"], apart := false, laid := [("math/bits.deBruijn32tab", laid_math_bits_deBruijn32tab), ("math/bits.deBruijn64tab", laid_math_bits_deBruijn64tab), ("internal/strconv.uint64pow10", laid_internal_strconv_uint64pow10), ("unicode/utf8.acceptRanges", laid_unicode_utf8_acceptRanges), ("strconv.ErrRange", laid_strconv_ErrRange), ("strconv.ErrSyntax", laid_strconv_ErrSyntax), ("moveout/trace.headerRanges", laid_moveout_trace_headerRanges), ("moveout/trace.powers", laid_moveout_trace_powers), ("unicode/utf8.first", laid_unicode_utf8_first)] }
def TraceTextsSaid : Prop := traceTextsRow.holds Tryz.pinned (OpenSpec.ofChange traceTextsSpec)

/-- ITS FALSE NEIGHBOUR: 'it returns false'. Refute it at one input. -/
def traceTextsWrong : ChangeSpec := { name := "traceTexts", fn := fun _ => fun
  | [d1, d2] => { results := [.lit (.bool false)], args := [d1, d2] }
  | _ => none }
def TraceTextsWrongFalsely : Prop := traceTextsRow.holds Tryz.pinned (OpenSpec.ofChange traceTextsWrong)

/-- 'moveoutlaw01.TraceStreams': WHATEVER THE INPUT: true; the input reads as it did. -/
def traceStreamsSpec : ChangeSpec := { name := "traceStreams", fn := fun _ => fun
  | [d1, d2] => { results := [.lit (.bool true)], args := [d1, d2] }
  | _ => none }
def traceStreamsRow : OpenClaim := { program := "ythnnndkfpamacaagreatdoor", sum := "c08313c20b0df1c0a21b56c32f07cf90e228f8c087c1ecbc0acda194e09ed669", func := "moveout/moveoutlaw01.TraceStreams", spec := "traceStreams", inPlace := ["math.Float64bits", "math.Float64frombits", "math.archTrunc", "internal/abi.NoEscape", "internal/bytealg.MakeNoZero", "math.Float32bits", "math.Float32frombits", "math.archFloor"], unfollowed := true, recurses := true, named := ["moveout/trace.headerRanges", "moveout/trace.powers", "internal/strconv.uint64pow10", "math/bits.deBruijn32tab", "math/bits.deBruijn64tab"], apart := false, laid := [("math/bits.deBruijn32tab", laid_math_bits_deBruijn32tab), ("math/bits.deBruijn64tab", laid_math_bits_deBruijn64tab), ("internal/strconv.uint64pow10", laid_internal_strconv_uint64pow10), ("moveout/trace.headerRanges", laid_moveout_trace_headerRanges), ("moveout/trace.powers", laid_moveout_trace_powers)] }
def TraceStreamsSaid : Prop := traceStreamsRow.holds Tryz.pinned (OpenSpec.ofChange traceStreamsSpec)

/-- ITS FALSE NEIGHBOUR: 'it returns false'. Refute it at one input. -/
def traceStreamsWrong : ChangeSpec := { name := "traceStreams", fn := fun _ => fun
  | [d1, d2] => { results := [.lit (.bool false)], args := [d1, d2] }
  | _ => none }
def TraceStreamsWrongFalsely : Prop := traceStreamsRow.holds Tryz.pinned (OpenSpec.ofChange traceStreamsWrong)

/-- 'moveoutlaw01.TraceWhole': WHATEVER THE INPUT: true; the input reads as it did. -/
def traceWholeSpec : ChangeSpec := { name := "traceWhole", fn := fun _ => fun
  | [d1, d2] => { results := [.lit (.bool true)], args := [d1, d2] }
  | _ => none }
def traceWholeRow : OpenClaim := { program := "ythnnndkfpamacaagreatdoor", sum := "c08313c20b0df1c0a21b56c32f07cf90e228f8c087c1ecbc0acda194e09ed669", func := "moveout/moveoutlaw01.TraceWhole", spec := "traceWhole", inPlace := ["math.Float64bits", "math.Float64frombits", "math.archFloor", "math.archTrunc", "internal/abi.NoEscape", "internal/bytealg.MakeNoZero", "math.Float32bits", "math.Float32frombits"], unfollowed := true, recurses := true, named := ["moveout/trace.headerRanges", "moveout/trace.powers", "internal/strconv.uint64pow10", "math/bits.deBruijn32tab", "math/bits.deBruijn64tab"], apart := false, laid := [("math/bits.deBruijn32tab", laid_math_bits_deBruijn32tab), ("math/bits.deBruijn64tab", laid_math_bits_deBruijn64tab), ("internal/strconv.uint64pow10", laid_internal_strconv_uint64pow10), ("moveout/trace.headerRanges", laid_moveout_trace_headerRanges), ("moveout/trace.powers", laid_moveout_trace_powers)] }
def TraceWholeSaid : Prop := traceWholeRow.holds Tryz.pinned (OpenSpec.ofChange traceWholeSpec)

/-- ITS FALSE NEIGHBOUR: 'it returns false'. Refute it at one input. -/
def traceWholeWrong : ChangeSpec := { name := "traceWhole", fn := fun _ => fun
  | [d1, d2] => { results := [.lit (.bool false)], args := [d1, d2] }
  | _ => none }
def TraceWholeWrongFalsely : Prop := traceWholeRow.holds Tryz.pinned (OpenSpec.ofChange traceWholeWrong)

/-- 'moveoutlaw01.TraceLinear': WHATEVER THE INPUT: true; the input reads as it did. -/
def traceLinearSpec : ChangeSpec := { name := "traceLinear", fn := fun _ => fun
  | [d1, d2, d3] => { results := [.lit (.bool true)], args := [d1, d2, d3] }
  | _ => none }
def traceLinearRow : OpenClaim := { program := "ythnnndkfpamacaagreatdoor", sum := "c08313c20b0df1c0a21b56c32f07cf90e228f8c087c1ecbc0acda194e09ed669", func := "moveout/moveoutlaw01.TraceLinear", spec := "traceLinear", inPlace := ["math.Float64bits", "math.Float64frombits", "math.archFloor", "math.archTrunc", "internal/abi.NoEscape", "internal/bytealg.MakeNoZero", "math.Float32bits", "math.Float32frombits"], unfollowed := true, recurses := true, named := ["moveout/trace.headerRanges", "moveout/trace.powers", "internal/strconv.uint64pow10", "math/bits.deBruijn32tab", "math/bits.deBruijn64tab"], apart := false, laid := [("math/bits.deBruijn32tab", laid_math_bits_deBruijn32tab), ("math/bits.deBruijn64tab", laid_math_bits_deBruijn64tab), ("internal/strconv.uint64pow10", laid_internal_strconv_uint64pow10), ("moveout/trace.headerRanges", laid_moveout_trace_headerRanges), ("moveout/trace.powers", laid_moveout_trace_powers)] }
def TraceLinearSaid : Prop := traceLinearRow.holds Tryz.pinned (OpenSpec.ofChange traceLinearSpec)

/-- ITS FALSE NEIGHBOUR: 'it returns false'. Refute it at one input. -/
def traceLinearWrong : ChangeSpec := { name := "traceLinear", fn := fun _ => fun
  | [d1, d2, d3] => { results := [.lit (.bool false)], args := [d1, d2, d3] }
  | _ => none }
def TraceLinearWrongFalsely : Prop := traceLinearRow.holds Tryz.pinned (OpenSpec.ofChange traceLinearWrong)

/-- 'moveoutlaw01.TraceTaps': WHATEVER THE INPUT: true; the input reads as it did. -/
def traceTapsSpec : ChangeSpec := { name := "traceTaps", fn := fun _ => fun
  | [d1, d2, d3] => { results := [.lit (.bool true)], args := [d1, d2, d3] }
  | _ => none }
def traceTapsRow : OpenClaim := { program := "ythnnndkfpamacaagreatdoor", sum := "c08313c20b0df1c0a21b56c32f07cf90e228f8c087c1ecbc0acda194e09ed669", func := "moveout/moveoutlaw01.TraceTaps", spec := "traceTaps", inPlace := ["math.Float64bits", "math.Float64frombits", "math.archFloor", "math.archTrunc", "internal/abi.NoEscape", "internal/bytealg.MakeNoZero", "math.Float32bits", "math.Float32frombits"], unfollowed := true, recurses := true, named := ["moveout/trace.headerRanges", "moveout/trace.powers", "internal/strconv.uint64pow10", "math/bits.deBruijn32tab", "math/bits.deBruijn64tab"], apart := false, laid := [("math/bits.deBruijn32tab", laid_math_bits_deBruijn32tab), ("math/bits.deBruijn64tab", laid_math_bits_deBruijn64tab), ("internal/strconv.uint64pow10", laid_internal_strconv_uint64pow10), ("moveout/trace.headerRanges", laid_moveout_trace_headerRanges), ("moveout/trace.powers", laid_moveout_trace_powers)] }
def TraceTapsSaid : Prop := traceTapsRow.holds Tryz.pinned (OpenSpec.ofChange traceTapsSpec)

/-- ITS FALSE NEIGHBOUR: 'it returns false'. Refute it at one input. -/
def traceTapsWrong : ChangeSpec := { name := "traceTaps", fn := fun _ => fun
  | [d1, d2, d3] => { results := [.lit (.bool false)], args := [d1, d2, d3] }
  | _ => none }
def TraceTapsWrongFalsely : Prop := traceTapsRow.holds Tryz.pinned (OpenSpec.ofChange traceTapsWrong)

/-- 'moveoutlaw01.TraceWaves': WHATEVER THE INPUT: true; the input reads as it did. -/
def traceWavesSpec : ChangeSpec := { name := "traceWaves", fn := fun _ => fun
  | [d1, d2] => { results := [.lit (.bool true)], args := [d1, d2] }
  | _ => none }
def traceWavesRow : OpenClaim := { program := "ythnnndkfpamacaagreatdoor", sum := "c08313c20b0df1c0a21b56c32f07cf90e228f8c087c1ecbc0acda194e09ed669", func := "moveout/moveoutlaw01.TraceWaves", spec := "traceWaves", inPlace := ["math.Float64bits", "math.Float64frombits", "math.archFloor", "math.archTrunc", "internal/abi.NoEscape", "internal/bytealg.MakeNoZero", "math.Float32bits", "math.Float32frombits"], unfollowed := true, recurses := true, named := ["moveout/trace.headerRanges", "moveout/trace.powers", "internal/strconv.uint64pow10", "math/bits.deBruijn32tab", "math/bits.deBruijn64tab"], apart := false, laid := [("math/bits.deBruijn32tab", laid_math_bits_deBruijn32tab), ("math/bits.deBruijn64tab", laid_math_bits_deBruijn64tab), ("internal/strconv.uint64pow10", laid_internal_strconv_uint64pow10), ("moveout/trace.headerRanges", laid_moveout_trace_headerRanges), ("moveout/trace.powers", laid_moveout_trace_powers)] }
def TraceWavesSaid : Prop := traceWavesRow.holds Tryz.pinned (OpenSpec.ofChange traceWavesSpec)

/-- ITS FALSE NEIGHBOUR: 'it returns false'. Refute it at one input. -/
def traceWavesWrong : ChangeSpec := { name := "traceWaves", fn := fun _ => fun
  | [d1, d2] => { results := [.lit (.bool false)], args := [d1, d2] }
  | _ => none }
def TraceWavesWrongFalsely : Prop := traceWavesRow.holds Tryz.pinned (OpenSpec.ofChange traceWavesWrong)

/-- 'moveoutlaw01.TraceBack': WHATEVER THE INPUT: true; the input reads as it did. -/
def traceBackSpec : ChangeSpec := { name := "traceBack", fn := fun _ => fun
  | [d1, d2] => { results := [.lit (.bool true)], args := [d1, d2] }
  | _ => none }
def traceBackRow : OpenClaim := { program := "ythnnndkfpamacaagreatdoor", sum := "c08313c20b0df1c0a21b56c32f07cf90e228f8c087c1ecbc0acda194e09ed669", func := "moveout/moveoutlaw01.TraceBack", spec := "traceBack", inPlace := ["math.Float64bits", "math.Float64frombits", "math.archFloor", "math.archTrunc", "internal/abi.NoEscape", "internal/bytealg.MakeNoZero", "math.Float32bits", "math.Float32frombits", "internal/bytealg.CountString", "internal/bytealg.IndexByteString", "internal/bytealg.IndexString"], unfollowed := true, recurses := true, named := ["moveout/trace.headerRanges", "moveout/trace.powers", "internal/strconv.uint64pow10", "math/bits.deBruijn32tab", "math/bits.deBruijn64tab", "unicode/utf8.first", "unicode/utf8.acceptRanges", "internal/bytealg.MaxLen", "strconv.ErrSyntax", "strconv.ErrRange"], apart := false, laid := [("math/bits.deBruijn32tab", laid_math_bits_deBruijn32tab), ("math/bits.deBruijn64tab", laid_math_bits_deBruijn64tab), ("internal/strconv.uint64pow10", laid_internal_strconv_uint64pow10), ("unicode/utf8.acceptRanges", laid_unicode_utf8_acceptRanges), ("strconv.ErrRange", laid_strconv_ErrRange), ("strconv.ErrSyntax", laid_strconv_ErrSyntax), ("moveout/trace.headerRanges", laid_moveout_trace_headerRanges), ("moveout/trace.powers", laid_moveout_trace_powers), ("unicode/utf8.first", laid_unicode_utf8_first)] }
def TraceBackSaid : Prop := traceBackRow.holds Tryz.pinned (OpenSpec.ofChange traceBackSpec)

/-- ITS FALSE NEIGHBOUR: 'it returns false'. Refute it at one input. -/
def traceBackWrong : ChangeSpec := { name := "traceBack", fn := fun _ => fun
  | [d1, d2] => { results := [.lit (.bool false)], args := [d1, d2] }
  | _ => none }
def TraceBackWrongFalsely : Prop := traceBackRow.holds Tryz.pinned (OpenSpec.ofChange traceBackWrong)

/-- 'moveoutlaw01.TraceSalvaged': WHATEVER THE INPUT: true; the input reads as it did. -/
def traceSalvagedSpec : ChangeSpec := { name := "traceSalvaged", fn := fun _ => fun
  | [d1, d2] => { results := [.lit (.bool true)], args := [d1, d2] }
  | _ => none }
def traceSalvagedRow : OpenClaim := { program := "ythnnndkfpamacaagreatdoor", sum := "c08313c20b0df1c0a21b56c32f07cf90e228f8c087c1ecbc0acda194e09ed669", func := "moveout/moveoutlaw01.TraceSalvaged", spec := "traceSalvaged", inPlace := ["math.Float64bits", "math.Float64frombits", "math.archFloor", "math.archTrunc", "internal/abi.NoEscape", "internal/bytealg.MakeNoZero", "math.Float32bits", "math.Float32frombits"], unfollowed := true, recurses := true, named := ["moveout/trace.headerRanges", "moveout/trace.powers", "internal/strconv.uint64pow10", "math/bits.deBruijn32tab", "math/bits.deBruijn64tab"], apart := false, laid := [("math/bits.deBruijn32tab", laid_math_bits_deBruijn32tab), ("math/bits.deBruijn64tab", laid_math_bits_deBruijn64tab), ("internal/strconv.uint64pow10", laid_internal_strconv_uint64pow10), ("moveout/trace.headerRanges", laid_moveout_trace_headerRanges), ("moveout/trace.powers", laid_moveout_trace_powers)] }
def TraceSalvagedSaid : Prop := traceSalvagedRow.holds Tryz.pinned (OpenSpec.ofChange traceSalvagedSpec)

/-- ITS FALSE NEIGHBOUR: 'it returns false'. Refute it at one input. -/
def traceSalvagedWrong : ChangeSpec := { name := "traceSalvaged", fn := fun _ => fun
  | [d1, d2] => { results := [.lit (.bool false)], args := [d1, d2] }
  | _ => none }
def TraceSalvagedWrongFalsely : Prop := traceSalvagedRow.holds Tryz.pinned (OpenSpec.ofChange traceSalvagedWrong)

/- THE SECOND FORM. 'bulk': how many values and letters a reading holds, each counted each time it is reached (what is shared counts as often as it is met; a slice's spare places count too). A statement '..UptoSaid' is the law's where the arguments, and the package variables that the reading takes, are together of bulk at most 1048576: NARROWER than '..Said'. Prove '..Said' where nothing that the law and all that it calls make is longer than what came in: it says more and counts as full. Else prove '..UptoSaid'. A law counts once. -/
mutual
def uptoBulk {H : Type} : DataW H → Nat
  | .lit (.string bytes) => bytes.length + 1
  | .lit _ => 1
  | .nil => 1
  | .ptr d => uptoBulk d + 1
  | .slice elems spare => uptoBulkAll elems + uptoBulkAll spare + 1
  | .agg parts => uptoBulkAll parts + 1
  | .iface _ d => uptoBulk d + 1
  | .map entries => uptoBulkEntries entries + 1
  | .held _ => 1
def uptoBulkAll {H : Type} : List (DataW H) → Nat
  | [] => 0
  | d :: r => uptoBulk d + uptoBulkAll r
def uptoBulkEntries {H : Type} : List (Lit × DataW H) → Nat
  | [] => 0
  | x :: r => uptoBulkEntry x + uptoBulkEntries r
def uptoBulkEntry {H : Type} : Lit × DataW H → Nat
  | (.string bytes, d) => bytes.length + uptoBulk d + 1
  | (_, d) => uptoBulk d + 1
 end
def uptoSmall : (H : Type) → List (DataW H) → Bool := fun _ ds => decide (uptoBulkAll ds ≤ 1048576)
def OpenSpec.upto (s : _root_.Go.ChangeSpec) : _root_.Go.OpenSpec := { _root_.Go.OpenSpec.ofChange s with cond := some uptoSmall }

/-- 'moveoutlaw01.TraceBasics', WHERE WHAT IT READS IS OF BULK AT MOST 1048576: true; the input reads as it did. -/
def traceBasicsUptoRow : OpenClaim := { program := "ythnnndkfpamacaagreatdoor", sum := "c08313c20b0df1c0a21b56c32f07cf90e228f8c087c1ecbc0acda194e09ed669", func := "moveout/moveoutlaw01.TraceBasics", spec := "traceBasics", inPlace := ["math.Float64bits", "math.Float64frombits", "math.archTrunc", "internal/abi.NoEscape", "internal/bytealg.MakeNoZero", "math.Float32bits", "math.Float32frombits", "math.archFloor"], unfollowed := true, recurses := true, named := ["moveout/trace.headerRanges", "moveout/trace.powers", "internal/strconv.uint64pow10", "math/bits.deBruijn32tab", "math/bits.deBruijn64tab"], apart := false, laid := [("math/bits.deBruijn32tab", laid_math_bits_deBruijn32tab), ("math/bits.deBruijn64tab", laid_math_bits_deBruijn64tab), ("internal/strconv.uint64pow10", laid_internal_strconv_uint64pow10), ("moveout/trace.headerRanges", laid_moveout_trace_headerRanges), ("moveout/trace.powers", laid_moveout_trace_powers)], narrowed := true }
def TraceBasicsUptoSaid : Prop := traceBasicsUptoRow.holds Tryz.pinned (OpenSpec.upto traceBasicsSpec)

/-- 'moveoutlaw01.TraceShots', WHERE WHAT IT READS IS OF BULK AT MOST 1048576: true; the input reads as it did. -/
def traceShotsUptoRow : OpenClaim := { program := "ythnnndkfpamacaagreatdoor", sum := "c08313c20b0df1c0a21b56c32f07cf90e228f8c087c1ecbc0acda194e09ed669", func := "moveout/moveoutlaw01.TraceShots", spec := "traceShots", inPlace := ["math.Float64bits", "math.Float64frombits", "math.archTrunc", "internal/abi.NoEscape", "internal/bytealg.MakeNoZero", "math.Float32bits", "math.Float32frombits", "math.archFloor"], unfollowed := true, recurses := true, named := ["moveout/trace.headerRanges", "moveout/trace.powers", "internal/strconv.uint64pow10", "math/bits.deBruijn32tab", "math/bits.deBruijn64tab"], apart := false, laid := [("math/bits.deBruijn32tab", laid_math_bits_deBruijn32tab), ("math/bits.deBruijn64tab", laid_math_bits_deBruijn64tab), ("internal/strconv.uint64pow10", laid_internal_strconv_uint64pow10), ("moveout/trace.headerRanges", laid_moveout_trace_headerRanges), ("moveout/trace.powers", laid_moveout_trace_powers)], narrowed := true }
def TraceShotsUptoSaid : Prop := traceShotsUptoRow.holds Tryz.pinned (OpenSpec.upto traceShotsSpec)

/-- 'moveoutlaw01.TraceCuts', WHERE WHAT IT READS IS OF BULK AT MOST 1048576: true; the input reads as it did. -/
def traceCutsUptoRow : OpenClaim := { program := "ythnnndkfpamacaagreatdoor", sum := "c08313c20b0df1c0a21b56c32f07cf90e228f8c087c1ecbc0acda194e09ed669", func := "moveout/moveoutlaw01.TraceCuts", spec := "traceCuts", inPlace := ["math.Float64bits", "math.Float64frombits", "math.archTrunc", "internal/abi.NoEscape", "internal/bytealg.MakeNoZero", "math.Float32bits", "math.Float32frombits", "math.archFloor"], unfollowed := true, recurses := true, named := ["moveout/trace.headerRanges", "moveout/trace.powers", "internal/strconv.uint64pow10", "math/bits.deBruijn32tab", "math/bits.deBruijn64tab"], apart := false, laid := [("math/bits.deBruijn32tab", laid_math_bits_deBruijn32tab), ("math/bits.deBruijn64tab", laid_math_bits_deBruijn64tab), ("internal/strconv.uint64pow10", laid_internal_strconv_uint64pow10), ("moveout/trace.headerRanges", laid_moveout_trace_headerRanges), ("moveout/trace.powers", laid_moveout_trace_powers)], narrowed := true }
def TraceCutsUptoSaid : Prop := traceCutsUptoRow.holds Tryz.pinned (OpenSpec.upto traceCutsSpec)

/-- 'moveoutlaw01.TraceSums', WHERE WHAT IT READS IS OF BULK AT MOST 1048576: true; the input reads as it did. -/
def traceSumsUptoRow : OpenClaim := { program := "ythnnndkfpamacaagreatdoor", sum := "c08313c20b0df1c0a21b56c32f07cf90e228f8c087c1ecbc0acda194e09ed669", func := "moveout/moveoutlaw01.TraceSums", spec := "traceSums", inPlace := ["math.Float64bits", "math.Float64frombits", "math.archTrunc", "internal/abi.NoEscape", "internal/bytealg.MakeNoZero", "math.Float32bits", "math.Float32frombits", "math.archFloor"], unfollowed := true, recurses := true, named := ["moveout/trace.headerRanges", "moveout/trace.powers", "internal/strconv.uint64pow10", "math/bits.deBruijn32tab", "math/bits.deBruijn64tab"], apart := false, laid := [("math/bits.deBruijn32tab", laid_math_bits_deBruijn32tab), ("math/bits.deBruijn64tab", laid_math_bits_deBruijn64tab), ("internal/strconv.uint64pow10", laid_internal_strconv_uint64pow10), ("moveout/trace.headerRanges", laid_moveout_trace_headerRanges), ("moveout/trace.powers", laid_moveout_trace_powers)], narrowed := true }
def TraceSumsUptoSaid : Prop := traceSumsUptoRow.holds Tryz.pinned (OpenSpec.upto traceSumsSpec)

/-- 'moveoutlaw01.TraceLists', WHERE WHAT IT READS IS OF BULK AT MOST 1048576: true; the input reads as it did. -/
def traceListsUptoRow : OpenClaim := { program := "ythnnndkfpamacaagreatdoor", sum := "c08313c20b0df1c0a21b56c32f07cf90e228f8c087c1ecbc0acda194e09ed669", func := "moveout/moveoutlaw01.TraceLists", spec := "traceLists", inPlace := ["math.Float64bits", "math.Float64frombits", "math.archTrunc", "internal/abi.NoEscape", "internal/bytealg.MakeNoZero", "math.Float32bits", "math.Float32frombits", "math.archFloor"], unfollowed := true, recurses := true, named := ["moveout/trace.headerRanges", "moveout/trace.powers", "internal/strconv.uint64pow10", "math/bits.deBruijn32tab", "math/bits.deBruijn64tab"], apart := false, laid := [("math/bits.deBruijn32tab", laid_math_bits_deBruijn32tab), ("math/bits.deBruijn64tab", laid_math_bits_deBruijn64tab), ("internal/strconv.uint64pow10", laid_internal_strconv_uint64pow10), ("moveout/trace.headerRanges", laid_moveout_trace_headerRanges), ("moveout/trace.powers", laid_moveout_trace_powers)], narrowed := true }
def TraceListsUptoSaid : Prop := traceListsUptoRow.holds Tryz.pinned (OpenSpec.upto traceListsSpec)

/-- 'moveoutlaw01.TraceTexts', WHERE WHAT IT READS IS OF BULK AT MOST 1048576: true; the input reads as it did. -/
def traceTextsUptoRow : OpenClaim := { program := "ythnnndkfpamacaagreatdoor", sum := "c08313c20b0df1c0a21b56c32f07cf90e228f8c087c1ecbc0acda194e09ed669", func := "moveout/moveoutlaw01.TraceTexts", spec := "traceTexts", inPlace := ["math.Float64bits", "math.Float64frombits", "math.archTrunc", "internal/abi.NoEscape", "internal/bytealg.MakeNoZero", "math.Float32bits", "math.Float32frombits", "internal/bytealg.CountString", "internal/bytealg.IndexByteString", "internal/bytealg.IndexString", "math.archFloor"], unfollowed := true, recurses := true, named := ["moveout/trace.headerRanges", "moveout/trace.powers", "internal/strconv.uint64pow10", "math/bits.deBruijn32tab", "math/bits.deBruijn64tab", "unicode/utf8.first", "unicode/utf8.acceptRanges", "internal/bytealg.MaxLen", "strconv.ErrSyntax", "strconv.ErrRange"], apart := false, laid := [("math/bits.deBruijn32tab", laid_math_bits_deBruijn32tab), ("math/bits.deBruijn64tab", laid_math_bits_deBruijn64tab), ("internal/strconv.uint64pow10", laid_internal_strconv_uint64pow10), ("unicode/utf8.acceptRanges", laid_unicode_utf8_acceptRanges), ("strconv.ErrRange", laid_strconv_ErrRange), ("strconv.ErrSyntax", laid_strconv_ErrSyntax), ("moveout/trace.headerRanges", laid_moveout_trace_headerRanges), ("moveout/trace.powers", laid_moveout_trace_powers), ("unicode/utf8.first", laid_unicode_utf8_first)], narrowed := true }
def TraceTextsUptoSaid : Prop := traceTextsUptoRow.holds Tryz.pinned (OpenSpec.upto traceTextsSpec)

/-- 'moveoutlaw01.TraceStreams', WHERE WHAT IT READS IS OF BULK AT MOST 1048576: true; the input reads as it did. -/
def traceStreamsUptoRow : OpenClaim := { program := "ythnnndkfpamacaagreatdoor", sum := "c08313c20b0df1c0a21b56c32f07cf90e228f8c087c1ecbc0acda194e09ed669", func := "moveout/moveoutlaw01.TraceStreams", spec := "traceStreams", inPlace := ["math.Float64bits", "math.Float64frombits", "math.archTrunc", "internal/abi.NoEscape", "internal/bytealg.MakeNoZero", "math.Float32bits", "math.Float32frombits", "math.archFloor"], unfollowed := true, recurses := true, named := ["moveout/trace.headerRanges", "moveout/trace.powers", "internal/strconv.uint64pow10", "math/bits.deBruijn32tab", "math/bits.deBruijn64tab"], apart := false, laid := [("math/bits.deBruijn32tab", laid_math_bits_deBruijn32tab), ("math/bits.deBruijn64tab", laid_math_bits_deBruijn64tab), ("internal/strconv.uint64pow10", laid_internal_strconv_uint64pow10), ("moveout/trace.headerRanges", laid_moveout_trace_headerRanges), ("moveout/trace.powers", laid_moveout_trace_powers)], narrowed := true }
def TraceStreamsUptoSaid : Prop := traceStreamsUptoRow.holds Tryz.pinned (OpenSpec.upto traceStreamsSpec)

/-- 'moveoutlaw01.TraceWhole', WHERE WHAT IT READS IS OF BULK AT MOST 1048576: true; the input reads as it did. -/
def traceWholeUptoRow : OpenClaim := { program := "ythnnndkfpamacaagreatdoor", sum := "c08313c20b0df1c0a21b56c32f07cf90e228f8c087c1ecbc0acda194e09ed669", func := "moveout/moveoutlaw01.TraceWhole", spec := "traceWhole", inPlace := ["math.Float64bits", "math.Float64frombits", "math.archFloor", "math.archTrunc", "internal/abi.NoEscape", "internal/bytealg.MakeNoZero", "math.Float32bits", "math.Float32frombits"], unfollowed := true, recurses := true, named := ["moveout/trace.headerRanges", "moveout/trace.powers", "internal/strconv.uint64pow10", "math/bits.deBruijn32tab", "math/bits.deBruijn64tab"], apart := false, laid := [("math/bits.deBruijn32tab", laid_math_bits_deBruijn32tab), ("math/bits.deBruijn64tab", laid_math_bits_deBruijn64tab), ("internal/strconv.uint64pow10", laid_internal_strconv_uint64pow10), ("moveout/trace.headerRanges", laid_moveout_trace_headerRanges), ("moveout/trace.powers", laid_moveout_trace_powers)], narrowed := true }
def TraceWholeUptoSaid : Prop := traceWholeUptoRow.holds Tryz.pinned (OpenSpec.upto traceWholeSpec)

/-- 'moveoutlaw01.TraceLinear', WHERE WHAT IT READS IS OF BULK AT MOST 1048576: true; the input reads as it did. -/
def traceLinearUptoRow : OpenClaim := { program := "ythnnndkfpamacaagreatdoor", sum := "c08313c20b0df1c0a21b56c32f07cf90e228f8c087c1ecbc0acda194e09ed669", func := "moveout/moveoutlaw01.TraceLinear", spec := "traceLinear", inPlace := ["math.Float64bits", "math.Float64frombits", "math.archFloor", "math.archTrunc", "internal/abi.NoEscape", "internal/bytealg.MakeNoZero", "math.Float32bits", "math.Float32frombits"], unfollowed := true, recurses := true, named := ["moveout/trace.headerRanges", "moveout/trace.powers", "internal/strconv.uint64pow10", "math/bits.deBruijn32tab", "math/bits.deBruijn64tab"], apart := false, laid := [("math/bits.deBruijn32tab", laid_math_bits_deBruijn32tab), ("math/bits.deBruijn64tab", laid_math_bits_deBruijn64tab), ("internal/strconv.uint64pow10", laid_internal_strconv_uint64pow10), ("moveout/trace.headerRanges", laid_moveout_trace_headerRanges), ("moveout/trace.powers", laid_moveout_trace_powers)], narrowed := true }
def TraceLinearUptoSaid : Prop := traceLinearUptoRow.holds Tryz.pinned (OpenSpec.upto traceLinearSpec)

/-- 'moveoutlaw01.TraceTaps', WHERE WHAT IT READS IS OF BULK AT MOST 1048576: true; the input reads as it did. -/
def traceTapsUptoRow : OpenClaim := { program := "ythnnndkfpamacaagreatdoor", sum := "c08313c20b0df1c0a21b56c32f07cf90e228f8c087c1ecbc0acda194e09ed669", func := "moveout/moveoutlaw01.TraceTaps", spec := "traceTaps", inPlace := ["math.Float64bits", "math.Float64frombits", "math.archFloor", "math.archTrunc", "internal/abi.NoEscape", "internal/bytealg.MakeNoZero", "math.Float32bits", "math.Float32frombits"], unfollowed := true, recurses := true, named := ["moveout/trace.headerRanges", "moveout/trace.powers", "internal/strconv.uint64pow10", "math/bits.deBruijn32tab", "math/bits.deBruijn64tab"], apart := false, laid := [("math/bits.deBruijn32tab", laid_math_bits_deBruijn32tab), ("math/bits.deBruijn64tab", laid_math_bits_deBruijn64tab), ("internal/strconv.uint64pow10", laid_internal_strconv_uint64pow10), ("moveout/trace.headerRanges", laid_moveout_trace_headerRanges), ("moveout/trace.powers", laid_moveout_trace_powers)], narrowed := true }
def TraceTapsUptoSaid : Prop := traceTapsUptoRow.holds Tryz.pinned (OpenSpec.upto traceTapsSpec)

/-- 'moveoutlaw01.TraceWaves', WHERE WHAT IT READS IS OF BULK AT MOST 1048576: true; the input reads as it did. -/
def traceWavesUptoRow : OpenClaim := { program := "ythnnndkfpamacaagreatdoor", sum := "c08313c20b0df1c0a21b56c32f07cf90e228f8c087c1ecbc0acda194e09ed669", func := "moveout/moveoutlaw01.TraceWaves", spec := "traceWaves", inPlace := ["math.Float64bits", "math.Float64frombits", "math.archFloor", "math.archTrunc", "internal/abi.NoEscape", "internal/bytealg.MakeNoZero", "math.Float32bits", "math.Float32frombits"], unfollowed := true, recurses := true, named := ["moveout/trace.headerRanges", "moveout/trace.powers", "internal/strconv.uint64pow10", "math/bits.deBruijn32tab", "math/bits.deBruijn64tab"], apart := false, laid := [("math/bits.deBruijn32tab", laid_math_bits_deBruijn32tab), ("math/bits.deBruijn64tab", laid_math_bits_deBruijn64tab), ("internal/strconv.uint64pow10", laid_internal_strconv_uint64pow10), ("moveout/trace.headerRanges", laid_moveout_trace_headerRanges), ("moveout/trace.powers", laid_moveout_trace_powers)], narrowed := true }
def TraceWavesUptoSaid : Prop := traceWavesUptoRow.holds Tryz.pinned (OpenSpec.upto traceWavesSpec)

/-- 'moveoutlaw01.TraceBack', WHERE WHAT IT READS IS OF BULK AT MOST 1048576: true; the input reads as it did. -/
def traceBackUptoRow : OpenClaim := { program := "ythnnndkfpamacaagreatdoor", sum := "c08313c20b0df1c0a21b56c32f07cf90e228f8c087c1ecbc0acda194e09ed669", func := "moveout/moveoutlaw01.TraceBack", spec := "traceBack", inPlace := ["math.Float64bits", "math.Float64frombits", "math.archFloor", "math.archTrunc", "internal/abi.NoEscape", "internal/bytealg.MakeNoZero", "math.Float32bits", "math.Float32frombits", "internal/bytealg.CountString", "internal/bytealg.IndexByteString", "internal/bytealg.IndexString"], unfollowed := true, recurses := true, named := ["moveout/trace.headerRanges", "moveout/trace.powers", "internal/strconv.uint64pow10", "math/bits.deBruijn32tab", "math/bits.deBruijn64tab", "unicode/utf8.first", "unicode/utf8.acceptRanges", "internal/bytealg.MaxLen", "strconv.ErrSyntax", "strconv.ErrRange"], apart := false, laid := [("math/bits.deBruijn32tab", laid_math_bits_deBruijn32tab), ("math/bits.deBruijn64tab", laid_math_bits_deBruijn64tab), ("internal/strconv.uint64pow10", laid_internal_strconv_uint64pow10), ("unicode/utf8.acceptRanges", laid_unicode_utf8_acceptRanges), ("strconv.ErrRange", laid_strconv_ErrRange), ("strconv.ErrSyntax", laid_strconv_ErrSyntax), ("moveout/trace.headerRanges", laid_moveout_trace_headerRanges), ("moveout/trace.powers", laid_moveout_trace_powers), ("unicode/utf8.first", laid_unicode_utf8_first)], narrowed := true }
def TraceBackUptoSaid : Prop := traceBackUptoRow.holds Tryz.pinned (OpenSpec.upto traceBackSpec)

/-- 'moveoutlaw01.TraceSalvaged', WHERE WHAT IT READS IS OF BULK AT MOST 1048576: true; the input reads as it did. -/
def traceSalvagedUptoRow : OpenClaim := { program := "ythnnndkfpamacaagreatdoor", sum := "c08313c20b0df1c0a21b56c32f07cf90e228f8c087c1ecbc0acda194e09ed669", func := "moveout/moveoutlaw01.TraceSalvaged", spec := "traceSalvaged", inPlace := ["math.Float64bits", "math.Float64frombits", "math.archFloor", "math.archTrunc", "internal/abi.NoEscape", "internal/bytealg.MakeNoZero", "math.Float32bits", "math.Float32frombits"], unfollowed := true, recurses := true, named := ["moveout/trace.headerRanges", "moveout/trace.powers", "internal/strconv.uint64pow10", "math/bits.deBruijn32tab", "math/bits.deBruijn64tab"], apart := false, laid := [("math/bits.deBruijn32tab", laid_math_bits_deBruijn32tab), ("math/bits.deBruijn64tab", laid_math_bits_deBruijn64tab), ("internal/strconv.uint64pow10", laid_internal_strconv_uint64pow10), ("moveout/trace.headerRanges", laid_moveout_trace_headerRanges), ("moveout/trace.powers", laid_moveout_trace_powers)], narrowed := true }
def TraceSalvagedUptoSaid : Prop := traceSalvagedUptoRow.holds Tryz.pinned (OpenSpec.upto traceSalvagedSpec)

end Rows
end Go.Proofs.YthnnndkfpamacaaGreatDoor
