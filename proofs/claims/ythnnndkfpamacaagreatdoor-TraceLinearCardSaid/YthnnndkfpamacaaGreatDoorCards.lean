/-
  DERIVED. GIVEN WITH THE SEED: THE CARDS: each row of YthnnndkfpamacaaGreatDoorRows.lean that lists a variable, with what it lists TIED to the program's text (the seventh form; the later family's looks); each row that meets fmt, with fmt's text TOLD by the authors' own Lean function (tested against real Go, not proved from fmt's source: count such statements apart). THE CARD IS WHAT COUNTS. Prove the row's statement (the work); the ties are given (YthnnndkfpamacaaGreatDoorTie.lean); close each card by the builder's one call (the guide's Derived/Test/ToyasCard.lean, 'card_holds'). Laid BY PROGRAM, IN A SANDBOX (cutbox-door.mjs). By AI agents, Wed Nov 11 2026. No macro, syntax, notation, axiom, sorry.
-/
import Derived.Test.YthnnndkfpamacaaGreatDoorRows
import GoSem.ClaimSeven
namespace Go.Proofs.YthnnndkfpamacaaGreatDoor
namespace Rows

/-- THE TIED CARD OF 'moveoutlaw01.TraceBasics'. -/
def traceBasicsCard : Claim7 := { stood := { row := traceBasicsRow, standIns := [], harness := (true, "fc6c5e7e15660d324bd4b6e61a3fdea9d774e12edf55c5e444a85c4a172c2f52"), looks := true }, kinds := [], alts := [], laidByText := true, laidKinds := [.data, .data, .data, .data, .data], laidTests := true, laidLooks := .later }
def TraceBasicsCardSaid : Prop := Claim7.holds Tryz.pinned (.plain (OpenSpec.ofChange traceBasicsSpec)) traceBasicsCard

/-- THE TIED CARD OF 'moveoutlaw01.TraceShots'. -/
def traceShotsCard : Claim7 := { stood := { row := traceShotsRow, standIns := [], harness := (true, "fc6c5e7e15660d324bd4b6e61a3fdea9d774e12edf55c5e444a85c4a172c2f52"), looks := true }, kinds := [], alts := [], laidByText := true, laidKinds := [.data, .data, .data, .data, .data], laidTests := true, laidLooks := .later }
def TraceShotsCardSaid : Prop := Claim7.holds Tryz.pinned (.plain (OpenSpec.ofChange traceShotsSpec)) traceShotsCard

/-- THE TIED CARD OF 'moveoutlaw01.TraceCuts'. -/
def traceCutsCard : Claim7 := { stood := { row := traceCutsRow, standIns := [], harness := (true, "fc6c5e7e15660d324bd4b6e61a3fdea9d774e12edf55c5e444a85c4a172c2f52"), looks := true }, kinds := [], alts := [], laidByText := true, laidKinds := [.data, .data, .data, .data, .data], laidTests := true, laidLooks := .later }
def TraceCutsCardSaid : Prop := Claim7.holds Tryz.pinned (.plain (OpenSpec.ofChange traceCutsSpec)) traceCutsCard

/-- THE TIED CARD OF 'moveoutlaw01.TraceSums'. -/
def traceSumsCard : Claim7 := { stood := { row := traceSumsRow, standIns := [], harness := (true, "fc6c5e7e15660d324bd4b6e61a3fdea9d774e12edf55c5e444a85c4a172c2f52"), looks := true }, kinds := [], alts := [], laidByText := true, laidKinds := [.data, .data, .data, .data, .data], laidTests := true, laidLooks := .later }
def TraceSumsCardSaid : Prop := Claim7.holds Tryz.pinned (.plain (OpenSpec.ofChange traceSumsSpec)) traceSumsCard

/-- THE TIED CARD OF 'moveoutlaw01.TraceLists'. -/
def traceListsCard : Claim7 := { stood := { row := traceListsRow, standIns := [], harness := (true, "fc6c5e7e15660d324bd4b6e61a3fdea9d774e12edf55c5e444a85c4a172c2f52"), looks := true }, kinds := [], alts := [], laidByText := true, laidKinds := [.data, .data, .data, .data, .data], laidTests := true, laidLooks := .later }
def TraceListsCardSaid : Prop := Claim7.holds Tryz.pinned (.plain (OpenSpec.ofChange traceListsSpec)) traceListsCard

/-- THE TIED CARD OF 'moveoutlaw01.TraceTexts'. -/
def traceTextsCard : Claim7 := { stood := { row := traceTextsRow, standIns := [], harness := (true, "fc6c5e7e15660d324bd4b6e61a3fdea9d774e12edf55c5e444a85c4a172c2f52"), looks := true }, kinds := [], alts := [], laidByText := true, laidKinds := [.data, .data, .data, .data, .sentinel, .sentinel, .data, .data, .pinned], laidTests := true, laidLooks := .later }
def TraceTextsCardSaid : Prop := Claim7.holds Tryz.pinned (.plain (OpenSpec.ofChange traceTextsSpec)) traceTextsCard

/-- THE TIED CARD OF 'moveoutlaw01.TraceStreams'. -/
def traceStreamsCard : Claim7 := { stood := { row := traceStreamsRow, standIns := [], harness := (true, "fc6c5e7e15660d324bd4b6e61a3fdea9d774e12edf55c5e444a85c4a172c2f52"), looks := true }, kinds := [], alts := [], laidByText := true, laidKinds := [.data, .data, .data, .data, .data], laidTests := true, laidLooks := .later }
def TraceStreamsCardSaid : Prop := Claim7.holds Tryz.pinned (.plain (OpenSpec.ofChange traceStreamsSpec)) traceStreamsCard

/-- THE TIED CARD OF 'moveoutlaw01.TraceWhole'. -/
def traceWholeCard : Claim7 := { stood := { row := traceWholeRow, standIns := [], harness := (true, "fc6c5e7e15660d324bd4b6e61a3fdea9d774e12edf55c5e444a85c4a172c2f52"), looks := true }, kinds := [], alts := [], laidByText := true, laidKinds := [.data, .data, .data, .data, .data], laidTests := true, laidLooks := .later }
def TraceWholeCardSaid : Prop := Claim7.holds Tryz.pinned (.plain (OpenSpec.ofChange traceWholeSpec)) traceWholeCard

/-- THE TIED CARD OF 'moveoutlaw01.TraceLinear'. -/
def traceLinearCard : Claim7 := { stood := { row := traceLinearRow, standIns := [], harness := (true, "fc6c5e7e15660d324bd4b6e61a3fdea9d774e12edf55c5e444a85c4a172c2f52"), looks := true }, kinds := [], alts := [], laidByText := true, laidKinds := [.data, .data, .data, .data, .data], laidTests := true, laidLooks := .later }
def TraceLinearCardSaid : Prop := Claim7.holds Tryz.pinned (.plain (OpenSpec.ofChange traceLinearSpec)) traceLinearCard

/-- THE TIED CARD OF 'moveoutlaw01.TraceTaps'. -/
def traceTapsCard : Claim7 := { stood := { row := traceTapsRow, standIns := [], harness := (true, "fc6c5e7e15660d324bd4b6e61a3fdea9d774e12edf55c5e444a85c4a172c2f52"), looks := true }, kinds := [], alts := [], laidByText := true, laidKinds := [.data, .data, .data, .data, .data], laidTests := true, laidLooks := .later }
def TraceTapsCardSaid : Prop := Claim7.holds Tryz.pinned (.plain (OpenSpec.ofChange traceTapsSpec)) traceTapsCard

/-- THE TIED CARD OF 'moveoutlaw01.TraceWaves'. -/
def traceWavesCard : Claim7 := { stood := { row := traceWavesRow, standIns := [], harness := (true, "fc6c5e7e15660d324bd4b6e61a3fdea9d774e12edf55c5e444a85c4a172c2f52"), looks := true }, kinds := [], alts := [], laidByText := true, laidKinds := [.data, .data, .data, .data, .data], laidTests := true, laidLooks := .later }
def TraceWavesCardSaid : Prop := Claim7.holds Tryz.pinned (.plain (OpenSpec.ofChange traceWavesSpec)) traceWavesCard

/-- THE TIED CARD OF 'moveoutlaw01.TraceBack'. -/
def traceBackCard : Claim7 := { stood := { row := traceBackRow, standIns := [], harness := (true, "fc6c5e7e15660d324bd4b6e61a3fdea9d774e12edf55c5e444a85c4a172c2f52"), looks := true }, kinds := [], alts := [], laidByText := true, laidKinds := [.data, .data, .data, .data, .sentinel, .sentinel, .data, .data, .pinned], laidTests := true, laidLooks := .later }
def TraceBackCardSaid : Prop := Claim7.holds Tryz.pinned (.plain (OpenSpec.ofChange traceBackSpec)) traceBackCard

/-- THE TIED CARD OF 'moveoutlaw01.TraceSalvaged'. -/
def traceSalvagedCard : Claim7 := { stood := { row := traceSalvagedRow, standIns := [], harness := (true, "fc6c5e7e15660d324bd4b6e61a3fdea9d774e12edf55c5e444a85c4a172c2f52"), looks := true }, kinds := [], alts := [], laidByText := true, laidKinds := [.data, .data, .data, .data, .data], laidTests := true, laidLooks := .later }
def TraceSalvagedCardSaid : Prop := Claim7.holds Tryz.pinned (.plain (OpenSpec.ofChange traceSalvagedSpec)) traceSalvagedCard

/-- THE SECOND FORM's CARD OF 'moveoutlaw01.TraceBasics'. -/
def traceBasicsUptoCard : Claim7 := { stood := { row := traceBasicsUptoRow, standIns := [], harness := (true, "fc6c5e7e15660d324bd4b6e61a3fdea9d774e12edf55c5e444a85c4a172c2f52"), looks := true }, kinds := [], alts := [], laidByText := true, laidKinds := [.data, .data, .data, .data, .data], laidTests := true, laidLooks := .later }
def TraceBasicsUptoCardSaid : Prop := Claim7.holds Tryz.pinned (.plain (OpenSpec.upto traceBasicsSpec)) traceBasicsUptoCard

/-- THE SECOND FORM's CARD OF 'moveoutlaw01.TraceShots'. -/
def traceShotsUptoCard : Claim7 := { stood := { row := traceShotsUptoRow, standIns := [], harness := (true, "fc6c5e7e15660d324bd4b6e61a3fdea9d774e12edf55c5e444a85c4a172c2f52"), looks := true }, kinds := [], alts := [], laidByText := true, laidKinds := [.data, .data, .data, .data, .data], laidTests := true, laidLooks := .later }
def TraceShotsUptoCardSaid : Prop := Claim7.holds Tryz.pinned (.plain (OpenSpec.upto traceShotsSpec)) traceShotsUptoCard

/-- THE SECOND FORM's CARD OF 'moveoutlaw01.TraceCuts'. -/
def traceCutsUptoCard : Claim7 := { stood := { row := traceCutsUptoRow, standIns := [], harness := (true, "fc6c5e7e15660d324bd4b6e61a3fdea9d774e12edf55c5e444a85c4a172c2f52"), looks := true }, kinds := [], alts := [], laidByText := true, laidKinds := [.data, .data, .data, .data, .data], laidTests := true, laidLooks := .later }
def TraceCutsUptoCardSaid : Prop := Claim7.holds Tryz.pinned (.plain (OpenSpec.upto traceCutsSpec)) traceCutsUptoCard

/-- THE SECOND FORM's CARD OF 'moveoutlaw01.TraceSums'. -/
def traceSumsUptoCard : Claim7 := { stood := { row := traceSumsUptoRow, standIns := [], harness := (true, "fc6c5e7e15660d324bd4b6e61a3fdea9d774e12edf55c5e444a85c4a172c2f52"), looks := true }, kinds := [], alts := [], laidByText := true, laidKinds := [.data, .data, .data, .data, .data], laidTests := true, laidLooks := .later }
def TraceSumsUptoCardSaid : Prop := Claim7.holds Tryz.pinned (.plain (OpenSpec.upto traceSumsSpec)) traceSumsUptoCard

/-- THE SECOND FORM's CARD OF 'moveoutlaw01.TraceLists'. -/
def traceListsUptoCard : Claim7 := { stood := { row := traceListsUptoRow, standIns := [], harness := (true, "fc6c5e7e15660d324bd4b6e61a3fdea9d774e12edf55c5e444a85c4a172c2f52"), looks := true }, kinds := [], alts := [], laidByText := true, laidKinds := [.data, .data, .data, .data, .data], laidTests := true, laidLooks := .later }
def TraceListsUptoCardSaid : Prop := Claim7.holds Tryz.pinned (.plain (OpenSpec.upto traceListsSpec)) traceListsUptoCard

/-- THE SECOND FORM's CARD OF 'moveoutlaw01.TraceTexts'. -/
def traceTextsUptoCard : Claim7 := { stood := { row := traceTextsUptoRow, standIns := [], harness := (true, "fc6c5e7e15660d324bd4b6e61a3fdea9d774e12edf55c5e444a85c4a172c2f52"), looks := true }, kinds := [], alts := [], laidByText := true, laidKinds := [.data, .data, .data, .data, .sentinel, .sentinel, .data, .data, .pinned], laidTests := true, laidLooks := .later }
def TraceTextsUptoCardSaid : Prop := Claim7.holds Tryz.pinned (.plain (OpenSpec.upto traceTextsSpec)) traceTextsUptoCard

/-- THE SECOND FORM's CARD OF 'moveoutlaw01.TraceStreams'. -/
def traceStreamsUptoCard : Claim7 := { stood := { row := traceStreamsUptoRow, standIns := [], harness := (true, "fc6c5e7e15660d324bd4b6e61a3fdea9d774e12edf55c5e444a85c4a172c2f52"), looks := true }, kinds := [], alts := [], laidByText := true, laidKinds := [.data, .data, .data, .data, .data], laidTests := true, laidLooks := .later }
def TraceStreamsUptoCardSaid : Prop := Claim7.holds Tryz.pinned (.plain (OpenSpec.upto traceStreamsSpec)) traceStreamsUptoCard

/-- THE SECOND FORM's CARD OF 'moveoutlaw01.TraceWhole'. -/
def traceWholeUptoCard : Claim7 := { stood := { row := traceWholeUptoRow, standIns := [], harness := (true, "fc6c5e7e15660d324bd4b6e61a3fdea9d774e12edf55c5e444a85c4a172c2f52"), looks := true }, kinds := [], alts := [], laidByText := true, laidKinds := [.data, .data, .data, .data, .data], laidTests := true, laidLooks := .later }
def TraceWholeUptoCardSaid : Prop := Claim7.holds Tryz.pinned (.plain (OpenSpec.upto traceWholeSpec)) traceWholeUptoCard

/-- THE SECOND FORM's CARD OF 'moveoutlaw01.TraceLinear'. -/
def traceLinearUptoCard : Claim7 := { stood := { row := traceLinearUptoRow, standIns := [], harness := (true, "fc6c5e7e15660d324bd4b6e61a3fdea9d774e12edf55c5e444a85c4a172c2f52"), looks := true }, kinds := [], alts := [], laidByText := true, laidKinds := [.data, .data, .data, .data, .data], laidTests := true, laidLooks := .later }
def TraceLinearUptoCardSaid : Prop := Claim7.holds Tryz.pinned (.plain (OpenSpec.upto traceLinearSpec)) traceLinearUptoCard

/-- THE SECOND FORM's CARD OF 'moveoutlaw01.TraceTaps'. -/
def traceTapsUptoCard : Claim7 := { stood := { row := traceTapsUptoRow, standIns := [], harness := (true, "fc6c5e7e15660d324bd4b6e61a3fdea9d774e12edf55c5e444a85c4a172c2f52"), looks := true }, kinds := [], alts := [], laidByText := true, laidKinds := [.data, .data, .data, .data, .data], laidTests := true, laidLooks := .later }
def TraceTapsUptoCardSaid : Prop := Claim7.holds Tryz.pinned (.plain (OpenSpec.upto traceTapsSpec)) traceTapsUptoCard

/-- THE SECOND FORM's CARD OF 'moveoutlaw01.TraceWaves'. -/
def traceWavesUptoCard : Claim7 := { stood := { row := traceWavesUptoRow, standIns := [], harness := (true, "fc6c5e7e15660d324bd4b6e61a3fdea9d774e12edf55c5e444a85c4a172c2f52"), looks := true }, kinds := [], alts := [], laidByText := true, laidKinds := [.data, .data, .data, .data, .data], laidTests := true, laidLooks := .later }
def TraceWavesUptoCardSaid : Prop := Claim7.holds Tryz.pinned (.plain (OpenSpec.upto traceWavesSpec)) traceWavesUptoCard

/-- THE SECOND FORM's CARD OF 'moveoutlaw01.TraceBack'. -/
def traceBackUptoCard : Claim7 := { stood := { row := traceBackUptoRow, standIns := [], harness := (true, "fc6c5e7e15660d324bd4b6e61a3fdea9d774e12edf55c5e444a85c4a172c2f52"), looks := true }, kinds := [], alts := [], laidByText := true, laidKinds := [.data, .data, .data, .data, .sentinel, .sentinel, .data, .data, .pinned], laidTests := true, laidLooks := .later }
def TraceBackUptoCardSaid : Prop := Claim7.holds Tryz.pinned (.plain (OpenSpec.upto traceBackSpec)) traceBackUptoCard

/-- THE SECOND FORM's CARD OF 'moveoutlaw01.TraceSalvaged'. -/
def traceSalvagedUptoCard : Claim7 := { stood := { row := traceSalvagedUptoRow, standIns := [], harness := (true, "fc6c5e7e15660d324bd4b6e61a3fdea9d774e12edf55c5e444a85c4a172c2f52"), looks := true }, kinds := [], alts := [], laidByText := true, laidKinds := [.data, .data, .data, .data, .data], laidTests := true, laidLooks := .later }
def TraceSalvagedUptoCardSaid : Prop := Claim7.holds Tryz.pinned (.plain (OpenSpec.upto traceSalvagedSpec)) traceSalvagedUptoCard
end Rows
end Go.Proofs.YthnnndkfpamacaaGreatDoor
