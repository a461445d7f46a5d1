/-
  DERIVED. GIVEN WITH THE SEED: THE CARDS: each row of YtnkmencbnoipmaaGreatDoorRows.lean that lists a variable, with what it lists TIED to the program's text (the seventh form; the later family's looks); each row that meets fmt, with fmt's text TOLD by the authors' own Lean function (tested against real Go, not proved from fmt's source: count such statements apart). THE CARD IS WHAT COUNTS. Prove the row's statement (the work); the ties are given (YtnkmencbnoipmaaGreatDoorTie.lean); close each card by the builder's one call (the guide's Derived/Test/ToyasCard.lean, 'card_holds'). Laid BY PROGRAM, IN A SANDBOX (cutbox-door.mjs). By AI agents, Wed Nov 11 2026. No macro, syntax, notation, axiom, sorry.
-/
import Derived.Test.YtnkmencbnoipmaaGreatDoorRows
import GoSem.ClaimSeven
namespace Go.Proofs.YtnkmencbnoipmaaGreatDoor
namespace Rows

/-- THE TIED CARD OF 'moveoutlaw04.CoverLines'. -/
def coverLinesCard : Claim7 := { stood := { row := coverLinesRow, standIns := [], harness := (true, "906bd88376adb2a33bdca8d5e6158a6488002aa25ef130c1df1efe744db39683"), looks := false }, kinds := [], alts := [], laidByText := true, laidKinds := [.data, .data, .data, .data], laidTests := true, laidLooks := .later }
def CoverLinesCardSaid : Prop := Claim7.holds Tryz.pinned (.plain (OpenSpec.ofChange coverLinesSpec)) coverLinesCard

/-- THE TIED CARD OF 'moveoutlaw04.CoverChanges'. -/
def coverChangesCard : Claim7 := { stood := { row := coverChangesRow, standIns := [], harness := (true, "906bd88376adb2a33bdca8d5e6158a6488002aa25ef130c1df1efe744db39683"), looks := false }, kinds := [], alts := [], laidByText := true, laidKinds := [.data, .data, .data, .data], laidTests := true, laidLooks := .later }
def CoverChangesCardSaid : Prop := Claim7.holds Tryz.pinned (.plain (OpenSpec.ofChange coverChangesSpec)) coverChangesCard

/-- THE TIED CARD OF 'moveoutlaw04.CoverFolds'. -/
def coverFoldsCard : Claim7 := { stood := { row := coverFoldsRow, standIns := [], harness := (true, "906bd88376adb2a33bdca8d5e6158a6488002aa25ef130c1df1efe744db39683"), looks := false }, kinds := [], alts := [], laidByText := true, laidKinds := [.data, .data, .data, .data], laidTests := true, laidLooks := .later }
def CoverFoldsCardSaid : Prop := Claim7.holds Tryz.pinned (.plain (OpenSpec.ofChange coverFoldsSpec)) coverFoldsCard

/-- THE TIED CARD OF 'moveoutlaw04.CoverCounted'. -/
def coverCountedCard : Claim7 := { stood := { row := coverCountedRow, standIns := [], harness := (true, "906bd88376adb2a33bdca8d5e6158a6488002aa25ef130c1df1efe744db39683"), looks := false }, kinds := [], alts := [], laidByText := true, laidKinds := [.data, .data, .data, .data], laidTests := true, laidLooks := .later }
def CoverCountedCardSaid : Prop := Claim7.holds Tryz.pinned (.plain (OpenSpec.ofChange coverCountedSpec)) coverCountedCard

/-- THE TIED CARD OF 'moveoutlaw04.CoverMoved'. -/
def coverMovedCard : Claim7 := { stood := { row := coverMovedRow, standIns := [], harness := (true, "906bd88376adb2a33bdca8d5e6158a6488002aa25ef130c1df1efe744db39683"), looks := false }, kinds := [], alts := [], laidByText := true, laidKinds := [.data, .data, .data, .data], laidTests := true, laidLooks := .later }
def CoverMovedCardSaid : Prop := Claim7.holds Tryz.pinned (.plain (OpenSpec.ofChange coverMovedSpec)) coverMovedCard

/-- THE SECOND FORM's CARD OF 'moveoutlaw04.CoverLines'. -/
def coverLinesUptoCard : Claim7 := { stood := { row := coverLinesUptoRow, standIns := [], harness := (true, "906bd88376adb2a33bdca8d5e6158a6488002aa25ef130c1df1efe744db39683"), looks := false }, kinds := [], alts := [], laidByText := true, laidKinds := [.data, .data, .data, .data], laidTests := true, laidLooks := .later }
def CoverLinesUptoCardSaid : Prop := Claim7.holds Tryz.pinned (.plain (OpenSpec.upto coverLinesSpec)) coverLinesUptoCard

/-- THE SECOND FORM's CARD OF 'moveoutlaw04.CoverChanges'. -/
def coverChangesUptoCard : Claim7 := { stood := { row := coverChangesUptoRow, standIns := [], harness := (true, "906bd88376adb2a33bdca8d5e6158a6488002aa25ef130c1df1efe744db39683"), looks := false }, kinds := [], alts := [], laidByText := true, laidKinds := [.data, .data, .data, .data], laidTests := true, laidLooks := .later }
def CoverChangesUptoCardSaid : Prop := Claim7.holds Tryz.pinned (.plain (OpenSpec.upto coverChangesSpec)) coverChangesUptoCard

/-- THE SECOND FORM's CARD OF 'moveoutlaw04.CoverFolds'. -/
def coverFoldsUptoCard : Claim7 := { stood := { row := coverFoldsUptoRow, standIns := [], harness := (true, "906bd88376adb2a33bdca8d5e6158a6488002aa25ef130c1df1efe744db39683"), looks := false }, kinds := [], alts := [], laidByText := true, laidKinds := [.data, .data, .data, .data], laidTests := true, laidLooks := .later }
def CoverFoldsUptoCardSaid : Prop := Claim7.holds Tryz.pinned (.plain (OpenSpec.upto coverFoldsSpec)) coverFoldsUptoCard

/-- THE SECOND FORM's CARD OF 'moveoutlaw04.CoverCounted'. -/
def coverCountedUptoCard : Claim7 := { stood := { row := coverCountedUptoRow, standIns := [], harness := (true, "906bd88376adb2a33bdca8d5e6158a6488002aa25ef130c1df1efe744db39683"), looks := false }, kinds := [], alts := [], laidByText := true, laidKinds := [.data, .data, .data, .data], laidTests := true, laidLooks := .later }
def CoverCountedUptoCardSaid : Prop := Claim7.holds Tryz.pinned (.plain (OpenSpec.upto coverCountedSpec)) coverCountedUptoCard

/-- THE SECOND FORM's CARD OF 'moveoutlaw04.CoverMoved'. -/
def coverMovedUptoCard : Claim7 := { stood := { row := coverMovedUptoRow, standIns := [], harness := (true, "906bd88376adb2a33bdca8d5e6158a6488002aa25ef130c1df1efe744db39683"), looks := false }, kinds := [], alts := [], laidByText := true, laidKinds := [.data, .data, .data, .data], laidTests := true, laidLooks := .later }
def CoverMovedUptoCardSaid : Prop := Claim7.holds Tryz.pinned (.plain (OpenSpec.upto coverMovedSpec)) coverMovedUptoCard
end Rows
end Go.Proofs.YtnkmencbnoipmaaGreatDoor
