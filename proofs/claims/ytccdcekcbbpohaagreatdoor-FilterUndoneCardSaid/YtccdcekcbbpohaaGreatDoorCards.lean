/-
  DERIVED. GIVEN WITH THE SEED: THE CARDS: each row of YtccdcekcbbpohaaGreatDoorRows.lean that lists a variable, with what it lists TIED to the program's text (the seventh form; the later family's looks); each row that meets fmt, with fmt's text TOLD by the authors' own Lean function (tested against real Go, not proved from fmt's source: count such statements apart). THE CARD IS WHAT COUNTS. Prove the row's statement (the work); the ties are given (YtccdcekcbbpohaaGreatDoorTie.lean); close each card by the builder's one call (the guide's Derived/Test/ToyasCard.lean, 'card_holds'). Laid BY PROGRAM, IN A SANDBOX (cutbox-door.mjs). By AI agents, Wed Nov 11 2026. No macro, syntax, notation, axiom, sorry.
-/
import Derived.Test.YtccdcekcbbpohaaGreatDoorRows
import GoSem.ClaimSeven
namespace Go.Proofs.YtccdcekcbbpohaaGreatDoor
namespace Rows

/-- THE TIED CARD OF 'moveoutlaw05.FilterAdjoint'. -/
def filterAdjointCard : Claim7 := { stood := { row := filterAdjointRow, standIns := [], harness := (true, "f7bcd929bc00289186c2ccc18c3c27208d25973e6746bcfe9edab452d33b5167"), looks := false }, kinds := [], alts := [], laidByText := true, laidKinds := [.data, .data, .data, .data, .data], laidTests := true, laidLooks := .later }
def FilterAdjointCardSaid : Prop := Claim7.holds Tryz.pinned (.plain (OpenSpec.ofChange filterAdjointSpec)) filterAdjointCard

/-- THE TIED CARD OF 'moveoutlaw05.FilterTaps'. -/
def filterTapsCard : Claim7 := { stood := { row := filterTapsRow, standIns := [], harness := (true, "f7bcd929bc00289186c2ccc18c3c27208d25973e6746bcfe9edab452d33b5167"), looks := false }, kinds := [], alts := [], laidByText := true, laidKinds := [.data, .data, .data, .data, .data], laidTests := true, laidLooks := .later }
def FilterTapsCardSaid : Prop := Claim7.holds Tryz.pinned (.plain (OpenSpec.ofChange filterTapsSpec)) filterTapsCard

/-- THE TIED CARD OF 'moveoutlaw05.FilterGhosts'. -/
def filterGhostsCard : Claim7 := { stood := { row := filterGhostsRow, standIns := [], harness := (true, "f7bcd929bc00289186c2ccc18c3c27208d25973e6746bcfe9edab452d33b5167"), looks := false }, kinds := [], alts := [], laidByText := true, laidKinds := [.data, .data, .data, .data, .data], laidTests := true, laidLooks := .later }
def FilterGhostsCardSaid : Prop := Claim7.holds Tryz.pinned (.plain (OpenSpec.ofChange filterGhostsSpec)) filterGhostsCard

/-- THE TIED CARD OF 'moveoutlaw05.FilterSubtracts'. -/
def filterSubtractsCard : Claim7 := { stood := { row := filterSubtractsRow, standIns := [], harness := (true, "f7bcd929bc00289186c2ccc18c3c27208d25973e6746bcfe9edab452d33b5167"), looks := false }, kinds := [], alts := [], laidByText := true, laidKinds := [.data, .data, .data, .data, .data], laidTests := true, laidLooks := .later }
def FilterSubtractsCardSaid : Prop := Claim7.holds Tryz.pinned (.plain (OpenSpec.ofChange filterSubtractsSpec)) filterSubtractsCard

/-- THE TIED CARD OF 'moveoutlaw05.FilterWeights'. -/
def filterWeightsCard : Claim7 := { stood := { row := filterWeightsRow, standIns := [], harness := (true, "f7bcd929bc00289186c2ccc18c3c27208d25973e6746bcfe9edab452d33b5167"), looks := false }, kinds := [], alts := [], laidByText := true, laidKinds := [.data, .data, .data, .data, .data], laidTests := true, laidLooks := .later }
def FilterWeightsCardSaid : Prop := Claim7.holds Tryz.pinned (.plain (OpenSpec.ofChange filterWeightsSpec)) filterWeightsCard

/-- THE TIED CARD OF 'moveoutlaw05.FilterTides'. -/
def filterTidesCard : Claim7 := { stood := { row := filterTidesRow, standIns := [], harness := (true, "f7bcd929bc00289186c2ccc18c3c27208d25973e6746bcfe9edab452d33b5167"), looks := false }, kinds := [], alts := [], laidByText := true, laidKinds := [.data, .data, .data, .data, .data], laidTests := true, laidLooks := .later }
def FilterTidesCardSaid : Prop := Claim7.holds Tryz.pinned (.plain (OpenSpec.ofChange filterTidesSpec)) filterTidesCard

/-- THE TIED CARD OF 'moveoutlaw05.FilterUndone'. -/
def filterUndoneCard : Claim7 := { stood := { row := filterUndoneRow, standIns := [], harness := (true, "f7bcd929bc00289186c2ccc18c3c27208d25973e6746bcfe9edab452d33b5167"), looks := false }, kinds := [], alts := [], laidByText := true, laidKinds := [.data, .data, .data, .data, .data], laidTests := true, laidLooks := .later }
def FilterUndoneCardSaid : Prop := Claim7.holds Tryz.pinned (.plain (OpenSpec.ofChange filterUndoneSpec)) filterUndoneCard

/-- THE SECOND FORM's CARD OF 'moveoutlaw05.FilterAdjoint'. -/
def filterAdjointUptoCard : Claim7 := { stood := { row := filterAdjointUptoRow, standIns := [], harness := (true, "f7bcd929bc00289186c2ccc18c3c27208d25973e6746bcfe9edab452d33b5167"), looks := false }, kinds := [], alts := [], laidByText := true, laidKinds := [.data, .data, .data, .data, .data], laidTests := true, laidLooks := .later }
def FilterAdjointUptoCardSaid : Prop := Claim7.holds Tryz.pinned (.plain (OpenSpec.upto filterAdjointSpec)) filterAdjointUptoCard

/-- THE SECOND FORM's CARD OF 'moveoutlaw05.FilterTaps'. -/
def filterTapsUptoCard : Claim7 := { stood := { row := filterTapsUptoRow, standIns := [], harness := (true, "f7bcd929bc00289186c2ccc18c3c27208d25973e6746bcfe9edab452d33b5167"), looks := false }, kinds := [], alts := [], laidByText := true, laidKinds := [.data, .data, .data, .data, .data], laidTests := true, laidLooks := .later }
def FilterTapsUptoCardSaid : Prop := Claim7.holds Tryz.pinned (.plain (OpenSpec.upto filterTapsSpec)) filterTapsUptoCard

/-- THE SECOND FORM's CARD OF 'moveoutlaw05.FilterGhosts'. -/
def filterGhostsUptoCard : Claim7 := { stood := { row := filterGhostsUptoRow, standIns := [], harness := (true, "f7bcd929bc00289186c2ccc18c3c27208d25973e6746bcfe9edab452d33b5167"), looks := false }, kinds := [], alts := [], laidByText := true, laidKinds := [.data, .data, .data, .data, .data], laidTests := true, laidLooks := .later }
def FilterGhostsUptoCardSaid : Prop := Claim7.holds Tryz.pinned (.plain (OpenSpec.upto filterGhostsSpec)) filterGhostsUptoCard

/-- THE SECOND FORM's CARD OF 'moveoutlaw05.FilterSubtracts'. -/
def filterSubtractsUptoCard : Claim7 := { stood := { row := filterSubtractsUptoRow, standIns := [], harness := (true, "f7bcd929bc00289186c2ccc18c3c27208d25973e6746bcfe9edab452d33b5167"), looks := false }, kinds := [], alts := [], laidByText := true, laidKinds := [.data, .data, .data, .data, .data], laidTests := true, laidLooks := .later }
def FilterSubtractsUptoCardSaid : Prop := Claim7.holds Tryz.pinned (.plain (OpenSpec.upto filterSubtractsSpec)) filterSubtractsUptoCard

/-- THE SECOND FORM's CARD OF 'moveoutlaw05.FilterWeights'. -/
def filterWeightsUptoCard : Claim7 := { stood := { row := filterWeightsUptoRow, standIns := [], harness := (true, "f7bcd929bc00289186c2ccc18c3c27208d25973e6746bcfe9edab452d33b5167"), looks := false }, kinds := [], alts := [], laidByText := true, laidKinds := [.data, .data, .data, .data, .data], laidTests := true, laidLooks := .later }
def FilterWeightsUptoCardSaid : Prop := Claim7.holds Tryz.pinned (.plain (OpenSpec.upto filterWeightsSpec)) filterWeightsUptoCard

/-- THE SECOND FORM's CARD OF 'moveoutlaw05.FilterTides'. -/
def filterTidesUptoCard : Claim7 := { stood := { row := filterTidesUptoRow, standIns := [], harness := (true, "f7bcd929bc00289186c2ccc18c3c27208d25973e6746bcfe9edab452d33b5167"), looks := false }, kinds := [], alts := [], laidByText := true, laidKinds := [.data, .data, .data, .data, .data], laidTests := true, laidLooks := .later }
def FilterTidesUptoCardSaid : Prop := Claim7.holds Tryz.pinned (.plain (OpenSpec.upto filterTidesSpec)) filterTidesUptoCard

/-- THE SECOND FORM's CARD OF 'moveoutlaw05.FilterUndone'. -/
def filterUndoneUptoCard : Claim7 := { stood := { row := filterUndoneUptoRow, standIns := [], harness := (true, "f7bcd929bc00289186c2ccc18c3c27208d25973e6746bcfe9edab452d33b5167"), looks := false }, kinds := [], alts := [], laidByText := true, laidKinds := [.data, .data, .data, .data, .data], laidTests := true, laidLooks := .later }
def FilterUndoneUptoCardSaid : Prop := Claim7.holds Tryz.pinned (.plain (OpenSpec.upto filterUndoneSpec)) filterUndoneUptoCard
end Rows
end Go.Proofs.YtccdcekcbbpohaaGreatDoor
