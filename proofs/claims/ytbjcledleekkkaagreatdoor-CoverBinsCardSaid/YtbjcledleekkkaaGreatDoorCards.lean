/-
  DERIVED. GIVEN WITH THE SEED: THE CARDS: each row of YtbjcledleekkkaaGreatDoorRows.lean that lists a variable, with what it lists TIED to the program's text (the seventh form; the later family's looks); each row that meets fmt, with fmt's text TOLD by the authors' own Lean function (tested against real Go, not proved from fmt's source: count such statements apart). THE CARD IS WHAT COUNTS. Prove the row's statement (the work); the ties are given (YtbjcledleekkkaaGreatDoorTie.lean); close each card by the builder's one call (the guide's Derived/Test/ToyasCard.lean, 'card_holds'). Laid BY PROGRAM, IN A SANDBOX (cutbox-door.mjs). By AI agents, Wed Nov 11 2026. No macro, syntax, notation, axiom, sorry.
-/
import Derived.Test.YtbjcledleekkkaaGreatDoorRows
import GoSem.ClaimSeven
namespace Go.Proofs.YtbjcledleekkkaaGreatDoor
namespace Rows

/-- THE TIED CARD OF 'moveoutlaw04.CoverBins'. -/
def coverBinsCard : Claim7 := { stood := { row := coverBinsRow, standIns := [], harness := (true, "18a3e20dbcf88bb1e4f9508de63129b92c433b67fc4ba4b777d1212d7d7c68a3"), looks := false }, kinds := [], alts := [], laidByText := true, laidKinds := [.data, .data, .data, .data], laidTests := true, laidLooks := .later }
def CoverBinsCardSaid : Prop := Claim7.holds Tryz.pinned (.plain (OpenSpec.ofChange coverBinsSpec)) coverBinsCard

/-- THE SECOND FORM's CARD OF 'moveoutlaw04.CoverBins'. -/
def coverBinsUptoCard : Claim7 := { stood := { row := coverBinsUptoRow, standIns := [], harness := (true, "18a3e20dbcf88bb1e4f9508de63129b92c433b67fc4ba4b777d1212d7d7c68a3"), looks := false }, kinds := [], alts := [], laidByText := true, laidKinds := [.data, .data, .data, .data], laidTests := true, laidLooks := .later }
def CoverBinsUptoCardSaid : Prop := Claim7.holds Tryz.pinned (.plain (OpenSpec.upto coverBinsSpec)) coverBinsUptoCard
end Rows
end Go.Proofs.YtbjcledleekkkaaGreatDoor
