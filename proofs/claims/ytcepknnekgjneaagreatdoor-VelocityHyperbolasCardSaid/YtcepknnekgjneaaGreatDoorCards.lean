/-
  DERIVED. GIVEN WITH THE SEED: THE CARDS: each row of YtcepknnekgjneaaGreatDoorRows.lean that lists a variable, with what it lists TIED to the program's text (the seventh form; the later family's looks); each row that meets fmt, with fmt's text TOLD by the authors' own Lean function (tested against real Go, not proved from fmt's source: count such statements apart). THE CARD IS WHAT COUNTS. Prove the row's statement (the work); the ties are given (YtcepknnekgjneaaGreatDoorTie.lean); close each card by the builder's one call (the guide's Derived/Test/ToyasCard.lean, 'card_holds'). Laid BY PROGRAM, IN A SANDBOX (cutbox-door.mjs). By AI agents, Wed Nov 11 2026. No macro, syntax, notation, axiom, sorry.
-/
import Derived.Test.YtcepknnekgjneaaGreatDoorRows
import GoSem.ClaimSeven
namespace Go.Proofs.YtcepknnekgjneaaGreatDoor
namespace Rows

/-- THE TIED CARD OF 'moveoutlaw06.VelocityMoved'. -/
def velocityMovedCard : Claim7 := { stood := { row := velocityMovedRow, standIns := [], harness := (true, "789516b553612cd228f4d8dcbdfd052f17b8666c59e2c61a64db5d4d823ddea1"), looks := false }, kinds := [], alts := [], laidByText := true, laidKinds := [.data, .data, .data, .data], laidTests := true, laidLooks := .later }
def VelocityMovedCardSaid : Prop := Claim7.holds Tryz.pinned (.plain (OpenSpec.ofChange velocityMovedSpec)) velocityMovedCard

/-- THE TIED CARD OF 'moveoutlaw06.VelocityPaths'. -/
def velocityPathsCard : Claim7 := { stood := { row := velocityPathsRow, standIns := [], harness := (true, "789516b553612cd228f4d8dcbdfd052f17b8666c59e2c61a64db5d4d823ddea1"), looks := false }, kinds := [], alts := [], laidByText := true, laidKinds := [.data, .data, .data, .data], laidTests := true, laidLooks := .later }
def VelocityPathsCardSaid : Prop := Claim7.holds Tryz.pinned (.plain (OpenSpec.ofChange velocityPathsSpec)) velocityPathsCard

/-- THE TIED CARD OF 'moveoutlaw06.VelocityPotentials'. -/
def velocityPotentialsCard : Claim7 := { stood := { row := velocityPotentialsRow, standIns := [], harness := (true, "789516b553612cd228f4d8dcbdfd052f17b8666c59e2c61a64db5d4d823ddea1"), looks := false }, kinds := [], alts := [], laidByText := true, laidKinds := [.data, .data, .data, .data], laidTests := true, laidLooks := .later }
def VelocityPotentialsCardSaid : Prop := Claim7.holds Tryz.pinned (.plain (OpenSpec.ofChange velocityPotentialsSpec)) velocityPotentialsCard

/-- THE TIED CARD OF 'moveoutlaw06.VelocityMoments'. -/
def velocityMomentsCard : Claim7 := { stood := { row := velocityMomentsRow, standIns := [], harness := (true, "789516b553612cd228f4d8dcbdfd052f17b8666c59e2c61a64db5d4d823ddea1"), looks := false }, kinds := [], alts := [], laidByText := true, laidKinds := [.data, .data, .data, .data], laidTests := true, laidLooks := .later }
def VelocityMomentsCardSaid : Prop := Claim7.holds Tryz.pinned (.plain (OpenSpec.ofChange velocityMomentsSpec)) velocityMomentsCard

/-- THE TIED CARD OF 'moveoutlaw06.VelocityProved'. -/
def velocityProvedCard : Claim7 := { stood := { row := velocityProvedRow, standIns := [], harness := (true, "789516b553612cd228f4d8dcbdfd052f17b8666c59e2c61a64db5d4d823ddea1"), looks := false }, kinds := [], alts := [], laidByText := true, laidKinds := [.data, .data, .data, .data], laidTests := true, laidLooks := .later }
def VelocityProvedCardSaid : Prop := Claim7.holds Tryz.pinned (.plain (OpenSpec.ofChange velocityProvedSpec)) velocityProvedCard

/-- THE TIED CARD OF 'moveoutlaw06.VelocityHyperbolas'. -/
def velocityHyperbolasCard : Claim7 := { stood := { row := velocityHyperbolasRow, standIns := [], harness := (true, "789516b553612cd228f4d8dcbdfd052f17b8666c59e2c61a64db5d4d823ddea1"), looks := false }, kinds := [], alts := [], laidByText := true, laidKinds := [.data, .data, .data, .data], laidTests := true, laidLooks := .later }
def VelocityHyperbolasCardSaid : Prop := Claim7.holds Tryz.pinned (.plain (OpenSpec.ofChange velocityHyperbolasSpec)) velocityHyperbolasCard

/-- THE TIED CARD OF 'moveoutlaw06.VelocityExplained'. -/
def velocityExplainedCard : Claim7 := { stood := { row := velocityExplainedRow, standIns := [], harness := (true, "789516b553612cd228f4d8dcbdfd052f17b8666c59e2c61a64db5d4d823ddea1"), looks := false }, kinds := [], alts := [], laidByText := true, laidKinds := [.data, .data, .data, .data], laidTests := true, laidLooks := .later }
def VelocityExplainedCardSaid : Prop := Claim7.holds Tryz.pinned (.plain (OpenSpec.ofChange velocityExplainedSpec)) velocityExplainedCard

/-- THE SECOND FORM's CARD OF 'moveoutlaw06.VelocityMoved'. -/
def velocityMovedUptoCard : Claim7 := { stood := { row := velocityMovedUptoRow, standIns := [], harness := (true, "789516b553612cd228f4d8dcbdfd052f17b8666c59e2c61a64db5d4d823ddea1"), looks := false }, kinds := [], alts := [], laidByText := true, laidKinds := [.data, .data, .data, .data], laidTests := true, laidLooks := .later }
def VelocityMovedUptoCardSaid : Prop := Claim7.holds Tryz.pinned (.plain (OpenSpec.upto velocityMovedSpec)) velocityMovedUptoCard

/-- THE SECOND FORM's CARD OF 'moveoutlaw06.VelocityPaths'. -/
def velocityPathsUptoCard : Claim7 := { stood := { row := velocityPathsUptoRow, standIns := [], harness := (true, "789516b553612cd228f4d8dcbdfd052f17b8666c59e2c61a64db5d4d823ddea1"), looks := false }, kinds := [], alts := [], laidByText := true, laidKinds := [.data, .data, .data, .data], laidTests := true, laidLooks := .later }
def VelocityPathsUptoCardSaid : Prop := Claim7.holds Tryz.pinned (.plain (OpenSpec.upto velocityPathsSpec)) velocityPathsUptoCard

/-- THE SECOND FORM's CARD OF 'moveoutlaw06.VelocityPotentials'. -/
def velocityPotentialsUptoCard : Claim7 := { stood := { row := velocityPotentialsUptoRow, standIns := [], harness := (true, "789516b553612cd228f4d8dcbdfd052f17b8666c59e2c61a64db5d4d823ddea1"), looks := false }, kinds := [], alts := [], laidByText := true, laidKinds := [.data, .data, .data, .data], laidTests := true, laidLooks := .later }
def VelocityPotentialsUptoCardSaid : Prop := Claim7.holds Tryz.pinned (.plain (OpenSpec.upto velocityPotentialsSpec)) velocityPotentialsUptoCard

/-- THE SECOND FORM's CARD OF 'moveoutlaw06.VelocityMoments'. -/
def velocityMomentsUptoCard : Claim7 := { stood := { row := velocityMomentsUptoRow, standIns := [], harness := (true, "789516b553612cd228f4d8dcbdfd052f17b8666c59e2c61a64db5d4d823ddea1"), looks := false }, kinds := [], alts := [], laidByText := true, laidKinds := [.data, .data, .data, .data], laidTests := true, laidLooks := .later }
def VelocityMomentsUptoCardSaid : Prop := Claim7.holds Tryz.pinned (.plain (OpenSpec.upto velocityMomentsSpec)) velocityMomentsUptoCard

/-- THE SECOND FORM's CARD OF 'moveoutlaw06.VelocityProved'. -/
def velocityProvedUptoCard : Claim7 := { stood := { row := velocityProvedUptoRow, standIns := [], harness := (true, "789516b553612cd228f4d8dcbdfd052f17b8666c59e2c61a64db5d4d823ddea1"), looks := false }, kinds := [], alts := [], laidByText := true, laidKinds := [.data, .data, .data, .data], laidTests := true, laidLooks := .later }
def VelocityProvedUptoCardSaid : Prop := Claim7.holds Tryz.pinned (.plain (OpenSpec.upto velocityProvedSpec)) velocityProvedUptoCard

/-- THE SECOND FORM's CARD OF 'moveoutlaw06.VelocityHyperbolas'. -/
def velocityHyperbolasUptoCard : Claim7 := { stood := { row := velocityHyperbolasUptoRow, standIns := [], harness := (true, "789516b553612cd228f4d8dcbdfd052f17b8666c59e2c61a64db5d4d823ddea1"), looks := false }, kinds := [], alts := [], laidByText := true, laidKinds := [.data, .data, .data, .data], laidTests := true, laidLooks := .later }
def VelocityHyperbolasUptoCardSaid : Prop := Claim7.holds Tryz.pinned (.plain (OpenSpec.upto velocityHyperbolasSpec)) velocityHyperbolasUptoCard

/-- THE SECOND FORM's CARD OF 'moveoutlaw06.VelocityExplained'. -/
def velocityExplainedUptoCard : Claim7 := { stood := { row := velocityExplainedUptoRow, standIns := [], harness := (true, "789516b553612cd228f4d8dcbdfd052f17b8666c59e2c61a64db5d4d823ddea1"), looks := false }, kinds := [], alts := [], laidByText := true, laidKinds := [.data, .data, .data, .data], laidTests := true, laidLooks := .later }
def VelocityExplainedUptoCardSaid : Prop := Claim7.holds Tryz.pinned (.plain (OpenSpec.upto velocityExplainedSpec)) velocityExplainedUptoCard
end Rows
end Go.Proofs.YtcepknnekgjneaaGreatDoor
