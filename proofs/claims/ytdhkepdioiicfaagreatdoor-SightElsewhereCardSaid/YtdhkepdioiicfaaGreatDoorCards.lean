/-
  DERIVED. GIVEN WITH THE SEED: THE CARDS: each row of YtdhkepdioiicfaaGreatDoorRows.lean that lists a variable, with what it lists TIED to the program's text (the seventh form; the later family's looks); each row that meets fmt, with fmt's text TOLD by the authors' own Lean function (tested against real Go, not proved from fmt's source: count such statements apart). THE CARD IS WHAT COUNTS. Prove the row's statement (the work); the ties are given (YtdhkepdioiicfaaGreatDoorTie.lean); close each card by the builder's one call (the guide's Derived/Test/ToyasCard.lean, 'card_holds'). Laid BY PROGRAM, IN A SANDBOX (cutbox-door.mjs). By AI agents, Wed Nov 11 2026. No macro, syntax, notation, axiom, sorry.
-/
import Derived.Test.YtdhkepdioiicfaaGreatDoorRows
import GoSem.ClaimSeven
namespace Go.Proofs.YtdhkepdioiicfaaGreatDoor
namespace Rows

/-- THE TIED CARD OF 'mahlsticklaw02.SightManys'. -/
def sightManysCard : Claim7 := { stood := { row := sightManysRow, standIns := [], harness := (true, "989d2c3afb496de0128fe5970946acfee7ad703e82d3bfa40474dda0db2b68ac"), looks := true }, kinds := [], alts := [], laidByText := true, laidKinds := [.data, .data, .data, .data, .pinned], laidTests := true, laidLooks := .later }
def SightManysCardSaid : Prop := Claim7.holds Tryz.pinned (.plain (OpenSpec.ofChange sightManysSpec)) sightManysCard

/-- THE TIED CARD OF 'mahlsticklaw02.SightAway'. -/
def sightAwayCard : Claim7 := { stood := { row := sightAwayRow, standIns := [], harness := (true, "989d2c3afb496de0128fe5970946acfee7ad703e82d3bfa40474dda0db2b68ac"), looks := true }, kinds := [], alts := [], laidByText := true, laidKinds := [.data, .data, .data, .data, .pinned], laidTests := true, laidLooks := .later }
def SightAwayCardSaid : Prop := Claim7.holds Tryz.pinned (.plain (OpenSpec.ofChange sightAwaySpec)) sightAwayCard

/-- THE TIED CARD OF 'mahlsticklaw02.SightBoths'. -/
def sightBothsCard : Claim7 := { stood := { row := sightBothsRow, standIns := [], harness := (true, "989d2c3afb496de0128fe5970946acfee7ad703e82d3bfa40474dda0db2b68ac"), looks := true }, kinds := [], alts := [], laidByText := true, laidKinds := [.data, .data, .data, .data, .pinned], laidTests := true, laidLooks := .later }
def SightBothsCardSaid : Prop := Claim7.holds Tryz.pinned (.plain (OpenSpec.ofChange sightBothsSpec)) sightBothsCard

/-- THE TIED CARD OF 'mahlsticklaw02.SightShared'. -/
def sightSharedCard : Claim7 := { stood := { row := sightSharedRow, standIns := [], harness := (true, "989d2c3afb496de0128fe5970946acfee7ad703e82d3bfa40474dda0db2b68ac"), looks := true }, kinds := [], alts := [], laidByText := true, laidKinds := [.data, .data, .data, .data, .pinned], laidTests := true, laidLooks := .later }
def SightSharedCardSaid : Prop := Claim7.holds Tryz.pinned (.plain (OpenSpec.ofChange sightSharedSpec)) sightSharedCard

/-- THE TIED CARD OF 'mahlsticklaw02.SightLit'. -/
def sightLitCard : Claim7 := { stood := { row := sightLitRow, standIns := [], harness := (true, "989d2c3afb496de0128fe5970946acfee7ad703e82d3bfa40474dda0db2b68ac"), looks := true }, kinds := [], alts := [], laidByText := true, laidKinds := [.data, .data, .data, .data, .pinned], laidTests := true, laidLooks := .later }
def SightLitCardSaid : Prop := Claim7.holds Tryz.pinned (.plain (OpenSpec.ofChange sightLitSpec)) sightLitCard

/-- THE TIED CARD OF 'mahlsticklaw02.SightHangs'. -/
def sightHangsCard : Claim7 := { stood := { row := sightHangsRow, standIns := [], harness := (true, "989d2c3afb496de0128fe5970946acfee7ad703e82d3bfa40474dda0db2b68ac"), looks := true }, kinds := [], alts := [], laidByText := true, laidKinds := [.data, .data, .data, .data, .pinned], laidTests := true, laidLooks := .later }
def SightHangsCardSaid : Prop := Claim7.holds Tryz.pinned (.plain (OpenSpec.ofChange sightHangsSpec)) sightHangsCard

/-- THE TIED CARD OF 'mahlsticklaw02.SightElsewhere'. -/
def sightElsewhereCard : Claim7 := { stood := { row := sightElsewhereRow, standIns := [], harness := (true, "989d2c3afb496de0128fe5970946acfee7ad703e82d3bfa40474dda0db2b68ac"), looks := true }, kinds := [], alts := [], laidByText := true, laidKinds := [.data, .data, .data, .data, .pinned], laidTests := true, laidLooks := .later }
def SightElsewhereCardSaid : Prop := Claim7.holds Tryz.pinned (.plain (OpenSpec.ofChange sightElsewhereSpec)) sightElsewhereCard

/-- THE TIED CARD OF 'mahlsticklaw02.SightMore'. -/
def sightMoreCard : Claim7 := { stood := { row := sightMoreRow, standIns := [], harness := (true, "989d2c3afb496de0128fe5970946acfee7ad703e82d3bfa40474dda0db2b68ac"), looks := true }, kinds := [], alts := [], laidByText := true, laidKinds := [.data, .data, .data, .data, .pinned], laidTests := true, laidLooks := .later }
def SightMoreCardSaid : Prop := Claim7.holds Tryz.pinned (.plain (OpenSpec.ofChange sightMoreSpec)) sightMoreCard

/-- THE TIED CARD OF 'mahlsticklaw02.SightTurned'. -/
def sightTurnedCard : Claim7 := { stood := { row := sightTurnedRow, standIns := [], harness := (true, "989d2c3afb496de0128fe5970946acfee7ad703e82d3bfa40474dda0db2b68ac"), looks := true }, kinds := [], alts := [], laidByText := true, laidKinds := [.data, .data, .data, .data, .pinned], laidTests := true, laidLooks := .later }
def SightTurnedCardSaid : Prop := Claim7.holds Tryz.pinned (.plain (OpenSpec.ofChange sightTurnedSpec)) sightTurnedCard

/-- THE TIED CARD OF 'mahlsticklaw02.SightPrints'. -/
def sightPrintsCard : Claim7 := { stood := { row := sightPrintsRow, standIns := [], harness := (true, "989d2c3afb496de0128fe5970946acfee7ad703e82d3bfa40474dda0db2b68ac"), looks := true }, kinds := [], alts := [], laidByText := true, laidKinds := [.data, .data, .data, .data, .pinned], laidTests := true, laidLooks := .later }
def SightPrintsCardSaid : Prop := Claim7.holds Tryz.pinned (.plain (OpenSpec.ofChange sightPrintsSpec)) sightPrintsCard

/-- THE TIED CARD OF 'mahlsticklaw02.SightReads'. -/
def sightReadsCard : Claim7 := { stood := { row := sightReadsRow, standIns := [], harness := (true, "989d2c3afb496de0128fe5970946acfee7ad703e82d3bfa40474dda0db2b68ac"), looks := true }, kinds := [], alts := [], laidByText := true, laidKinds := [.data, .data, .data, .data, .pinned], laidTests := true, laidLooks := .later }
def SightReadsCardSaid : Prop := Claim7.holds Tryz.pinned (.plain (OpenSpec.ofChange sightReadsSpec)) sightReadsCard

/-- THE TIED CARD OF 'mahlsticklaw02.SightSpoilt'. -/
def sightSpoiltCard : Claim7 := { stood := { row := sightSpoiltRow, standIns := [], harness := (true, "989d2c3afb496de0128fe5970946acfee7ad703e82d3bfa40474dda0db2b68ac"), looks := true }, kinds := [], alts := [], laidByText := true, laidKinds := [.data, .data, .data, .data, .pinned], laidTests := true, laidLooks := .later }
def SightSpoiltCardSaid : Prop := Claim7.holds Tryz.pinned (.plain (OpenSpec.ofChange sightSpoiltSpec)) sightSpoiltCard

/-- THE SECOND FORM's CARD OF 'mahlsticklaw02.SightManys'. -/
def sightManysUptoCard : Claim7 := { stood := { row := sightManysUptoRow, standIns := [], harness := (true, "989d2c3afb496de0128fe5970946acfee7ad703e82d3bfa40474dda0db2b68ac"), looks := true }, kinds := [], alts := [], laidByText := true, laidKinds := [.data, .data, .data, .data, .pinned], laidTests := true, laidLooks := .later }
def SightManysUptoCardSaid : Prop := Claim7.holds Tryz.pinned (.plain (OpenSpec.upto sightManysSpec)) sightManysUptoCard

/-- THE SECOND FORM's CARD OF 'mahlsticklaw02.SightAway'. -/
def sightAwayUptoCard : Claim7 := { stood := { row := sightAwayUptoRow, standIns := [], harness := (true, "989d2c3afb496de0128fe5970946acfee7ad703e82d3bfa40474dda0db2b68ac"), looks := true }, kinds := [], alts := [], laidByText := true, laidKinds := [.data, .data, .data, .data, .pinned], laidTests := true, laidLooks := .later }
def SightAwayUptoCardSaid : Prop := Claim7.holds Tryz.pinned (.plain (OpenSpec.upto sightAwaySpec)) sightAwayUptoCard

/-- THE SECOND FORM's CARD OF 'mahlsticklaw02.SightBoths'. -/
def sightBothsUptoCard : Claim7 := { stood := { row := sightBothsUptoRow, standIns := [], harness := (true, "989d2c3afb496de0128fe5970946acfee7ad703e82d3bfa40474dda0db2b68ac"), looks := true }, kinds := [], alts := [], laidByText := true, laidKinds := [.data, .data, .data, .data, .pinned], laidTests := true, laidLooks := .later }
def SightBothsUptoCardSaid : Prop := Claim7.holds Tryz.pinned (.plain (OpenSpec.upto sightBothsSpec)) sightBothsUptoCard

/-- THE SECOND FORM's CARD OF 'mahlsticklaw02.SightShared'. -/
def sightSharedUptoCard : Claim7 := { stood := { row := sightSharedUptoRow, standIns := [], harness := (true, "989d2c3afb496de0128fe5970946acfee7ad703e82d3bfa40474dda0db2b68ac"), looks := true }, kinds := [], alts := [], laidByText := true, laidKinds := [.data, .data, .data, .data, .pinned], laidTests := true, laidLooks := .later }
def SightSharedUptoCardSaid : Prop := Claim7.holds Tryz.pinned (.plain (OpenSpec.upto sightSharedSpec)) sightSharedUptoCard

/-- THE SECOND FORM's CARD OF 'mahlsticklaw02.SightLit'. -/
def sightLitUptoCard : Claim7 := { stood := { row := sightLitUptoRow, standIns := [], harness := (true, "989d2c3afb496de0128fe5970946acfee7ad703e82d3bfa40474dda0db2b68ac"), looks := true }, kinds := [], alts := [], laidByText := true, laidKinds := [.data, .data, .data, .data, .pinned], laidTests := true, laidLooks := .later }
def SightLitUptoCardSaid : Prop := Claim7.holds Tryz.pinned (.plain (OpenSpec.upto sightLitSpec)) sightLitUptoCard

/-- THE SECOND FORM's CARD OF 'mahlsticklaw02.SightHangs'. -/
def sightHangsUptoCard : Claim7 := { stood := { row := sightHangsUptoRow, standIns := [], harness := (true, "989d2c3afb496de0128fe5970946acfee7ad703e82d3bfa40474dda0db2b68ac"), looks := true }, kinds := [], alts := [], laidByText := true, laidKinds := [.data, .data, .data, .data, .pinned], laidTests := true, laidLooks := .later }
def SightHangsUptoCardSaid : Prop := Claim7.holds Tryz.pinned (.plain (OpenSpec.upto sightHangsSpec)) sightHangsUptoCard

/-- THE SECOND FORM's CARD OF 'mahlsticklaw02.SightElsewhere'. -/
def sightElsewhereUptoCard : Claim7 := { stood := { row := sightElsewhereUptoRow, standIns := [], harness := (true, "989d2c3afb496de0128fe5970946acfee7ad703e82d3bfa40474dda0db2b68ac"), looks := true }, kinds := [], alts := [], laidByText := true, laidKinds := [.data, .data, .data, .data, .pinned], laidTests := true, laidLooks := .later }
def SightElsewhereUptoCardSaid : Prop := Claim7.holds Tryz.pinned (.plain (OpenSpec.upto sightElsewhereSpec)) sightElsewhereUptoCard

/-- THE SECOND FORM's CARD OF 'mahlsticklaw02.SightMore'. -/
def sightMoreUptoCard : Claim7 := { stood := { row := sightMoreUptoRow, standIns := [], harness := (true, "989d2c3afb496de0128fe5970946acfee7ad703e82d3bfa40474dda0db2b68ac"), looks := true }, kinds := [], alts := [], laidByText := true, laidKinds := [.data, .data, .data, .data, .pinned], laidTests := true, laidLooks := .later }
def SightMoreUptoCardSaid : Prop := Claim7.holds Tryz.pinned (.plain (OpenSpec.upto sightMoreSpec)) sightMoreUptoCard

/-- THE SECOND FORM's CARD OF 'mahlsticklaw02.SightTurned'. -/
def sightTurnedUptoCard : Claim7 := { stood := { row := sightTurnedUptoRow, standIns := [], harness := (true, "989d2c3afb496de0128fe5970946acfee7ad703e82d3bfa40474dda0db2b68ac"), looks := true }, kinds := [], alts := [], laidByText := true, laidKinds := [.data, .data, .data, .data, .pinned], laidTests := true, laidLooks := .later }
def SightTurnedUptoCardSaid : Prop := Claim7.holds Tryz.pinned (.plain (OpenSpec.upto sightTurnedSpec)) sightTurnedUptoCard

/-- THE SECOND FORM's CARD OF 'mahlsticklaw02.SightPrints'. -/
def sightPrintsUptoCard : Claim7 := { stood := { row := sightPrintsUptoRow, standIns := [], harness := (true, "989d2c3afb496de0128fe5970946acfee7ad703e82d3bfa40474dda0db2b68ac"), looks := true }, kinds := [], alts := [], laidByText := true, laidKinds := [.data, .data, .data, .data, .pinned], laidTests := true, laidLooks := .later }
def SightPrintsUptoCardSaid : Prop := Claim7.holds Tryz.pinned (.plain (OpenSpec.upto sightPrintsSpec)) sightPrintsUptoCard

/-- THE SECOND FORM's CARD OF 'mahlsticklaw02.SightReads'. -/
def sightReadsUptoCard : Claim7 := { stood := { row := sightReadsUptoRow, standIns := [], harness := (true, "989d2c3afb496de0128fe5970946acfee7ad703e82d3bfa40474dda0db2b68ac"), looks := true }, kinds := [], alts := [], laidByText := true, laidKinds := [.data, .data, .data, .data, .pinned], laidTests := true, laidLooks := .later }
def SightReadsUptoCardSaid : Prop := Claim7.holds Tryz.pinned (.plain (OpenSpec.upto sightReadsSpec)) sightReadsUptoCard

/-- THE SECOND FORM's CARD OF 'mahlsticklaw02.SightSpoilt'. -/
def sightSpoiltUptoCard : Claim7 := { stood := { row := sightSpoiltUptoRow, standIns := [], harness := (true, "989d2c3afb496de0128fe5970946acfee7ad703e82d3bfa40474dda0db2b68ac"), looks := true }, kinds := [], alts := [], laidByText := true, laidKinds := [.data, .data, .data, .data, .pinned], laidTests := true, laidLooks := .later }
def SightSpoiltUptoCardSaid : Prop := Claim7.holds Tryz.pinned (.plain (OpenSpec.upto sightSpoiltSpec)) sightSpoiltUptoCard
end Rows
end Go.Proofs.YtdhkepdioiicfaaGreatDoor
