/-
  DERIVED. GIVEN WITH THE SEED: THE CARDS: each row of YtnelojhchenkhaaGreatDoorRows.lean that lists a variable, with what it lists TIED to the program's text (the seventh form; the later family's looks); each row that meets fmt, with fmt's text TOLD by the authors' own Lean function (tested against real Go, not proved from fmt's source: count such statements apart). THE CARD IS WHAT COUNTS. Prove the row's statement (the work); the ties are given (YtnelojhchenkhaaGreatDoorTie.lean); close each card by the builder's one call (the guide's Derived/Test/ToyasCard.lean, 'card_holds'). Laid BY PROGRAM, IN A SANDBOX (cutbox-door.mjs). By AI agents, Wed Nov 11 2026. No macro, syntax, notation, axiom, sorry.
-/
import Derived.Test.YtnelojhchenkhaaGreatDoorRows
import GoSem.ClaimSeven
namespace Go.Proofs.YtnelojhchenkhaaGreatDoor
namespace Rows

/-- THE TIED CARD OF 'mahlsticklaw03.CoatWords'. -/
def coatWordsCard : Claim7 := { stood := { row := coatWordsRow, standIns := [], harness := (true, "0b9b9551ab57c7025cd369a5b4195733d2cd7c021a59bfed065a058ff45290ca"), looks := true }, kinds := [], alts := [], laidByText := true, laidKinds := [.data, .data, .data, .data, .pinned], laidTests := true, laidLooks := .later }
def CoatWordsCardSaid : Prop := Claim7.holds Tryz.pinned (.plain (OpenSpec.ofChange coatWordsSpec)) coatWordsCard

/-- THE TIED CARD OF 'mahlsticklaw03.CoatHolds'. -/
def coatHoldsCard : Claim7 := { stood := { row := coatHoldsRow, standIns := [], harness := (true, "0b9b9551ab57c7025cd369a5b4195733d2cd7c021a59bfed065a058ff45290ca"), looks := true }, kinds := [], alts := [], laidByText := true, laidKinds := [.data, .data, .data, .data, .pinned], laidTests := true, laidLooks := .later }
def CoatHoldsCardSaid : Prop := Claim7.holds Tryz.pinned (.plain (OpenSpec.ofChange coatHoldsSpec)) coatHoldsCard

/-- THE TIED CARD OF 'mahlsticklaw03.CoatTrue'. -/
def coatTrueCard : Claim7 := { stood := { row := coatTrueRow, standIns := [], harness := (true, "0b9b9551ab57c7025cd369a5b4195733d2cd7c021a59bfed065a058ff45290ca"), looks := true }, kinds := [], alts := [], laidByText := true, laidKinds := [.data, .data, .data, .data, .pinned], laidTests := true, laidLooks := .later }
def CoatTrueCardSaid : Prop := Claim7.holds Tryz.pinned (.plain (OpenSpec.ofChange coatTrueSpec)) coatTrueCard

/-- THE TIED CARD OF 'mahlsticklaw03.CoatFails'. -/
def coatFailsCard : Claim7 := { stood := { row := coatFailsRow, standIns := [], harness := (true, "0b9b9551ab57c7025cd369a5b4195733d2cd7c021a59bfed065a058ff45290ca"), looks := true }, kinds := [], alts := [], laidByText := true, laidKinds := [.data, .data, .data, .data, .pinned], laidTests := true, laidLooks := .later }
def CoatFailsCardSaid : Prop := Claim7.holds Tryz.pinned (.plain (OpenSpec.ofChange coatFailsSpec)) coatFailsCard

/-- THE TIED CARD OF 'mahlsticklaw03.CoatProved'. -/
def coatProvedCard : Claim7 := { stood := { row := coatProvedRow, standIns := [], harness := (true, "0b9b9551ab57c7025cd369a5b4195733d2cd7c021a59bfed065a058ff45290ca"), looks := true }, kinds := [], alts := [], laidByText := true, laidKinds := [.data, .data, .data, .data, .pinned], laidTests := true, laidLooks := .later }
def CoatProvedCardSaid : Prop := Claim7.holds Tryz.pinned (.plain (OpenSpec.ofChange coatProvedSpec)) coatProvedCard

/-- THE TIED CARD OF 'mahlsticklaw03.CoatFirsts'. -/
def coatFirstsCard : Claim7 := { stood := { row := coatFirstsRow, standIns := [], harness := (true, "0b9b9551ab57c7025cd369a5b4195733d2cd7c021a59bfed065a058ff45290ca"), looks := true }, kinds := [], alts := [], laidByText := true, laidKinds := [.data, .data, .data, .data, .pinned], laidTests := true, laidLooks := .later }
def CoatFirstsCardSaid : Prop := Claim7.holds Tryz.pinned (.plain (OpenSpec.ofChange coatFirstsSpec)) coatFirstsCard

/-- THE TIED CARD OF 'mahlsticklaw03.CoatRival'. -/
def coatRivalCard : Claim7 := { stood := { row := coatRivalRow, standIns := [], harness := (true, "0b9b9551ab57c7025cd369a5b4195733d2cd7c021a59bfed065a058ff45290ca"), looks := true }, kinds := [], alts := [], laidByText := true, laidKinds := [.data, .data, .data, .data, .pinned], laidTests := true, laidLooks := .later }
def CoatRivalCardSaid : Prop := Claim7.holds Tryz.pinned (.plain (OpenSpec.ofChange coatRivalSpec)) coatRivalCard

/-- THE TIED CARD OF 'mahlsticklaw03.CoatDays'. -/
def coatDaysCard : Claim7 := { stood := { row := coatDaysRow, standIns := [], harness := (true, "0b9b9551ab57c7025cd369a5b4195733d2cd7c021a59bfed065a058ff45290ca"), looks := true }, kinds := [], alts := [], laidByText := true, laidKinds := [.data, .data, .data, .data, .pinned], laidTests := true, laidLooks := .later }
def CoatDaysCardSaid : Prop := Claim7.holds Tryz.pinned (.plain (OpenSpec.ofChange coatDaysSpec)) coatDaysCard

/-- THE TIED CARD OF 'mahlsticklaw03.CoatStucks'. -/
def coatStucksCard : Claim7 := { stood := { row := coatStucksRow, standIns := [], harness := (true, "0b9b9551ab57c7025cd369a5b4195733d2cd7c021a59bfed065a058ff45290ca"), looks := true }, kinds := [], alts := [], laidByText := true, laidKinds := [.data, .data, .data, .data, .pinned], laidTests := true, laidLooks := .later }
def CoatStucksCardSaid : Prop := Claim7.holds Tryz.pinned (.plain (OpenSpec.ofChange coatStucksSpec)) coatStucksCard

/-- THE TIED CARD OF 'mahlsticklaw03.CoatPrints'. -/
def coatPrintsCard : Claim7 := { stood := { row := coatPrintsRow, standIns := [], harness := (true, "0b9b9551ab57c7025cd369a5b4195733d2cd7c021a59bfed065a058ff45290ca"), looks := true }, kinds := [], alts := [], laidByText := true, laidKinds := [.data, .data, .data, .data, .pinned], laidTests := true, laidLooks := .later }
def CoatPrintsCardSaid : Prop := Claim7.holds Tryz.pinned (.plain (OpenSpec.ofChange coatPrintsSpec)) coatPrintsCard

/-- THE TIED CARD OF 'mahlsticklaw03.CoatReads'. -/
def coatReadsCard : Claim7 := { stood := { row := coatReadsRow, standIns := [], harness := (true, "0b9b9551ab57c7025cd369a5b4195733d2cd7c021a59bfed065a058ff45290ca"), looks := true }, kinds := [], alts := [], laidByText := true, laidKinds := [.data, .data, .data, .data, .pinned], laidTests := true, laidLooks := .later }
def CoatReadsCardSaid : Prop := Claim7.holds Tryz.pinned (.plain (OpenSpec.ofChange coatReadsSpec)) coatReadsCard

/-- THE TIED CARD OF 'mahlsticklaw03.CoatSpoilt'. -/
def coatSpoiltCard : Claim7 := { stood := { row := coatSpoiltRow, standIns := [], harness := (true, "0b9b9551ab57c7025cd369a5b4195733d2cd7c021a59bfed065a058ff45290ca"), looks := true }, kinds := [], alts := [], laidByText := true, laidKinds := [.data, .data, .data, .data, .pinned], laidTests := true, laidLooks := .later }
def CoatSpoiltCardSaid : Prop := Claim7.holds Tryz.pinned (.plain (OpenSpec.ofChange coatSpoiltSpec)) coatSpoiltCard

/-- THE SECOND FORM's CARD OF 'mahlsticklaw03.CoatWords'. -/
def coatWordsUptoCard : Claim7 := { stood := { row := coatWordsUptoRow, standIns := [], harness := (true, "0b9b9551ab57c7025cd369a5b4195733d2cd7c021a59bfed065a058ff45290ca"), looks := true }, kinds := [], alts := [], laidByText := true, laidKinds := [.data, .data, .data, .data, .pinned], laidTests := true, laidLooks := .later }
def CoatWordsUptoCardSaid : Prop := Claim7.holds Tryz.pinned (.plain (OpenSpec.upto coatWordsSpec)) coatWordsUptoCard

/-- THE SECOND FORM's CARD OF 'mahlsticklaw03.CoatHolds'. -/
def coatHoldsUptoCard : Claim7 := { stood := { row := coatHoldsUptoRow, standIns := [], harness := (true, "0b9b9551ab57c7025cd369a5b4195733d2cd7c021a59bfed065a058ff45290ca"), looks := true }, kinds := [], alts := [], laidByText := true, laidKinds := [.data, .data, .data, .data, .pinned], laidTests := true, laidLooks := .later }
def CoatHoldsUptoCardSaid : Prop := Claim7.holds Tryz.pinned (.plain (OpenSpec.upto coatHoldsSpec)) coatHoldsUptoCard

/-- THE SECOND FORM's CARD OF 'mahlsticklaw03.CoatTrue'. -/
def coatTrueUptoCard : Claim7 := { stood := { row := coatTrueUptoRow, standIns := [], harness := (true, "0b9b9551ab57c7025cd369a5b4195733d2cd7c021a59bfed065a058ff45290ca"), looks := true }, kinds := [], alts := [], laidByText := true, laidKinds := [.data, .data, .data, .data, .pinned], laidTests := true, laidLooks := .later }
def CoatTrueUptoCardSaid : Prop := Claim7.holds Tryz.pinned (.plain (OpenSpec.upto coatTrueSpec)) coatTrueUptoCard

/-- THE SECOND FORM's CARD OF 'mahlsticklaw03.CoatFails'. -/
def coatFailsUptoCard : Claim7 := { stood := { row := coatFailsUptoRow, standIns := [], harness := (true, "0b9b9551ab57c7025cd369a5b4195733d2cd7c021a59bfed065a058ff45290ca"), looks := true }, kinds := [], alts := [], laidByText := true, laidKinds := [.data, .data, .data, .data, .pinned], laidTests := true, laidLooks := .later }
def CoatFailsUptoCardSaid : Prop := Claim7.holds Tryz.pinned (.plain (OpenSpec.upto coatFailsSpec)) coatFailsUptoCard

/-- THE SECOND FORM's CARD OF 'mahlsticklaw03.CoatProved'. -/
def coatProvedUptoCard : Claim7 := { stood := { row := coatProvedUptoRow, standIns := [], harness := (true, "0b9b9551ab57c7025cd369a5b4195733d2cd7c021a59bfed065a058ff45290ca"), looks := true }, kinds := [], alts := [], laidByText := true, laidKinds := [.data, .data, .data, .data, .pinned], laidTests := true, laidLooks := .later }
def CoatProvedUptoCardSaid : Prop := Claim7.holds Tryz.pinned (.plain (OpenSpec.upto coatProvedSpec)) coatProvedUptoCard

/-- THE SECOND FORM's CARD OF 'mahlsticklaw03.CoatFirsts'. -/
def coatFirstsUptoCard : Claim7 := { stood := { row := coatFirstsUptoRow, standIns := [], harness := (true, "0b9b9551ab57c7025cd369a5b4195733d2cd7c021a59bfed065a058ff45290ca"), looks := true }, kinds := [], alts := [], laidByText := true, laidKinds := [.data, .data, .data, .data, .pinned], laidTests := true, laidLooks := .later }
def CoatFirstsUptoCardSaid : Prop := Claim7.holds Tryz.pinned (.plain (OpenSpec.upto coatFirstsSpec)) coatFirstsUptoCard

/-- THE SECOND FORM's CARD OF 'mahlsticklaw03.CoatRival'. -/
def coatRivalUptoCard : Claim7 := { stood := { row := coatRivalUptoRow, standIns := [], harness := (true, "0b9b9551ab57c7025cd369a5b4195733d2cd7c021a59bfed065a058ff45290ca"), looks := true }, kinds := [], alts := [], laidByText := true, laidKinds := [.data, .data, .data, .data, .pinned], laidTests := true, laidLooks := .later }
def CoatRivalUptoCardSaid : Prop := Claim7.holds Tryz.pinned (.plain (OpenSpec.upto coatRivalSpec)) coatRivalUptoCard

/-- THE SECOND FORM's CARD OF 'mahlsticklaw03.CoatDays'. -/
def coatDaysUptoCard : Claim7 := { stood := { row := coatDaysUptoRow, standIns := [], harness := (true, "0b9b9551ab57c7025cd369a5b4195733d2cd7c021a59bfed065a058ff45290ca"), looks := true }, kinds := [], alts := [], laidByText := true, laidKinds := [.data, .data, .data, .data, .pinned], laidTests := true, laidLooks := .later }
def CoatDaysUptoCardSaid : Prop := Claim7.holds Tryz.pinned (.plain (OpenSpec.upto coatDaysSpec)) coatDaysUptoCard

/-- THE SECOND FORM's CARD OF 'mahlsticklaw03.CoatStucks'. -/
def coatStucksUptoCard : Claim7 := { stood := { row := coatStucksUptoRow, standIns := [], harness := (true, "0b9b9551ab57c7025cd369a5b4195733d2cd7c021a59bfed065a058ff45290ca"), looks := true }, kinds := [], alts := [], laidByText := true, laidKinds := [.data, .data, .data, .data, .pinned], laidTests := true, laidLooks := .later }
def CoatStucksUptoCardSaid : Prop := Claim7.holds Tryz.pinned (.plain (OpenSpec.upto coatStucksSpec)) coatStucksUptoCard

/-- THE SECOND FORM's CARD OF 'mahlsticklaw03.CoatPrints'. -/
def coatPrintsUptoCard : Claim7 := { stood := { row := coatPrintsUptoRow, standIns := [], harness := (true, "0b9b9551ab57c7025cd369a5b4195733d2cd7c021a59bfed065a058ff45290ca"), looks := true }, kinds := [], alts := [], laidByText := true, laidKinds := [.data, .data, .data, .data, .pinned], laidTests := true, laidLooks := .later }
def CoatPrintsUptoCardSaid : Prop := Claim7.holds Tryz.pinned (.plain (OpenSpec.upto coatPrintsSpec)) coatPrintsUptoCard

/-- THE SECOND FORM's CARD OF 'mahlsticklaw03.CoatReads'. -/
def coatReadsUptoCard : Claim7 := { stood := { row := coatReadsUptoRow, standIns := [], harness := (true, "0b9b9551ab57c7025cd369a5b4195733d2cd7c021a59bfed065a058ff45290ca"), looks := true }, kinds := [], alts := [], laidByText := true, laidKinds := [.data, .data, .data, .data, .pinned], laidTests := true, laidLooks := .later }
def CoatReadsUptoCardSaid : Prop := Claim7.holds Tryz.pinned (.plain (OpenSpec.upto coatReadsSpec)) coatReadsUptoCard

/-- THE SECOND FORM's CARD OF 'mahlsticklaw03.CoatSpoilt'. -/
def coatSpoiltUptoCard : Claim7 := { stood := { row := coatSpoiltUptoRow, standIns := [], harness := (true, "0b9b9551ab57c7025cd369a5b4195733d2cd7c021a59bfed065a058ff45290ca"), looks := true }, kinds := [], alts := [], laidByText := true, laidKinds := [.data, .data, .data, .data, .pinned], laidTests := true, laidLooks := .later }
def CoatSpoiltUptoCardSaid : Prop := Claim7.holds Tryz.pinned (.plain (OpenSpec.upto coatSpoiltSpec)) coatSpoiltUptoCard
end Rows
end Go.Proofs.YtnelojhchenkhaaGreatDoor
