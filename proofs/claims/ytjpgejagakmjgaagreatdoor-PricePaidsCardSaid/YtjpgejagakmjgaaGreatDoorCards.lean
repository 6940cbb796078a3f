/-
  DERIVED. GIVEN WITH THE SEED: THE CARDS: each row of YtjpgejagakmjgaaGreatDoorRows.lean that lists a variable, with what it lists TIED to the program's text (the seventh form; the later family's looks); each row that meets fmt, with fmt's text TOLD by the authors' own Lean function (tested against real Go, not proved from fmt's source: count such statements apart). THE CARD IS WHAT COUNTS. Prove the row's statement (the work); the ties are given (YtjpgejagakmjgaaGreatDoorTie.lean); close each card by the builder's one call (the guide's Derived/Test/ToyasCard.lean, 'card_holds'). Laid BY PROGRAM, IN A SANDBOX (cutbox-door.mjs). By AI agents, Wed Nov 11 2026. No macro, syntax, notation, axiom, sorry.
-/
import Derived.Test.YtjpgejagakmjgaaGreatDoorRows
import GoSem.ClaimSeven
namespace Go.Proofs.YtjpgejagakmjgaaGreatDoor
namespace Rows

/-- THE TIED CARD OF 'mahlsticklaw08.PricePaids'. -/
def pricePaidsCard : Claim7 := { stood := { row := pricePaidsRow, standIns := [], harness := (true, "00f32b70a9f45d13b6a6a160dc47c41cd62d9daee25d5ff882a4ece7263dd0b9"), looks := true }, kinds := [], alts := [], laidByText := true, laidKinds := [.data, .data, .data, .data, .pinned], laidTests := true, laidLooks := .later }
def PricePaidsCardSaid : Prop := Claim7.holds Tryz.pinned (.plain (OpenSpec.ofChange pricePaidsSpec)) pricePaidsCard

/-- THE TIED CARD OF 'mahlsticklaw08.PriceBetween'. -/
def priceBetweenCard : Claim7 := { stood := { row := priceBetweenRow, standIns := [], harness := (true, "00f32b70a9f45d13b6a6a160dc47c41cd62d9daee25d5ff882a4ece7263dd0b9"), looks := true }, kinds := [], alts := [], laidByText := true, laidKinds := [.data, .data, .data, .data, .pinned], laidTests := true, laidLooks := .later }
def PriceBetweenCardSaid : Prop := Claim7.holds Tryz.pinned (.plain (OpenSpec.ofChange priceBetweenSpec)) priceBetweenCard

/-- THE TIED CARD OF 'mahlsticklaw08.PriceParts'. -/
def pricePartsCard : Claim7 := { stood := { row := pricePartsRow, standIns := [], harness := (true, "00f32b70a9f45d13b6a6a160dc47c41cd62d9daee25d5ff882a4ece7263dd0b9"), looks := true }, kinds := [], alts := [], laidByText := true, laidKinds := [.data, .data, .data, .data, .pinned], laidTests := true, laidLooks := .later }
def PricePartsCardSaid : Prop := Claim7.holds Tryz.pinned (.plain (OpenSpec.ofChange pricePartsSpec)) pricePartsCard

/-- THE TIED CARD OF 'mahlsticklaw08.PriceRules'. -/
def priceRulesCard : Claim7 := { stood := { row := priceRulesRow, standIns := [], harness := (true, "00f32b70a9f45d13b6a6a160dc47c41cd62d9daee25d5ff882a4ece7263dd0b9"), looks := true }, kinds := [], alts := [], laidByText := true, laidKinds := [.data, .data, .data, .data, .pinned], laidTests := true, laidLooks := .later }
def PriceRulesCardSaid : Prop := Claim7.holds Tryz.pinned (.plain (OpenSpec.ofChange priceRulesSpec)) priceRulesCard

/-- THE TIED CARD OF 'mahlsticklaw08.PriceSames'. -/
def priceSamesCard : Claim7 := { stood := { row := priceSamesRow, standIns := [], harness := (true, "00f32b70a9f45d13b6a6a160dc47c41cd62d9daee25d5ff882a4ece7263dd0b9"), looks := true }, kinds := [], alts := [], laidByText := true, laidKinds := [.data, .data, .data, .data, .pinned], laidTests := true, laidLooks := .later }
def PriceSamesCardSaid : Prop := Claim7.holds Tryz.pinned (.plain (OpenSpec.ofChange priceSamesSpec)) priceSamesCard

/-- THE TIED CARD OF 'mahlsticklaw08.PriceEqual'. -/
def priceEqualCard : Claim7 := { stood := { row := priceEqualRow, standIns := [], harness := (true, "00f32b70a9f45d13b6a6a160dc47c41cd62d9daee25d5ff882a4ece7263dd0b9"), looks := true }, kinds := [], alts := [], laidByText := true, laidKinds := [.data, .data, .data, .data, .pinned], laidTests := true, laidLooks := .later }
def PriceEqualCardSaid : Prop := Claim7.holds Tryz.pinned (.plain (OpenSpec.ofChange priceEqualSpec)) priceEqualCard

/-- THE TIED CARD OF 'mahlsticklaw08.PriceWheres'. -/
def priceWheresCard : Claim7 := { stood := { row := priceWheresRow, standIns := [], harness := (true, "00f32b70a9f45d13b6a6a160dc47c41cd62d9daee25d5ff882a4ece7263dd0b9"), looks := true }, kinds := [], alts := [], laidByText := true, laidKinds := [.data, .data, .data, .data, .pinned], laidTests := true, laidLooks := .later }
def PriceWheresCardSaid : Prop := Claim7.holds Tryz.pinned (.plain (OpenSpec.ofChange priceWheresSpec)) priceWheresCard

/-- THE TIED CARD OF 'mahlsticklaw08.PriceFirst'. -/
def priceFirstCard : Claim7 := { stood := { row := priceFirstRow, standIns := [], harness := (true, "00f32b70a9f45d13b6a6a160dc47c41cd62d9daee25d5ff882a4ece7263dd0b9"), looks := true }, kinds := [], alts := [], laidByText := true, laidKinds := [.data, .data, .data, .data, .pinned], laidTests := true, laidLooks := .later }
def PriceFirstCardSaid : Prop := Claim7.holds Tryz.pinned (.plain (OpenSpec.ofChange priceFirstSpec)) priceFirstCard

/-- THE TIED CARD OF 'mahlsticklaw08.PriceChanges'. -/
def priceChangesCard : Claim7 := { stood := { row := priceChangesRow, standIns := [], harness := (true, "00f32b70a9f45d13b6a6a160dc47c41cd62d9daee25d5ff882a4ece7263dd0b9"), looks := true }, kinds := [], alts := [], laidByText := true, laidKinds := [.data, .data, .data, .data, .pinned], laidTests := true, laidLooks := .later }
def PriceChangesCardSaid : Prop := Claim7.holds Tryz.pinned (.plain (OpenSpec.ofChange priceChangesSpec)) priceChangesCard

/-- THE TIED CARD OF 'mahlsticklaw08.PriceNearest'. -/
def priceNearestCard : Claim7 := { stood := { row := priceNearestRow, standIns := [], harness := (true, "00f32b70a9f45d13b6a6a160dc47c41cd62d9daee25d5ff882a4ece7263dd0b9"), looks := true }, kinds := [], alts := [], laidByText := true, laidKinds := [.data, .data, .data, .data, .pinned], laidTests := true, laidLooks := .later }
def PriceNearestCardSaid : Prop := Claim7.holds Tryz.pinned (.plain (OpenSpec.ofChange priceNearestSpec)) priceNearestCard

/-- THE TIED CARD OF 'mahlsticklaw08.PriceShares'. -/
def priceSharesCard : Claim7 := { stood := { row := priceSharesRow, standIns := [], harness := (true, "00f32b70a9f45d13b6a6a160dc47c41cd62d9daee25d5ff882a4ece7263dd0b9"), looks := true }, kinds := [], alts := [], laidByText := true, laidKinds := [.data, .data, .data, .data, .pinned], laidTests := true, laidLooks := .later }
def PriceSharesCardSaid : Prop := Claim7.holds Tryz.pinned (.plain (OpenSpec.ofChange priceSharesSpec)) priceSharesCard

/-- THE TIED CARD OF 'mahlsticklaw08.PriceJust'. -/
def priceJustCard : Claim7 := { stood := { row := priceJustRow, standIns := [], harness := (true, "00f32b70a9f45d13b6a6a160dc47c41cd62d9daee25d5ff882a4ece7263dd0b9"), looks := true }, kinds := [], alts := [], laidByText := true, laidKinds := [.data, .data, .data, .data, .pinned], laidTests := true, laidLooks := .later }
def PriceJustCardSaid : Prop := Claim7.holds Tryz.pinned (.plain (OpenSpec.ofChange priceJustSpec)) priceJustCard

/-- THE TIED CARD OF 'mahlsticklaw08.PriceOwes'. -/
def priceOwesCard : Claim7 := { stood := { row := priceOwesRow, standIns := [], harness := (true, "00f32b70a9f45d13b6a6a160dc47c41cd62d9daee25d5ff882a4ece7263dd0b9"), looks := true }, kinds := [], alts := [], laidByText := true, laidKinds := [.data, .data, .data, .data, .pinned], laidTests := true, laidLooks := .later }
def PriceOwesCardSaid : Prop := Claim7.holds Tryz.pinned (.plain (OpenSpec.ofChange priceOwesSpec)) priceOwesCard

/-- THE TIED CARD OF 'mahlsticklaw08.PriceOff'. -/
def priceOffCard : Claim7 := { stood := { row := priceOffRow, standIns := [], harness := (true, "00f32b70a9f45d13b6a6a160dc47c41cd62d9daee25d5ff882a4ece7263dd0b9"), looks := true }, kinds := [], alts := [], laidByText := true, laidKinds := [.data, .data, .data, .data, .pinned], laidTests := true, laidLooks := .later }
def PriceOffCardSaid : Prop := Claim7.holds Tryz.pinned (.plain (OpenSpec.ofChange priceOffSpec)) priceOffCard

/-- THE TIED CARD OF 'mahlsticklaw08.PriceMore'. -/
def priceMoreCard : Claim7 := { stood := { row := priceMoreRow, standIns := [], harness := (true, "00f32b70a9f45d13b6a6a160dc47c41cd62d9daee25d5ff882a4ece7263dd0b9"), looks := true }, kinds := [], alts := [], laidByText := true, laidKinds := [.data, .data, .data, .data, .pinned], laidTests := true, laidLooks := .later }
def PriceMoreCardSaid : Prop := Claim7.holds Tryz.pinned (.plain (OpenSpec.ofChange priceMoreSpec)) priceMoreCard

/-- THE TIED CARD OF 'mahlsticklaw08.PriceMoved'. -/
def priceMovedCard : Claim7 := { stood := { row := priceMovedRow, standIns := [], harness := (true, "00f32b70a9f45d13b6a6a160dc47c41cd62d9daee25d5ff882a4ece7263dd0b9"), looks := true }, kinds := [], alts := [], laidByText := true, laidKinds := [.data, .data, .data, .data, .pinned], laidTests := true, laidLooks := .later }
def PriceMovedCardSaid : Prop := Claim7.holds Tryz.pinned (.plain (OpenSpec.ofChange priceMovedSpec)) priceMovedCard

/-- THE SECOND FORM's CARD OF 'mahlsticklaw08.PricePaids'. -/
def pricePaidsUptoCard : Claim7 := { stood := { row := pricePaidsUptoRow, standIns := [], harness := (true, "00f32b70a9f45d13b6a6a160dc47c41cd62d9daee25d5ff882a4ece7263dd0b9"), looks := true }, kinds := [], alts := [], laidByText := true, laidKinds := [.data, .data, .data, .data, .pinned], laidTests := true, laidLooks := .later }
def PricePaidsUptoCardSaid : Prop := Claim7.holds Tryz.pinned (.plain (OpenSpec.upto pricePaidsSpec)) pricePaidsUptoCard

/-- THE SECOND FORM's CARD OF 'mahlsticklaw08.PriceBetween'. -/
def priceBetweenUptoCard : Claim7 := { stood := { row := priceBetweenUptoRow, standIns := [], harness := (true, "00f32b70a9f45d13b6a6a160dc47c41cd62d9daee25d5ff882a4ece7263dd0b9"), looks := true }, kinds := [], alts := [], laidByText := true, laidKinds := [.data, .data, .data, .data, .pinned], laidTests := true, laidLooks := .later }
def PriceBetweenUptoCardSaid : Prop := Claim7.holds Tryz.pinned (.plain (OpenSpec.upto priceBetweenSpec)) priceBetweenUptoCard

/-- THE SECOND FORM's CARD OF 'mahlsticklaw08.PriceParts'. -/
def pricePartsUptoCard : Claim7 := { stood := { row := pricePartsUptoRow, standIns := [], harness := (true, "00f32b70a9f45d13b6a6a160dc47c41cd62d9daee25d5ff882a4ece7263dd0b9"), looks := true }, kinds := [], alts := [], laidByText := true, laidKinds := [.data, .data, .data, .data, .pinned], laidTests := true, laidLooks := .later }
def PricePartsUptoCardSaid : Prop := Claim7.holds Tryz.pinned (.plain (OpenSpec.upto pricePartsSpec)) pricePartsUptoCard

/-- THE SECOND FORM's CARD OF 'mahlsticklaw08.PriceRules'. -/
def priceRulesUptoCard : Claim7 := { stood := { row := priceRulesUptoRow, standIns := [], harness := (true, "00f32b70a9f45d13b6a6a160dc47c41cd62d9daee25d5ff882a4ece7263dd0b9"), looks := true }, kinds := [], alts := [], laidByText := true, laidKinds := [.data, .data, .data, .data, .pinned], laidTests := true, laidLooks := .later }
def PriceRulesUptoCardSaid : Prop := Claim7.holds Tryz.pinned (.plain (OpenSpec.upto priceRulesSpec)) priceRulesUptoCard

/-- THE SECOND FORM's CARD OF 'mahlsticklaw08.PriceSames'. -/
def priceSamesUptoCard : Claim7 := { stood := { row := priceSamesUptoRow, standIns := [], harness := (true, "00f32b70a9f45d13b6a6a160dc47c41cd62d9daee25d5ff882a4ece7263dd0b9"), looks := true }, kinds := [], alts := [], laidByText := true, laidKinds := [.data, .data, .data, .data, .pinned], laidTests := true, laidLooks := .later }
def PriceSamesUptoCardSaid : Prop := Claim7.holds Tryz.pinned (.plain (OpenSpec.upto priceSamesSpec)) priceSamesUptoCard

/-- THE SECOND FORM's CARD OF 'mahlsticklaw08.PriceEqual'. -/
def priceEqualUptoCard : Claim7 := { stood := { row := priceEqualUptoRow, standIns := [], harness := (true, "00f32b70a9f45d13b6a6a160dc47c41cd62d9daee25d5ff882a4ece7263dd0b9"), looks := true }, kinds := [], alts := [], laidByText := true, laidKinds := [.data, .data, .data, .data, .pinned], laidTests := true, laidLooks := .later }
def PriceEqualUptoCardSaid : Prop := Claim7.holds Tryz.pinned (.plain (OpenSpec.upto priceEqualSpec)) priceEqualUptoCard

/-- THE SECOND FORM's CARD OF 'mahlsticklaw08.PriceWheres'. -/
def priceWheresUptoCard : Claim7 := { stood := { row := priceWheresUptoRow, standIns := [], harness := (true, "00f32b70a9f45d13b6a6a160dc47c41cd62d9daee25d5ff882a4ece7263dd0b9"), looks := true }, kinds := [], alts := [], laidByText := true, laidKinds := [.data, .data, .data, .data, .pinned], laidTests := true, laidLooks := .later }
def PriceWheresUptoCardSaid : Prop := Claim7.holds Tryz.pinned (.plain (OpenSpec.upto priceWheresSpec)) priceWheresUptoCard

/-- THE SECOND FORM's CARD OF 'mahlsticklaw08.PriceFirst'. -/
def priceFirstUptoCard : Claim7 := { stood := { row := priceFirstUptoRow, standIns := [], harness := (true, "00f32b70a9f45d13b6a6a160dc47c41cd62d9daee25d5ff882a4ece7263dd0b9"), looks := true }, kinds := [], alts := [], laidByText := true, laidKinds := [.data, .data, .data, .data, .pinned], laidTests := true, laidLooks := .later }
def PriceFirstUptoCardSaid : Prop := Claim7.holds Tryz.pinned (.plain (OpenSpec.upto priceFirstSpec)) priceFirstUptoCard

/-- THE SECOND FORM's CARD OF 'mahlsticklaw08.PriceChanges'. -/
def priceChangesUptoCard : Claim7 := { stood := { row := priceChangesUptoRow, standIns := [], harness := (true, "00f32b70a9f45d13b6a6a160dc47c41cd62d9daee25d5ff882a4ece7263dd0b9"), looks := true }, kinds := [], alts := [], laidByText := true, laidKinds := [.data, .data, .data, .data, .pinned], laidTests := true, laidLooks := .later }
def PriceChangesUptoCardSaid : Prop := Claim7.holds Tryz.pinned (.plain (OpenSpec.upto priceChangesSpec)) priceChangesUptoCard

/-- THE SECOND FORM's CARD OF 'mahlsticklaw08.PriceNearest'. -/
def priceNearestUptoCard : Claim7 := { stood := { row := priceNearestUptoRow, standIns := [], harness := (true, "00f32b70a9f45d13b6a6a160dc47c41cd62d9daee25d5ff882a4ece7263dd0b9"), looks := true }, kinds := [], alts := [], laidByText := true, laidKinds := [.data, .data, .data, .data, .pinned], laidTests := true, laidLooks := .later }
def PriceNearestUptoCardSaid : Prop := Claim7.holds Tryz.pinned (.plain (OpenSpec.upto priceNearestSpec)) priceNearestUptoCard

/-- THE SECOND FORM's CARD OF 'mahlsticklaw08.PriceShares'. -/
def priceSharesUptoCard : Claim7 := { stood := { row := priceSharesUptoRow, standIns := [], harness := (true, "00f32b70a9f45d13b6a6a160dc47c41cd62d9daee25d5ff882a4ece7263dd0b9"), looks := true }, kinds := [], alts := [], laidByText := true, laidKinds := [.data, .data, .data, .data, .pinned], laidTests := true, laidLooks := .later }
def PriceSharesUptoCardSaid : Prop := Claim7.holds Tryz.pinned (.plain (OpenSpec.upto priceSharesSpec)) priceSharesUptoCard

/-- THE SECOND FORM's CARD OF 'mahlsticklaw08.PriceJust'. -/
def priceJustUptoCard : Claim7 := { stood := { row := priceJustUptoRow, standIns := [], harness := (true, "00f32b70a9f45d13b6a6a160dc47c41cd62d9daee25d5ff882a4ece7263dd0b9"), looks := true }, kinds := [], alts := [], laidByText := true, laidKinds := [.data, .data, .data, .data, .pinned], laidTests := true, laidLooks := .later }
def PriceJustUptoCardSaid : Prop := Claim7.holds Tryz.pinned (.plain (OpenSpec.upto priceJustSpec)) priceJustUptoCard

/-- THE SECOND FORM's CARD OF 'mahlsticklaw08.PriceOwes'. -/
def priceOwesUptoCard : Claim7 := { stood := { row := priceOwesUptoRow, standIns := [], harness := (true, "00f32b70a9f45d13b6a6a160dc47c41cd62d9daee25d5ff882a4ece7263dd0b9"), looks := true }, kinds := [], alts := [], laidByText := true, laidKinds := [.data, .data, .data, .data, .pinned], laidTests := true, laidLooks := .later }
def PriceOwesUptoCardSaid : Prop := Claim7.holds Tryz.pinned (.plain (OpenSpec.upto priceOwesSpec)) priceOwesUptoCard

/-- THE SECOND FORM's CARD OF 'mahlsticklaw08.PriceOff'. -/
def priceOffUptoCard : Claim7 := { stood := { row := priceOffUptoRow, standIns := [], harness := (true, "00f32b70a9f45d13b6a6a160dc47c41cd62d9daee25d5ff882a4ece7263dd0b9"), looks := true }, kinds := [], alts := [], laidByText := true, laidKinds := [.data, .data, .data, .data, .pinned], laidTests := true, laidLooks := .later }
def PriceOffUptoCardSaid : Prop := Claim7.holds Tryz.pinned (.plain (OpenSpec.upto priceOffSpec)) priceOffUptoCard

/-- THE SECOND FORM's CARD OF 'mahlsticklaw08.PriceMore'. -/
def priceMoreUptoCard : Claim7 := { stood := { row := priceMoreUptoRow, standIns := [], harness := (true, "00f32b70a9f45d13b6a6a160dc47c41cd62d9daee25d5ff882a4ece7263dd0b9"), looks := true }, kinds := [], alts := [], laidByText := true, laidKinds := [.data, .data, .data, .data, .pinned], laidTests := true, laidLooks := .later }
def PriceMoreUptoCardSaid : Prop := Claim7.holds Tryz.pinned (.plain (OpenSpec.upto priceMoreSpec)) priceMoreUptoCard

/-- THE SECOND FORM's CARD OF 'mahlsticklaw08.PriceMoved'. -/
def priceMovedUptoCard : Claim7 := { stood := { row := priceMovedUptoRow, standIns := [], harness := (true, "00f32b70a9f45d13b6a6a160dc47c41cd62d9daee25d5ff882a4ece7263dd0b9"), looks := true }, kinds := [], alts := [], laidByText := true, laidKinds := [.data, .data, .data, .data, .pinned], laidTests := true, laidLooks := .later }
def PriceMovedUptoCardSaid : Prop := Claim7.holds Tryz.pinned (.plain (OpenSpec.upto priceMovedSpec)) priceMovedUptoCard
end Rows
end Go.Proofs.YtjpgejagakmjgaaGreatDoor
