/-
  DERIVED. GIVEN WITH THE SEED: THE CARDS: each row of YtljphegpidbnjaaGreatDoorRows.lean that lists a variable, with what it lists TIED to the program's text (the seventh form; the later family's looks); each row that meets fmt, with fmt's text TOLD by the authors' own Lean function (tested against real Go, not proved from fmt's source: count such statements apart). THE CARD IS WHAT COUNTS. Prove the row's statement (the work); the ties are given (YtljphegpidbnjaaGreatDoorTie.lean); close each card by the builder's one call (the guide's Derived/Test/ToyasCard.lean, 'card_holds'). Laid BY PROGRAM, IN A SANDBOX (cutbox-door.mjs). By AI agents, Wed Nov 11 2026. No macro, syntax, notation, axiom, sorry.
-/
import Derived.Test.YtljphegpidbnjaaGreatDoorRows
import GoSem.ClaimSeven
namespace Go.Proofs.YtljphegpidbnjaaGreatDoor
namespace Rows

/-- THE TIED CARD OF 'mahlsticklaw01.LetterWidths'. -/
def letterWidthsCard : Claim7 := { stood := { row := letterWidthsRow, standIns := [], harness := (true, "0ed765a2dcbfdc1beb6f3710e1c5a0334ac17d81c3dbd5095f53a46470a3e1bc"), looks := true }, kinds := [], alts := [], laidByText := true, laidKinds := [.data, .data, .data, .data, .pinned], laidTests := true, laidLooks := .later }
def LetterWidthsCardSaid : Prop := Claim7.holds Tryz.pinned (.plain (OpenSpec.ofChange letterWidthsSpec)) letterWidthsCard

/-- THE TIED CARD OF 'mahlsticklaw01.LetterAlikes'. -/
def letterAlikesCard : Claim7 := { stood := { row := letterAlikesRow, standIns := [], harness := (true, "0ed765a2dcbfdc1beb6f3710e1c5a0334ac17d81c3dbd5095f53a46470a3e1bc"), looks := true }, kinds := [], alts := [], laidByText := true, laidKinds := [.data, .data, .data, .data, .pinned], laidTests := true, laidLooks := .later }
def LetterAlikesCardSaid : Prop := Claim7.holds Tryz.pinned (.plain (OpenSpec.ofChange letterAlikesSpec)) letterAlikesCard

/-- THE TIED CARD OF 'mahlsticklaw01.LetterFell'. -/
def letterFellCard : Claim7 := { stood := { row := letterFellRow, standIns := [], harness := (true, "0ed765a2dcbfdc1beb6f3710e1c5a0334ac17d81c3dbd5095f53a46470a3e1bc"), looks := true }, kinds := [], alts := [], laidByText := true, laidKinds := [.data, .data, .data, .data, .pinned], laidTests := true, laidLooks := .later }
def LetterFellCardSaid : Prop := Claim7.holds Tryz.pinned (.plain (OpenSpec.ofChange letterFellSpec)) letterFellCard

/-- THE SECOND FORM's CARD OF 'mahlsticklaw01.LetterWidths'. -/
def letterWidthsUptoCard : Claim7 := { stood := { row := letterWidthsUptoRow, standIns := [], harness := (true, "0ed765a2dcbfdc1beb6f3710e1c5a0334ac17d81c3dbd5095f53a46470a3e1bc"), looks := true }, kinds := [], alts := [], laidByText := true, laidKinds := [.data, .data, .data, .data, .pinned], laidTests := true, laidLooks := .later }
def LetterWidthsUptoCardSaid : Prop := Claim7.holds Tryz.pinned (.plain (OpenSpec.upto letterWidthsSpec)) letterWidthsUptoCard

/-- THE SECOND FORM's CARD OF 'mahlsticklaw01.LetterAlikes'. -/
def letterAlikesUptoCard : Claim7 := { stood := { row := letterAlikesUptoRow, standIns := [], harness := (true, "0ed765a2dcbfdc1beb6f3710e1c5a0334ac17d81c3dbd5095f53a46470a3e1bc"), looks := true }, kinds := [], alts := [], laidByText := true, laidKinds := [.data, .data, .data, .data, .pinned], laidTests := true, laidLooks := .later }
def LetterAlikesUptoCardSaid : Prop := Claim7.holds Tryz.pinned (.plain (OpenSpec.upto letterAlikesSpec)) letterAlikesUptoCard

/-- THE SECOND FORM's CARD OF 'mahlsticklaw01.LetterFell'. -/
def letterFellUptoCard : Claim7 := { stood := { row := letterFellUptoRow, standIns := [], harness := (true, "0ed765a2dcbfdc1beb6f3710e1c5a0334ac17d81c3dbd5095f53a46470a3e1bc"), looks := true }, kinds := [], alts := [], laidByText := true, laidKinds := [.data, .data, .data, .data, .pinned], laidTests := true, laidLooks := .later }
def LetterFellUptoCardSaid : Prop := Claim7.holds Tryz.pinned (.plain (OpenSpec.upto letterFellSpec)) letterFellUptoCard
end Rows
end Go.Proofs.YtljphegpidbnjaaGreatDoor
