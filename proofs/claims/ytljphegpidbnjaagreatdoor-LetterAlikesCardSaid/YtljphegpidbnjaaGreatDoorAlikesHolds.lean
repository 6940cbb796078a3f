/- Part of the proof of a statement of YtljphegpidbnjaaGreatDoor: a logic of values by content, the lifted functions, and what follows. -/
import Derived.Test.YtljphegpidbnjaaGreatDoorFrLetterAlikes
import Derived.Test.YtljphegpidbnjaaGreatDoorMbo
set_option linter.unusedVariables false
set_option linter.unusedSimpArgs false
set_option linter.unusedSectionVars false
set_option linter.constructorNameAsVariable false
section
/- The card of LetterAlikes: the law LetterAlikes answers true for every argument, with no condition of its own. -/
namespace Go.Proofs.YtljphegpidbnjaaGreatDoor
open Go Go.V
theorem letterAlikes_holds : Rows.LetterAlikesCardSaid := FrLetterAlikes.card LetterAlikes_law
#print axioms letterAlikes_holds
end Go.Proofs.YtljphegpidbnjaaGreatDoor
end
