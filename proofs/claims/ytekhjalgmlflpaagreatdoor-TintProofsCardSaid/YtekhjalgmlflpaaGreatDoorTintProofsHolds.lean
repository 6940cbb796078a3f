/- The card of TintProofs: the law answers true for every argument, with no condition of its own. -/
import Derived.Test.YtekhjalgmlflpaaGreatDoorFrTintProofs
import Derived.Test.YtekhjalgmlflpaaGreatDoorYbg
import Derived.Test.YtekhjalgmlflpaaGreatDoorYbl
set_option maxRecDepth 100000
set_option linter.constructorNameAsVariable false
set_option linter.unusedSimpArgs false
set_option linter.unusedVariables false
namespace Go.Proofs.YtekhjalgmlflpaaGreatDoor
open Go Go.V Go.Proofs
theorem zpr (xs : List VV) (h : ArgsS Tryz.prog 10 [28] xs) : VPure Tryz.prog G0 9 xs (.tree (.lit (.bool true))) := by
  obtain ⟨x0, xs0, rfl, a0, h0⟩ := zyu h
  obtain ⟨s0, r0, e0⟩ := zaam Tryz.underlying28 (zasb (n := 4)) a0
  obtain rfl := zacv h0
  refine VPure.norm ?_
  simp only [zgy, ziu, e0]
  exact ziz s0 true (znr s0 r0)
/-- The card. -/
theorem tintProofs_holds : Rows.TintProofsCardSaid := FrTintProofs.card zpr
#print axioms tintProofs_holds
end Go.Proofs.YtekhjalgmlflpaaGreatDoor
