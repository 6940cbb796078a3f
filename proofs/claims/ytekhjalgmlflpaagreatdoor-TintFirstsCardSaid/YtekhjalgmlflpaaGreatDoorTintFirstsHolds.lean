/- The card of TintFirsts: the law answers true for every argument, with no condition of its own. -/
import Derived.Test.YtekhjalgmlflpaaGreatDoorFrTintFirsts
import Derived.Test.YtekhjalgmlflpaaGreatDoorZbe
import Derived.Test.YtekhjalgmlflpaaGreatDoorZbo
set_option maxRecDepth 100000
set_option linter.constructorNameAsVariable false
set_option linter.unusedSimpArgs false
set_option linter.unusedVariables false
namespace Go.Proofs.YtekhjalgmlflpaaGreatDoor
open Go Go.V Go.Proofs
theorem YR (xs : List VV) (h : ArgsS Tryz.prog 10 [28] xs) : ad Tryz.prog G0 11 xs (.tree (.lit (.bool true))) := by
  obtain ⟨x0, Zi, rfl, a0, h0⟩ := Qt h
  obtain ⟨s0, r0, e0⟩ := Qv Tryz.underlying28 (Qw (n := 4)) a0
  obtain rfl := Qu h0
  refine ad.norm ?_
  simp only [xh, xi, e0]
  exact YA s0 true (YG s0 r0)
/-- The card. -/
theorem tintFirsts_holds : Rows.TintFirstsCardSaid := FrTintFirsts.card YR
#print axioms tintFirsts_holds
end Go.Proofs.YtekhjalgmlflpaaGreatDoor
