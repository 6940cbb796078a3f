/- The card of TintRival: the law answers true for every argument, with no condition of its own. -/
import Derived.Test.YtekhjalgmlflpaaGreatDoorFrTintRival
import Derived.Test.YtekhjalgmlflpaaGreatDoorXbe
import Derived.Test.YtekhjalgmlflpaaGreatDoorXbn
set_option maxRecDepth 100000
set_option linter.constructorNameAsVariable false
set_option linter.unusedSimpArgs false
set_option linter.unusedVariables false
namespace Go.Proofs.YtekhjalgmlflpaaGreatDoor
open Go Go.V Go.Proofs
theorem zsi (xs : List VV) (h : ArgsS Tryz.prog 10 [28, 29] xs) : VPure Tryz.prog G0 12 xs (.tree (.lit (.bool true))) := by
  obtain ⟨x0, xs0, rfl, a0, h0⟩ := zsz h
  obtain ⟨s0, r0, e0⟩ := zads Tryz.underlying28 (zasm (n := 4)) a0
  obtain ⟨x1, xs1, rfl, a1, h1⟩ := zsz h0
  obtain ⟨s1, r1, e1⟩ := zakx Tryz.underlying29 ⟨fun _ h => (by cases h), fun _ _ h => (by cases h)⟩ (zary (n := 8)) a1
  simp only [eI, eU8, eB, eS, eSl, List.cons.injEq, and_true] at e1
  obtain rfl := zahw h1
  refine VPure.norm ?_
  simp only [zgz, zie, e0, e1]
  exact zkj s0 s1 true (zrw s0 s1 r0 r1.1)
/-- The card. -/
theorem tintRival_holds : Rows.TintRivalCardSaid := FrTintRival.card zsi
#print axioms tintRival_holds
end Go.Proofs.YtekhjalgmlflpaaGreatDoor
