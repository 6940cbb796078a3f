/- The card of CoatStucks: the law answers true for every argument, with no condition of its own. -/
import Derived.Test.YtgdgkkloccpbnaaGreatDoorFrCoatStucks
import Derived.Test.YtgdgkkloccpbnaaGreatDoorUxbac
set_option maxRecDepth 100000
set_option linter.constructorNameAsVariable false
set_option linter.unusedSimpArgs false
set_option linter.unusedVariables false
namespace Go.Proofs.YtgdgkkloccpbnaaGreatDoor
open Go Go.V Go.Proofs
theorem coatStucks_law (xs : List VV) (h : ArgsS Tryz.prog 10 [26] xs) : VPure Tryz.prog G0 7 xs (.tree (.lit (.bool true))) := by
  obtain ⟨x0, xs0, rfl, a0, h0⟩ := argsS_cons h
  obtain ⟨s0, r0, e0⟩ := arg_struct Tryz.underlying26 (dec_26 (n := 6)) a0
  obtain rfl := argsS_nil h0
  refine VPure.norm ?_
  simp only [normL_cons, normL_nil, e0]
  exact g_law03_CoatStucks_ok s0 true (CoatStucks_true s0 r0)
/-- The card. -/
theorem coatStucks_holds : Rows.CoatStucksCardSaid := FrCoatStucks.card coatStucks_law
#print axioms coatStucks_holds
end Go.Proofs.YtgdgkkloccpbnaaGreatDoor
