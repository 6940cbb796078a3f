/- The card of CoatSlacks: the law answers true for every argument, with no condition of its own. -/
import Derived.Test.YtgdgkkloccpbnaaGreatDoorFrCoatSlacks
import Derived.Test.YtgdgkkloccpbnaaGreatDoorVbf
import Derived.Test.YtgdgkkloccpbnaaGreatDoorVbr
set_option maxRecDepth 100000
set_option linter.constructorNameAsVariable false
set_option linter.unusedSimpArgs false
set_option linter.unusedVariables false
namespace Go.Proofs.YtgdgkkloccpbnaaGreatDoor
open Go Go.V Go.Proofs
theorem coatSlacks_law (xs : List VV) (h : ArgsS Tryz.prog 10 [26] xs) : VPure Tryz.prog G0 9 xs (.tree (.lit (.bool true))) := by
  obtain ⟨x0, xs0, rfl, a0, h0⟩ := argsS_cons h
  obtain ⟨s0, r0, e0⟩ := arg_struct Tryz.underlying26 (dec_26 (n := 6)) a0
  obtain rfl := argsS_nil h0
  refine VPure.norm ?_
  simp only [normL_cons, normL_nil, e0]
  exact g_law03_CoatSlacks_ok s0 true (CoatSlacks_true s0 r0)
/-- The card. -/
theorem coatSlacks_holds : Rows.CoatSlacksCardSaid := FrCoatSlacks.card coatSlacks_law
#print axioms coatSlacks_holds
end Go.Proofs.YtgdgkkloccpbnaaGreatDoor
