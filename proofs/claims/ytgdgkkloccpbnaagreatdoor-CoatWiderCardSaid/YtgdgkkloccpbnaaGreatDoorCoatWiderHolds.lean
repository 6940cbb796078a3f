/- The card of CoatWider: the law answers true for every argument, with no condition of its own. -/
import Derived.Test.YtgdgkkloccpbnaaGreatDoorFrCoatWider
import Derived.Test.YtgdgkkloccpbnaaGreatDoorTbf
import Derived.Test.YtgdgkkloccpbnaaGreatDoorTbo
set_option maxRecDepth 100000
set_option linter.constructorNameAsVariable false
set_option linter.unusedSimpArgs false
set_option linter.unusedVariables false
namespace Go.Proofs.YtgdgkkloccpbnaaGreatDoor
open Go Go.V Go.Proofs
theorem coatWider_law (xs : List VV) (h : ArgsS Tryz.prog 10 [26, 3] xs) : VPure Tryz.prog G0 10 xs (.tree (.lit (.bool true))) := by
  obtain ⟨x0, xs0, rfl, a0, h0⟩ := argsS_cons h
  obtain ⟨s0, r0, e0⟩ := arg_struct Tryz.underlying26 (dec_26 (n := 6)) a0
  obtain ⟨x1, xs1, rfl, a1, h1⟩ := argsS_cons h0
  obtain ⟨s1, r1, e1⟩ := arg_cell Tryz.underlying3 (fun _ h => by cases h) (dec_3 (n := 9)) a1
  simp only [eI, eU8, eB, eS, eSl, List.cons.injEq, and_true] at e1
  obtain rfl := argsS_nil h1
  refine VPure.norm ?_
  simp only [normL_cons, normL_nil, e0, e1]
  exact g_law03_CoatWider_ok s0 s1 true (CoatWider_true s0 s1 r0)
/-- The card. -/
theorem coatWider_holds : Rows.CoatWiderCardSaid := FrCoatWider.card coatWider_law
#print axioms coatWider_holds
end Go.Proofs.YtgdgkkloccpbnaaGreatDoor
