/- The card of LetterListed: the law answers true for every argument, with no condition of its own. -/
import Derived.Test.YtlkognggeadanaaGreatDoorFrLetterListed
import Derived.Test.YtlkognggeadanaaGreatDoorGbh
import Derived.Test.YtlkognggeadanaaGreatDoorGbp
set_option maxRecDepth 100000
set_option linter.constructorNameAsVariable false
set_option linter.unusedSimpArgs false
set_option linter.unusedVariables false
namespace Go.Proofs.YtlkognggeadanaaGreatDoor
open Go Go.V Go.Proofs
theorem Ut (xs : List VV) (h : ArgsS Tryz.prog 10 [28, 31] xs) : ad Tryz.prog G0 10 xs (.tree (.lit (.bool true))) := by
  obtain ⟨x0, XF, rfl, a0, h0⟩ := Q5 h
  obtain ⟨s0, r0, e0⟩ := Q6 Tryz.underlying28 (GL (n := 5)) a0
  obtain ⟨x1, XG, rfl, a1, h1⟩ := Q5 h0
  obtain ⟨s1, r1, e1⟩ := Q6 Tryz.underlying31 (GM (n := 6)) a1
  obtain rfl := GN h1
  refine ad.norm ?_
  simp only [wo, wq, e0, e1]
  exact Uu s0 s1 true (Uv s0 s1 r0 r1)
/-- The card. -/
theorem letterListed_holds : Rows.LetterListedCardSaid := FrLetterListed.card Ut
#print axioms letterListed_holds
end Go.Proofs.YtlkognggeadanaaGreatDoor
