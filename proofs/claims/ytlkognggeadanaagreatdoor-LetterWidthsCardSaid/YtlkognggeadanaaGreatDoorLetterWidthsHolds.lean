/- The card of LetterWidths: the law answers true for every argument, with no condition of its own. -/
import Derived.Test.YtlkognggeadanaaGreatDoorFrLetterWidths
import Derived.Test.YtlkognggeadanaaGreatDoorDbh
import Derived.Test.YtlkognggeadanaaGreatDoorDbq
set_option maxRecDepth 100000
set_option linter.constructorNameAsVariable false
set_option linter.unusedSimpArgs false
set_option linter.unusedVariables false
namespace Go.Proofs.YtlkognggeadanaaGreatDoor
open Go Go.V Go.Proofs
theorem Wo (xs : List VV) (h : ArgsS Tryz.prog 10 [28, 31, 3] xs) : ag Tryz.prog G0 3 xs (.tree (.lit (.bool true))) := by
  obtain ⟨x0, xs0, rfl, a0, h0⟩ := IY h
  obtain ⟨s0, r0, e0⟩ := S6 Tryz.underlying28 (Je (n := 5)) a0
  obtain ⟨x1, xs1, rfl, a1, h1⟩ := IY h0
  obtain ⟨s1, r1, e1⟩ := S6 Tryz.underlying31 (Jf (n := 6)) a1
  obtain ⟨x2, xs2, rfl, a2, h2⟩ := IY h1
  obtain ⟨s2, r2, e2⟩ := Ja Tryz.underlying3 ⟨fun _ h => (by cases h), fun _ _ h => (by cases h)⟩ (dec_3 (n := 9)) a2
  simp only [eI, tO, eB, eS, eSl, List.cons.injEq, and_true] at e2
  obtain rfl := IZ h2
  refine ag.norm ?_
  simp only [wy, wz, e0, e1, e2]
  exact Wp s0 s1 s2 true (Wq s0 s1 s2 r0 r1)
/-- The card. -/
theorem letterWidths_holds : Rows.LetterWidthsCardSaid := FrLetterWidths.card Wo
#print axioms letterWidths_holds
end Go.Proofs.YtlkognggeadanaaGreatDoor
