/- The card of LetterCutOff: the law answers true for every argument, with no condition of its own. -/
import Derived.Test.YtclkbhbhohdgbaaGreatDoorFrLetterCutOff
import Derived.Test.YtclkbhbhohdgbaaGreatDoorE3be
import Derived.Test.YtclkbhbhohdgbaaGreatDoorE3bi
set_option maxRecDepth 100000
set_option linter.constructorNameAsVariable false
set_option linter.unusedSimpArgs false
set_option linter.unusedVariables false
namespace Go.Proofs.YtclkbhbhohdgbaaGreatDoor
open Go Go.V Go.Proofs
theorem zpm (xs : List VV) (h : ArgsS Tryz.prog 10 [28, 3] xs) : ah Tryz.prog G0 14 xs (.tree (.lit (.bool true))) := by
  obtain ⟨x0, xs0, rfl, a0, h0⟩ := Vs h
  obtain ⟨s0, r0, e0⟩ := Q7 Tryz.underlying28 (QB (n := 5)) a0
  obtain ⟨x1, xs1, rfl, a1, h1⟩ := Vs h0
  obtain ⟨s1, r1, e1⟩ := Q8 Tryz.underlying3 ⟨fun _ h => (by cases h), fun _ _ h => (by cases h)⟩ (dec_3 (n := 9)) a1
  simp only [eI, wC, eB, eS, eSl, List.cons.injEq, and_true] at e1
  obtain rfl := Q6 h1
  refine ah.norm ?_
  simp only [wA, wB, e0, e1]
  exact ZV s0 s1 true (ZX s0 s1 r0)
/-- The card. -/
theorem letterCutOff_holds : Rows.LetterCutOffCardSaid := FrLetterCutOff.card zpm
#print axioms letterCutOff_holds
end Go.Proofs.YtclkbhbhohdgbaaGreatDoor
