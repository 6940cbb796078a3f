/- The card of LetterWide: the law answers true for every argument, with no condition of its own. -/
import Derived.Test.YtlkognggeadanaaGreatDoorFrLetterWide
import Derived.Test.YtlkognggeadanaaGreatDoorWbi
import Derived.Test.YtlkognggeadanaaGreatDoorWbp
set_option maxRecDepth 100000
set_option linter.constructorNameAsVariable false
set_option linter.unusedSimpArgs false
set_option linter.unusedVariables false
namespace Go.Proofs.YtlkognggeadanaaGreatDoor
open Go Go.V Go.Proofs
theorem Z4 (xs : List VV) (h : ArgsS Tryz.prog 10 [28, 31, 3, 3] xs) : ag Tryz.prog G0 6 xs (.tree (.lit (.bool true))) := by
  obtain ⟨x0, xs0, rfl, a0, h0⟩ := FU h
  obtain ⟨s0, r0, e0⟩ := VR Tryz.underlying28 (LK (n := 5)) a0
  obtain ⟨x1, xs1, rfl, a1, h1⟩ := FU h0
  obtain ⟨s1, r1, e1⟩ := VR Tryz.underlying31 (LL (n := 6)) a1
  obtain ⟨x2, xs2, rfl, a2, h2⟩ := FU h1
  obtain ⟨s2, r2, e2⟩ := BQ Tryz.underlying3 ⟨fun _ h => (by cases h), fun _ _ h => (by cases h)⟩ (dec_3 (n := 9)) a2
  simp only [eI, tf, eB, eS, eSl, List.cons.injEq, and_true] at e2
  obtain ⟨x3, xs3, rfl, a3, h3⟩ := FU h2
  obtain ⟨s3, r3, e3⟩ := BQ Tryz.underlying3 ⟨fun _ h => (by cases h), fun _ _ h => (by cases h)⟩ (dec_3 (n := 9)) a3
  simp only [eI, tf, eB, eS, eSl, List.cons.injEq, and_true] at e3
  obtain rfl := LM h3
  refine ag.norm ?_
  simp only [wW, wX, e0, e1, e2, e3]
  exact Z5 s0 s1 s2 s3 true (Z6 s0 s1 s2 s3 r0 r1)
/-- The card. -/
theorem letterWide_holds : Rows.LetterWideCardSaid := FrLetterWide.card Z4
#print axioms letterWide_holds
end Go.Proofs.YtlkognggeadanaaGreatDoor
