/- The card of LetterMore: the law answers true for every argument, with no condition of its own. -/
import Derived.Test.YtclkbhbhohdgbaaGreatDoorFrLetterMore
import Derived.Test.YtclkbhbhohdgbaaGreatDoorE2be
import Derived.Test.YtclkbhbhohdgbaaGreatDoorE2bi
set_option maxRecDepth 100000
set_option linter.constructorNameAsVariable false
set_option linter.unusedSimpArgs false
set_option linter.unusedVariables false
namespace Go.Proofs.YtclkbhbhohdgbaaGreatDoor
open Go Go.V Go.Proofs
theorem VJ (xs : List VV) (h : ArgsS Tryz.prog 10 [28, 3, 3, 3, 3] xs) : ah Tryz.prog G0 16 xs (.tree (.lit (.bool true))) := by
  obtain ⟨x0, xs0, rfl, a0, h0⟩ := yZ h
  obtain ⟨s0, r0, e0⟩ := Gy Tryz.underlying28 (Gz (n := 5)) a0
  obtain ⟨x1, xs1, rfl, a1, h1⟩ := yZ h0
  obtain ⟨s1, r1, e1⟩ := CW Tryz.underlying3 ⟨fun _ h => (by cases h), fun _ _ h => (by cases h)⟩ (dec_3 (n := 9)) a1
  simp only [eI, qq, eB, eS, eSl, List.cons.injEq, and_true] at e1
  obtain ⟨x2, xs2, rfl, a2, h2⟩ := yZ h1
  obtain ⟨s2, r2, e2⟩ := CW Tryz.underlying3 ⟨fun _ h => (by cases h), fun _ _ h => (by cases h)⟩ (dec_3 (n := 9)) a2
  simp only [eI, qq, eB, eS, eSl, List.cons.injEq, and_true] at e2
  obtain ⟨x3, xs3, rfl, a3, h3⟩ := yZ h2
  obtain ⟨s3, r3, e3⟩ := CW Tryz.underlying3 ⟨fun _ h => (by cases h), fun _ _ h => (by cases h)⟩ (dec_3 (n := 9)) a3
  simp only [eI, qq, eB, eS, eSl, List.cons.injEq, and_true] at e3
  obtain ⟨x4, xs4, rfl, a4, h4⟩ := yZ h3
  obtain ⟨s4, r4, e4⟩ := CW Tryz.underlying3 ⟨fun _ h => (by cases h), fun _ _ h => (by cases h)⟩ (dec_3 (n := 9)) a4
  simp only [eI, qq, eB, eS, eSl, List.cons.injEq, and_true] at e4
  obtain rfl := G1 h4
  refine ah.norm ?_
  simp only [uj, uk, e0, e1, e2, e3, e4]
  exact VK s0 s1 s2 s3 s4 true (VL s0 s1 s2 s3 s4 r0)
/-- The card. -/
theorem letterMore_holds : Rows.LetterMoreCardSaid := FrLetterMore.card VJ
#print axioms letterMore_holds
end Go.Proofs.YtclkbhbhohdgbaaGreatDoor
