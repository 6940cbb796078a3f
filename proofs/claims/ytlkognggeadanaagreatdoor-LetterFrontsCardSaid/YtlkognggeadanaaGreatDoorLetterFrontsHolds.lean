/- The card of LetterFronts: the law answers true for every argument, with no condition of its own. -/
import Derived.Test.YtlkognggeadanaaGreatDoorFrLetterFronts
import Derived.Test.YtlkognggeadanaaGreatDoorIbh
import Derived.Test.YtlkognggeadanaaGreatDoorIbo
set_option maxRecDepth 100000
set_option linter.constructorNameAsVariable false
set_option linter.unusedSimpArgs false
set_option linter.unusedVariables false
namespace Go.Proofs.YtlkognggeadanaaGreatDoor
open Go Go.V Go.Proofs
theorem Te (xs : List VV) (h : ArgsS Tryz.prog 10 [28, 3, 3] xs) : ad Tryz.prog G0 15 xs (.tree (.lit (.bool true))) := by
  obtain ⟨x0, Xn, rfl, a0, h0⟩ := Gx h
  obtain ⟨s0, r0, e0⟩ := Gy Tryz.underlying28 (Gz (n := 5)) a0
  obtain ⟨x1, Xo, rfl, a1, h1⟩ := Gx h0
  obtain ⟨s1, r1, e1⟩ := xj Tryz.underlying3 ⟨fun _ h => (by cases h), fun _ _ h => (by cases h)⟩ (dec_3 (n := 9)) a1
  simp only [eI, rk, eB, eS, eSl, List.cons.injEq, and_true] at e1
  obtain ⟨x2, Xp, rfl, a2, h2⟩ := Gx h1
  obtain ⟨s2, r2, e2⟩ := xj Tryz.underlying3 ⟨fun _ h => (by cases h), fun _ _ h => (by cases h)⟩ (dec_3 (n := 9)) a2
  simp only [eI, rk, eB, eS, eSl, List.cons.injEq, and_true] at e2
  obtain rfl := G1 h2
  refine ad.norm ?_
  simp only [rn, rl, e0, e1, e2]
  exact Tf s0 s1 s2 true (Tg s0 s1 s2 r0)
/-- The card. -/
theorem letterFronts_holds : Rows.LetterFrontsCardSaid := FrLetterFronts.card Te
#print axioms letterFronts_holds
end Go.Proofs.YtlkognggeadanaaGreatDoor
