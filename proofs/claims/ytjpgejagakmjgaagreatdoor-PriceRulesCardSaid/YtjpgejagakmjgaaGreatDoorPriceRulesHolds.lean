/- The card of PriceRules: the law answers true for every argument, with no condition of its own. -/
import Derived.Test.YtjpgejagakmjgaaGreatDoorFrPriceRules
import Derived.Test.YtjpgejagakmjgaaGreatDoorSbi
import Derived.Test.YtjpgejagakmjgaaGreatDoorSbm
set_option maxRecDepth 100000
set_option linter.constructorNameAsVariable false
set_option linter.unusedSimpArgs false
set_option linter.unusedVariables false
namespace Go.Proofs.YtjpgejagakmjgaaGreatDoor
open Go Go.V Go.Proofs
theorem zok (xs : List VV) (h : ArgsS Tryz.prog 10 [26, 3, 22] xs) : VPure Tryz.prog G0 6 xs (.tree (.lit (.bool true))) := by
  obtain ⟨x0, xs0, rfl, a0, h0⟩ := zmo h
  obtain ⟨s0, r0, e0⟩ := zye Tryz.underlying26 (zarf (n := 5)) a0
  obtain ⟨x1, xs1, rfl, a1, h1⟩ := zmo h0
  obtain ⟨s1, r1, e1⟩ := zaak Tryz.underlying3 ⟨fun _ h => (by cases h), fun _ _ h => (by cases h)⟩ (dec_3 (n := 9)) a1
  simp only [eI, eU8, eB, eS, eSl, List.cons.injEq, and_true] at e1
  obtain ⟨x2, xs2, rfl, a2, h2⟩ := zmo h1
  obtain ⟨s2, r2, e2⟩ := zaak Tryz.underlying22 ⟨fun _ h => (by cases h), fun _ _ h => (by cases h)⟩ (zatc (n := 8)) a2
  simp only [eI, eU8, eB, eS, eSl, List.cons.injEq, and_true] at e2
  obtain rfl := zacy h2
  refine VPure.norm ?_
  simp only [zfy, zgq, e0, e1, e2]
  exact zhx s0 s1 s2 true (zmy s0 s1 s2 r0 r2.1)
/-- The card. -/
theorem priceRules_holds : Rows.PriceRulesCardSaid := FrPriceRules.card zok
#print axioms priceRules_holds
end Go.Proofs.YtjpgejagakmjgaaGreatDoor
