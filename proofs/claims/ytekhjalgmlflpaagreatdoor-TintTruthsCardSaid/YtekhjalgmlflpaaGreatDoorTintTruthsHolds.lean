/- The card of TintTruths: the law answers true for every argument, with no condition of its own. -/
import Derived.Test.YtekhjalgmlflpaaGreatDoorFrTintTruths
import Derived.Test.YtekhjalgmlflpaaGreatDoorQxbac
set_option maxRecDepth 100000
set_option linter.constructorNameAsVariable false
set_option linter.unusedSimpArgs false
set_option linter.unusedVariables false
namespace Go.Proofs.YtekhjalgmlflpaaGreatDoor
open Go Go.V Go.Proofs
theorem zrt (xs : List VV) (h : ArgsS Tryz.prog 10 [28, 29, 42] xs) : VPure Tryz.prog G0 4 xs (.tree (.lit (.bool true))) := by
  obtain ⟨x0, xs0, rfl, a0, h0⟩ := zka h
  obtain ⟨s0, r0, e0⟩ := zoi Tryz.underlying28 (zalv (n := 4)) a0
  obtain ⟨x1, xs1, rfl, a1, h1⟩ := zka h0
  obtain ⟨s1, r1, e1⟩ := zadr Tryz.underlying29 ⟨fun _ h => (by cases h), fun _ _ h => (by cases h)⟩ (zalu (n := 8)) a1
  simp only [eI, eU8, eB, eS, eSl, List.cons.injEq, and_true] at e1
  obtain ⟨x2, xs2, rfl, a2, h2⟩ := zka h1
  obtain ⟨s2, r2, e2⟩ := zoi Tryz.underlying42 (zarm (n := 6)) a2
  obtain rfl := zyg h2
  refine VPure.norm ?_
  simp only [zgm, zhv, e0, e1, e2]
  exact zko s0 s1 s2 true (zpw s0 s1 s2 r0 r1.1 r2)
/-- The card. -/
theorem tintTruths_holds : Rows.TintTruthsCardSaid := FrTintTruths.card zrt
#print axioms tintTruths_holds
end Go.Proofs.YtekhjalgmlflpaaGreatDoor
