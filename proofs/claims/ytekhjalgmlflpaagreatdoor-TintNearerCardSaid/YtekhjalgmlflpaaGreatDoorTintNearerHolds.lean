/- The card of TintNearer: the law answers true for every argument, with no condition of its own. -/
import Derived.Test.YtekhjalgmlflpaaGreatDoorFrTintNearer
import Derived.Test.YtekhjalgmlflpaaGreatDoorVbg
import Derived.Test.YtekhjalgmlflpaaGreatDoorVbm
set_option maxRecDepth 100000
set_option linter.constructorNameAsVariable false
set_option linter.unusedSimpArgs false
set_option linter.unusedVariables false
namespace Go.Proofs.YtekhjalgmlflpaaGreatDoor
open Go Go.V Go.Proofs
theorem zqt (xs : List VV) (h : ArgsS Tryz.prog 10 [28, 3, 29] xs) : VPure Tryz.prog G0 14 xs (.tree (.lit (.bool true))) := by
  obtain ⟨x0, xs0, rfl, a0, h0⟩ := zot h
  obtain ⟨s0, r0, e0⟩ := zabj Tryz.underlying28 (zavt (n := 4)) a0
  obtain ⟨x1, xs1, rfl, a1, h1⟩ := zot h0
  obtain ⟨s1, r1, e1⟩ := zafg Tryz.underlying3 ⟨fun _ h => (by cases h), fun _ _ h => (by cases h)⟩ (dec_3 (n := 9)) a1
  simp only [eI, eU8, eB, eS, eSl, List.cons.injEq, and_true] at e1
  obtain ⟨x2, xs2, rfl, a2, h2⟩ := zot h1
  obtain ⟨s2, r2, e2⟩ := zafg Tryz.underlying29 ⟨fun _ h => (by cases h), fun _ _ h => (by cases h)⟩ (zasy (n := 8)) a2
  simp only [eI, eU8, eB, eS, eSl, List.cons.injEq, and_true] at e2
  obtain rfl := zahn h2
  refine VPure.norm ?_
  simp only [zgw, zim, e0, e1, e2]
  exact zjv s0 s1 s2 true (zpe s0 s1 s2 r0 r2.1)
/-- The card. -/
theorem tintNearer_holds : Rows.TintNearerCardSaid := FrTintNearer.card zqt
#print axioms tintNearer_holds
end Go.Proofs.YtekhjalgmlflpaaGreatDoor
