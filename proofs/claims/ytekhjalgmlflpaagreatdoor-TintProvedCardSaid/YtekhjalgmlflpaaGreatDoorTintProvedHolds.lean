/- The card of TintProved: the law answers true for every argument, with no condition of its own. -/
import Derived.Test.YtekhjalgmlflpaaGreatDoorFrTintProved
import Derived.Test.YtekhjalgmlflpaaGreatDoorKbf
import Derived.Test.YtekhjalgmlflpaaGreatDoorKbn
set_option maxRecDepth 100000
set_option linter.constructorNameAsVariable false
set_option linter.unusedSimpArgs false
set_option linter.unusedVariables false
namespace Go.Proofs.YtekhjalgmlflpaaGreatDoor
open Go Go.V Go.Proofs
theorem Yz (xs : List VV) (h : ArgsS Tryz.prog 10 [28, 29, 42, 22] xs) : ad Tryz.prog G0 10 xs (.tree (.lit (.bool true))) := by
  obtain ⟨x0, xs0, rfl, a0, h0⟩ := FD h
  obtain ⟨s0, r0, e0⟩ := UH Tryz.underlying28 (Ie (n := 4)) a0
  obtain ⟨x1, xs1, rfl, a1, h1⟩ := FD h0
  obtain ⟨s1, r1, e1⟩ := Ig Tryz.underlying29 ⟨fun _ h => (by cases h), fun _ _ h => (by cases h)⟩ (Ih (n := 8)) a1
  simp only [eI, rX, eB, eS, eSl, List.cons.injEq, and_true] at e1
  obtain ⟨x2, xs2, rfl, a2, h2⟩ := FD h1
  obtain ⟨s2, r2, e2⟩ := UH Tryz.underlying42 (Ii (n := 6)) a2
  obtain ⟨x3, xs3, rfl, a3, h3⟩ := FD h2
  obtain ⟨s3, r3, e3⟩ := Ij Tryz.underlying22 (Ik (n := 8)) a3
  obtain rfl := Il h3
  refine ad.norm ?_
  simp only [uM, uN, e0, e1, e2, e3]
  exact Y0 s0 s1 s2 s3 true (Y1 s0 s1 s2 s3 r0 r1.1 r2)
/-- The card. -/
theorem tintProved_holds : Rows.TintProvedCardSaid := FrTintProved.card Yz
#print axioms tintProved_holds
end Go.Proofs.YtekhjalgmlflpaaGreatDoor
