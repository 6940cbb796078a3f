/- The card of TintMade: the law answers true for every argument, with no condition of its own. -/
import Derived.Test.YtekhjalgmlflpaaGreatDoorFrTintMade
import Derived.Test.YtekhjalgmlflpaaGreatDoorRxbac
set_option linter.all false
set_option maxRecDepth 100000
namespace Go.Proofs.YtekhjalgmlflpaaGreatDoor
open Go Go.V Go.Proofs
theorem zvu (xs : List VV) (h : ArgsS Tryz.prog 10 [28, 29, 29, 42] xs) : VPure Tryz.prog G0 8 xs (.tree (.lit (.bool true))) := by
  obtain ⟨x0, xs0, rfl, a0, h0⟩ := ziu h
  obtain ⟨s0, r0, e0⟩ := zou Tryz.underlying28 (zanp (n := 4)) a0
  obtain ⟨x1, xs1, rfl, a1, h1⟩ := ziu h0
  obtain ⟨s1, r1, e1⟩ := zwu Tryz.underlying29 ⟨fun _ h => (by cases h), fun _ _ h => (by cases h)⟩ (zajf (n := 8)) a1
  simp only [eI, eU8, eB, eS, eSl, List.cons.injEq, and_true] at e1
  obtain ⟨x2, xs2, rfl, a2, h2⟩ := ziu h1
  obtain ⟨s2, r2, e2⟩ := zwu Tryz.underlying29 ⟨fun _ h => (by cases h), fun _ _ h => (by cases h)⟩ (zajf (n := 8)) a2
  simp only [eI, eU8, eB, eS, eSl, List.cons.injEq, and_true] at e2
  obtain ⟨x3, xs3, rfl, a3, h3⟩ := ziu h2
  obtain ⟨s3, r3, e3⟩ := zou Tryz.underlying42 (zauv (n := 6)) a3
  obtain rfl := zzy h3
  refine VPure.norm ?_
  simp only [zhd, zih, e0, e1, e2, e3]
  exact zmn s0 s1 s2 s3 true (zts s0 s1 s2 s3 r0 r1.1 r2.1 r3)
/-- The card. -/
theorem tintMade_holds : Rows.TintMadeCardSaid := FrTintMade.card zvu
#print axioms tintMade_holds
end Go.Proofs.YtekhjalgmlflpaaGreatDoor
