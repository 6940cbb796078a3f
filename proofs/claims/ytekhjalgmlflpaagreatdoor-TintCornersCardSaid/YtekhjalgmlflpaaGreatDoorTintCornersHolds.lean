/- The card of TintCorners: the law answers true for every argument, with no condition of its own. -/
import Derived.Test.YtekhjalgmlflpaaGreatDoorFrTintCorners
import Derived.Test.YtekhjalgmlflpaaGreatDoorRxaac
import Derived.Test.YtekhjalgmlflpaaGreatDoorRxaad
set_option linter.all false
set_option maxRecDepth 100000
namespace Go.Proofs.YtekhjalgmlflpaaGreatDoor
open Go Go.V Go.Proofs
theorem zqj (xs : List VV) (h : ArgsS Tryz.prog 10 [28, 29] xs) : VPure Tryz.prog G0 7 xs (.tree (.lit (.bool true))) := by
  obtain ⟨x0, xs0, rfl, a0, h0⟩ := ziu h
  obtain ⟨s0, r0, e0⟩ := zou Tryz.underlying28 (zanp (n := 4)) a0
  obtain ⟨x1, xs1, rfl, a1, h1⟩ := ziu h0
  obtain ⟨s1, r1, e1⟩ := zwu Tryz.underlying29 ⟨fun _ h => (by cases h), fun _ _ h => (by cases h)⟩ (zajf (n := 8)) a1
  simp only [eI, eU8, eB, eS, eSl, List.cons.injEq, and_true] at e1
  obtain rfl := zzy h1
  refine VPure.norm ?_
  simp only [zhd, zih, e0, e1]
  exact zkt s0 s1 true (zoj s0 s1 r0 r1.1)
/-- The card. -/
theorem tintCorners_holds : Rows.TintCornersCardSaid := FrTintCorners.card zqj
#print axioms tintCorners_holds
end Go.Proofs.YtekhjalgmlflpaaGreatDoor
