/- The card of TintTrue: the law answers true for every argument, with no condition of its own. -/
import Derived.Test.YtekhjalgmlflpaaGreatDoorFrTintTrue
import Derived.Test.YtekhjalgmlflpaaGreatDoorTbe
import Derived.Test.YtekhjalgmlflpaaGreatDoorTbn
set_option linter.all false
set_option maxRecDepth 100000
namespace Go.Proofs.YtekhjalgmlflpaaGreatDoor
open Go Go.V Go.Proofs
theorem zvt (xs : List VV) (h : ArgsS Tryz.prog 10 [28, 29, 42] xs) : VPure Tryz.prog G0 6 xs (.tree (.lit (.bool true))) := by
  obtain ⟨x0, xs0, rfl, a0, h0⟩ := znx h
  obtain ⟨s0, r0, e0⟩ := zvd Tryz.underlying28 (zauc (n := 4)) a0
  obtain ⟨x1, xs1, rfl, a1, h1⟩ := znx h0
  obtain ⟨s1, r1, e1⟩ := zami Tryz.underlying29 ⟨fun _ h => (by cases h), fun _ _ h => (by cases h)⟩ (zari (n := 8)) a1
  simp only [eI, eU8, eB, eS, eSl, List.cons.injEq, and_true] at e1
  obtain ⟨x2, xs2, rfl, a2, h2⟩ := znx h1
  obtain ⟨s2, r2, e2⟩ := zvd Tryz.underlying42 (zatc (n := 6)) a2
  obtain rfl := zagl h2
  refine VPure.norm ?_
  simp only [zhp, zix, e0, e1, e2]
  exact zlt s0 s1 s2 true (zul s0 s1 s2 r0 r1.1 r2)
/-- The card. -/
theorem tintTrue_holds : Rows.TintTrueCardSaid := FrTintTrue.card zvt
#print axioms tintTrue_holds
end Go.Proofs.YtekhjalgmlflpaaGreatDoor
