/- The card of CoatMends: the law answers true for every argument, with no condition of its own. -/
import Derived.Test.YtgdgkkloccpbnaaGreatDoorFrCoatMends
import Derived.Test.YtgdgkkloccpbnaaGreatDoorXbf
import Derived.Test.YtgdgkkloccpbnaaGreatDoorXbs
set_option maxRecDepth 100000
set_option linter.constructorNameAsVariable false
set_option linter.unusedSimpArgs false
set_option linter.unusedVariables false
namespace Go.Proofs.YtgdgkkloccpbnaaGreatDoor
open Go Go.V Go.Proofs
theorem zrz (xs : List VV) (h : ArgsS Tryz.prog 10 [26, 23, 3] xs) : VPure Tryz.prog G0 11 xs (.tree (.lit (.bool true))) := by
  obtain ⟨x0, xs0, rfl, a0, h0⟩ := zof h
  obtain ⟨s0, r0, e0⟩ := zabo Tryz.underlying26 (zasu (n := 6)) a0
  obtain ⟨x1, xs1, rfl, a1, h1⟩ := zof h0
  obtain ⟨s1, r1, e1⟩ := zaeo Tryz.underlying23 (fun _ h => by cases h) (zarh (n := 8)) a1
  simp only [eI, eU8, eB, eS, eSl, List.cons.injEq, and_true] at e1
  obtain ⟨x2, xs2, rfl, a2, h2⟩ := zof h1
  obtain ⟨s2, r2, e2⟩ := zaeo Tryz.underlying3 (fun _ h => by cases h) (dec_3 (n := 9)) a2
  simp only [eI, eU8, eB, eS, eSl, List.cons.injEq, and_true] at e2
  obtain rfl := zahl h2
  refine VPure.norm ?_
  simp only [zgz, zjd, e0, e1, e2]
  exact zjs s0 s1 s2 true (zrh s0 s1 s2 r0 r1.1)
/-- The card. -/
theorem coatMends_holds : Rows.CoatMendsCardSaid := FrCoatMends.card zrz
#print axioms coatMends_holds
end Go.Proofs.YtgdgkkloccpbnaaGreatDoor
