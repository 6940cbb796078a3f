/- The card of SightShared: the law answers true for every argument, with no condition of its own. -/
import Derived.Test.YtdhkepdioiicfaaGreatDoorFrSightShared
import Derived.Test.YtdhkepdioiicfaaGreatDoorBxbac
set_option maxRecDepth 100000
set_option linter.constructorNameAsVariable false
set_option linter.unusedSimpArgs false
set_option linter.unusedVariables false
namespace Go.Proofs.YtdhkepdioiicfaaGreatDoor
open Go Go.V Go.Proofs
theorem sightShared_law (xs : List VV) (h : ArgsS Tryz.prog 10 [27, 3, 3, 34] xs) : VPure Tryz.prog ⟨fun _ => none, some none⟩ 6 xs (.tree (.lit (.bool true))) := by
  obtain ⟨x0, xs0, rfl, a0, h0⟩ := argsS_cons h
  obtain ⟨s0, r0, e0⟩ := arg_struct Tryz.underlying27 (dec_27 (n := 4)) a0
  obtain ⟨x1, xs1, rfl, a1, h1⟩ := argsS_cons h0
  obtain ⟨s1, r1, e1⟩ := arg_cell Tryz.underlying3 (fun _ h => by cases h) (dec_3 (n := 9)) a1
  simp only [eI, eU8, eB, eS, eSl, List.cons.injEq, and_true] at e1
  obtain ⟨x2, xs2, rfl, a2, h2⟩ := argsS_cons h1
  obtain ⟨s2, r2, e2⟩ := arg_cell Tryz.underlying3 (fun _ h => by cases h) (dec_3 (n := 9)) a2
  simp only [eI, eU8, eB, eS, eSl, List.cons.injEq, and_true] at e2
  obtain ⟨x3, xs3, rfl, a3, h3⟩ := argsS_cons h2
  obtain ⟨s3, r3, e3⟩ := arg_struct Tryz.underlying34 (dec_34 (n := 8)) a3
  obtain rfl := argsS_nil h3
  refine VPure.norm ?_
  simp only [normL_cons, normL_nil, e0, e1, e2, e3]
  exact g_law02_SightShared_ok s0 s1 s2 s3 true (SightShared_true s0 s1 s2 s3 r0)
/-- The card. -/
theorem sightShared_holds : Rows.SightSharedCardSaid := FrSightShared.card sightShared_law
#print axioms sightShared_holds
end Go.Proofs.YtdhkepdioiicfaaGreatDoor
