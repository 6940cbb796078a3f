/- The card of SightElsewhere: the law answers true for every argument, with no condition of its own. -/
import Derived.Test.YtdhkepdioiicfaaGreatDoorFrSightElsewhere
import Derived.Test.YtdhkepdioiicfaaGreatDoorEbg
import Derived.Test.YtdhkepdioiicfaaGreatDoorEbp
set_option maxRecDepth 100000
set_option linter.constructorNameAsVariable false
set_option linter.unusedSimpArgs false
set_option linter.unusedVariables false
namespace Go.Proofs.YtdhkepdioiicfaaGreatDoor
open Go Go.V Go.Proofs
theorem sightElsewhere_law (xs : List VV) (h : ArgsS Tryz.prog 10 [27, 3, 3] xs) : VPure Tryz.prog ⟨fun _ => none, some none⟩ 9 xs (.tree (.lit (.bool true))) := by
  obtain ⟨x0, xs0, rfl, a0, h0⟩ := argsS_cons h
  obtain ⟨s0, r0, e0⟩ := arg_struct Tryz.underlying27 (dec_27 (n := 4)) a0
  obtain ⟨x1, xs1, rfl, a1, h1⟩ := argsS_cons h0
  obtain ⟨s1, r1, e1⟩ := arg_cell Tryz.underlying3 (fun _ h => by cases h) (dec_3 (n := 9)) a1
  simp only [eI, eU8, eB, eS, eSl, List.cons.injEq, and_true] at e1
  obtain ⟨x2, xs2, rfl, a2, h2⟩ := argsS_cons h1
  obtain ⟨s2, r2, e2⟩ := arg_cell Tryz.underlying3 (fun _ h => by cases h) (dec_3 (n := 9)) a2
  simp only [eI, eU8, eB, eS, eSl, List.cons.injEq, and_true] at e2
  obtain rfl := argsS_nil h2
  refine VPure.norm ?_
  simp only [normL_cons, normL_nil, e0, e1, e2]
  exact g_law02_SightElsewhere_ok s0 s1 s2 true (SightElsewhere_true s0 s1 s2 r0)
/-- The card. -/
theorem sightElsewhere_holds : Rows.SightElsewhereCardSaid := FrSightElsewhere.card sightElsewhere_law
#print axioms sightElsewhere_holds
end Go.Proofs.YtdhkepdioiicfaaGreatDoor
