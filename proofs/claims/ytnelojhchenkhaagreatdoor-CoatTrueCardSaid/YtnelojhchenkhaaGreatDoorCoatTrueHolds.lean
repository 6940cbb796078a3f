/- The card of CoatTrue: the law answers true for every argument, with no condition of its own. -/
import Derived.Test.YtnelojhchenkhaaGreatDoorFrCoatTrue
import Derived.Test.YtnelojhchenkhaaGreatDoorQxcac
set_option maxRecDepth 100000
set_option linter.constructorNameAsVariable false
set_option linter.unusedSimpArgs false
set_option linter.unusedVariables false
namespace Go.Proofs.YtnelojhchenkhaaGreatDoor
open Go Go.V Go.Proofs
theorem coatTrue_law (xs : List VV) (h : ArgsS Tryz.prog 10 [26, 23, 23] xs) : VPure Tryz.prog G0 5 xs (.tree (.lit (.bool true))) := by
  obtain ⟨x0, xs0, rfl, a0, h0⟩ := argsS_cons h
  obtain ⟨s0, r0, e0⟩ := arg_struct Tryz.underlying26 (dec_26 (n := 6)) a0
  obtain ⟨x1, xs1, rfl, a1, h1⟩ := argsS_cons h0
  obtain ⟨s1, r1, e1⟩ := arg_cell Tryz.underlying23 (fun _ h => by cases h) (dec_23 (n := 8)) a1
  simp only [eI, eU8, eB, eS, eSl, List.cons.injEq, and_true] at e1
  obtain ⟨x2, xs2, rfl, a2, h2⟩ := argsS_cons h1
  obtain ⟨s2, r2, e2⟩ := arg_cell Tryz.underlying23 (fun _ h => by cases h) (dec_23 (n := 8)) a2
  simp only [eI, eU8, eB, eS, eSl, List.cons.injEq, and_true] at e2
  obtain rfl := argsS_nil h2
  refine VPure.norm ?_
  simp only [normL_cons, normL_nil, e0, e1, e2]
  exact g_law03_CoatTrue_ok s0 s1 s2 true (CoatTrue_true s0 s1 s2 r0 r1.1 r2.1)
/-- The card. -/
theorem coatTrue_holds : Rows.CoatTrueCardSaid := FrCoatTrue.card coatTrue_law
#print axioms coatTrue_holds
end Go.Proofs.YtnelojhchenkhaaGreatDoor
