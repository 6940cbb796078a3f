/- The card of CoatKept: the law answers true for every argument, with no condition of its own. -/
import Derived.Test.YtgdgkkloccpbnaaGreatDoorFrCoatKept
import Derived.Test.YtgdgkkloccpbnaaGreatDoorRbf
import Derived.Test.YtgdgkkloccpbnaaGreatDoorRbq
set_option maxRecDepth 100000
set_option linter.constructorNameAsVariable false
set_option linter.unusedSimpArgs false
set_option linter.unusedVariables false
namespace Go.Proofs.YtgdgkkloccpbnaaGreatDoor
open Go Go.V Go.Proofs
theorem coatKept_law (xs : List VV) (h : ArgsS Tryz.prog 10 [26, 23, 3, 23] xs) : VPure Tryz.prog G0 12 xs (.tree (.lit (.bool true))) := by
  obtain ⟨x0, xs0, rfl, a0, h0⟩ := argsS_cons h
  obtain ⟨s0, r0, e0⟩ := arg_struct Tryz.underlying26 (dec_26 (n := 6)) a0
  obtain ⟨x1, xs1, rfl, a1, h1⟩ := argsS_cons h0
  obtain ⟨s1, r1, e1⟩ := arg_cell Tryz.underlying23 (fun _ h => by cases h) (dec_23 (n := 8)) a1
  simp only [eI, eU8, eB, eS, eSl, List.cons.injEq, and_true] at e1
  obtain ⟨x2, xs2, rfl, a2, h2⟩ := argsS_cons h1
  obtain ⟨s2, r2, e2⟩ := arg_cell Tryz.underlying3 (fun _ h => by cases h) (dec_3 (n := 9)) a2
  simp only [eI, eU8, eB, eS, eSl, List.cons.injEq, and_true] at e2
  obtain ⟨x3, xs3, rfl, a3, h3⟩ := argsS_cons h2
  obtain ⟨s3, r3, e3⟩ := arg_cell Tryz.underlying23 (fun _ h => by cases h) (dec_23 (n := 8)) a3
  simp only [eI, eU8, eB, eS, eSl, List.cons.injEq, and_true] at e3
  obtain rfl := argsS_nil h3
  refine VPure.norm ?_
  simp only [normL_cons, normL_nil, e0, e1, e2, e3]
  exact g_law03_CoatKept_ok s0 s1 s2 s3 true (CoatKept_true s0 s1 s2 s3 r0 r1.1 r3.1)
/-- The card. -/
theorem coatKept_holds : Rows.CoatKeptCardSaid := FrCoatKept.card coatKept_law
#print axioms coatKept_holds
end Go.Proofs.YtgdgkkloccpbnaaGreatDoor
