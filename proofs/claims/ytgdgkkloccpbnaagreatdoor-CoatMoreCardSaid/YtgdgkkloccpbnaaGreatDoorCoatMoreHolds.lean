/- The card of CoatMore: the law answers true for every argument, with no condition of its own. -/
import Derived.Test.YtgdgkkloccpbnaaGreatDoorFrCoatMore
import Derived.Test.YtgdgkkloccpbnaaGreatDoorZbf
import Derived.Test.YtgdgkkloccpbnaaGreatDoorZbq
set_option maxRecDepth 100000
set_option linter.constructorNameAsVariable false
set_option linter.unusedSimpArgs false
set_option linter.unusedVariables false
namespace Go.Proofs.YtgdgkkloccpbnaaGreatDoor
open Go Go.V Go.Proofs
theorem coatMore_law (xs : List VV) (h : ArgsS Tryz.prog 10 [26, 23, 3, 56, 3, 3, 3] xs) : VPure Tryz.prog G0 13 xs (.tree (.lit (.bool true))) := by
  obtain ⟨x0, xs0, rfl, a0, h0⟩ := argsS_cons h
  obtain ⟨s0, r0, e0⟩ := arg_struct Tryz.underlying26 (dec_26 (n := 6)) a0
  obtain ⟨x1, xs1, rfl, a1, h1⟩ := argsS_cons h0
  obtain ⟨s1, r1, e1⟩ := arg_cell Tryz.underlying23 (fun _ h => by cases h) (dec_23 (n := 8)) a1
  simp only [eI, eU8, eB, eS, eSl, List.cons.injEq, and_true] at e1
  obtain ⟨x2, xs2, rfl, a2, h2⟩ := argsS_cons h1
  obtain ⟨s2, r2, e2⟩ := arg_cell Tryz.underlying3 (fun _ h => by cases h) (dec_3 (n := 9)) a2
  simp only [eI, eU8, eB, eS, eSl, List.cons.injEq, and_true] at e2
  obtain ⟨x3, xs3, rfl, a3, h3⟩ := argsS_cons h2
  obtain ⟨s3, r3, e3⟩ := arg_struct Tryz.underlying56 (dec_56 (n := 8)) a3
  obtain ⟨x4, xs4, rfl, a4, h4⟩ := argsS_cons h3
  obtain ⟨s4, r4, e4⟩ := arg_cell Tryz.underlying3 (fun _ h => by cases h) (dec_3 (n := 9)) a4
  simp only [eI, eU8, eB, eS, eSl, List.cons.injEq, and_true] at e4
  obtain ⟨x5, xs5, rfl, a5, h5⟩ := argsS_cons h4
  obtain ⟨s5, r5, e5⟩ := arg_cell Tryz.underlying3 (fun _ h => by cases h) (dec_3 (n := 9)) a5
  simp only [eI, eU8, eB, eS, eSl, List.cons.injEq, and_true] at e5
  obtain ⟨x6, xs6, rfl, a6, h6⟩ := argsS_cons h5
  obtain ⟨s6, r6, e6⟩ := arg_cell Tryz.underlying3 (fun _ h => by cases h) (dec_3 (n := 9)) a6
  simp only [eI, eU8, eB, eS, eSl, List.cons.injEq, and_true] at e6
  obtain rfl := argsS_nil h6
  refine VPure.norm ?_
  simp only [normL_cons, normL_nil, e0, e1, e2, e3, e4, e5, e6]
  exact g_law03_CoatMore_ok s0 s1 s2 s3 s4 s5 s6 true (CoatMore_true s0 s1 s2 s3 s4 s5 s6 r0 r1.1)
/-- The card. -/
theorem coatMore_holds : Rows.CoatMoreCardSaid := FrCoatMore.card coatMore_law
#print axioms coatMore_holds
end Go.Proofs.YtgdgkkloccpbnaaGreatDoor
