/- The card of BenchEnough: the law answers true for every argument, with no condition of its own. -/
import Derived.Test.YtmhlghgbfmcdaaaGreatDoorFrBenchEnough
import Derived.Test.YtmhlghgbfmcdaaaGreatDoorN1bi
import Derived.Test.YtmhlghgbfmcdaaaGreatDoorN1bm
set_option maxRecDepth 100000
set_option linter.constructorNameAsVariable false
set_option linter.unusedSimpArgs false
set_option linter.unusedVariables false
namespace Go.Proofs.YtmhlghgbfmcdaaaGreatDoor
open Go Go.V Go.Proofs
theorem Jl (xs : List VV) (h : ArgsS Tryz.prog 10 [25, 3, 3] xs) : ag Tryz.prog G0 15 xs (.tree (.lit (.bool true))) := by
  obtain ⟨x0, NO, rfl, a0, h0⟩ := vi h
  obtain ⟨s0, r0, e0⟩ := vj Tryz.underlying25 (vk (n := 5)) a0
  obtain ⟨x1, NP, rfl, a1, h1⟩ := vi h0
  obtain ⟨s1, r1, e1⟩ := nA Tryz.underlying3 ⟨fun _ h => (by cases h), fun _ _ h => (by cases h)⟩ (dec_3 (n := 9)) a1
  simp only [eI, jP, eB, eS, eSl, List.cons.injEq, and_true] at e1
  obtain ⟨x2, NQ, rfl, a2, h2⟩ := vi h1
  obtain ⟨s2, r2, e2⟩ := nA Tryz.underlying3 ⟨fun _ h => (by cases h), fun _ _ h => (by cases h)⟩ (dec_3 (n := 9)) a2
  simp only [eI, jP, eB, eS, eSl, List.cons.injEq, and_true] at e2
  obtain rfl := vl h2
  refine ag.norm ?_
  simp only [jQ, jR, e0, e1, e2]
  exact Jm s0 s1 s2 true (Jn s0 s1 s2 r0)
/-- The card. -/
theorem benchEnough_holds : Rows.BenchEnoughCardSaid := FrBenchEnough.card Jl
#print axioms benchEnough_holds
end Go.Proofs.YtmhlghgbfmcdaaaGreatDoor
