/- The card of BenchLates: the law answers true for every argument, with no condition of its own. -/
import Derived.Test.YtmhlghgbfmcdaaaGreatDoorFrBenchLates
import Derived.Test.YtmhlghgbfmcdaaaGreatDoorL1bi
import Derived.Test.YtmhlghgbfmcdaaaGreatDoorL1bo
set_option maxRecDepth 100000
set_option linter.constructorNameAsVariable false
set_option linter.unusedSimpArgs false
set_option linter.unusedVariables false
namespace Go.Proofs.YtmhlghgbfmcdaaaGreatDoor
open Go Go.V Go.Proofs
theorem MU (xs : List VV) (h : ArgsS Tryz.prog 10 [25, 22] xs) : ai Tryz.prog G0 5 xs (.tree (.lit (.bool true))) := by
  obtain ⟨x0, SE, rfl, a0, h0⟩ := JA h
  obtain ⟨s0, r0, e0⟩ := yK Tryz.underlying25 (yL (n := 5)) a0
  obtain ⟨x1, SF, rfl, a1, h1⟩ := JA h0
  obtain ⟨s1, r1, e1⟩ := yM Tryz.underlying22 ⟨fun _ h => (by cases h), fun _ _ h => (by cases h)⟩ (yN (n := 8)) a1
  simp only [eI, rV, eB, eS, eSl, List.cons.injEq, and_true] at e1
  obtain rfl := yO h1
  refine ai.norm ?_
  simp only [pz, p7, e0, e1]
  exact MV s0 s1 true (MW s0 s1 r0 r1.1)
/-- The card. -/
theorem benchLates_holds : Rows.BenchLatesCardSaid := FrBenchLates.card MU
#print axioms benchLates_holds
end Go.Proofs.YtmhlghgbfmcdaaaGreatDoor
