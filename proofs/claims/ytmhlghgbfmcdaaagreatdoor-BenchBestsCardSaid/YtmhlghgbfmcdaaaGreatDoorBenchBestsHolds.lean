/- The card of BenchBests: the law answers true for every argument, with no condition of its own. -/
import Derived.Test.YtmhlghgbfmcdaaaGreatDoorFrBenchBests
import Derived.Test.YtmhlghgbfmcdaaaGreatDoorG4bi
import Derived.Test.YtmhlghgbfmcdaaaGreatDoorG4bp
set_option maxRecDepth 100000
set_option linter.constructorNameAsVariable false
set_option linter.unusedSimpArgs false
set_option linter.unusedVariables false
namespace Go.Proofs.YtmhlghgbfmcdaaaGreatDoor
open Go Go.V Go.Proofs
theorem Sq (xs : List VV) (h : ArgsS Tryz.prog 10 [25] xs) : aj Tryz.prog G0 10 xs (.tree (.lit (.bool true))) := by
  obtain ⟨x0, SO, rfl, a0, h0⟩ := E0 h
  obtain ⟨s0, r0, e0⟩ := E2 Tryz.underlying25 (E4 (n := 5)) a0
  obtain rfl := E1 h0
  refine aj.norm ?_
  simp only [oV, qJ, e0]
  exact Nj s0 true (Nv s0 r0)
/-- The card. -/
theorem benchBests_holds : Rows.BenchBestsCardSaid := FrBenchBests.card Sq
#print axioms benchBests_holds
end Go.Proofs.YtmhlghgbfmcdaaaGreatDoor
