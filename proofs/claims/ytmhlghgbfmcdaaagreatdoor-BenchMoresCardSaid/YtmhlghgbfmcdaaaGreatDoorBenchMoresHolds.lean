/- The card of BenchMores: the law answers true for every argument, with no condition of its own. -/
import Derived.Test.YtmhlghgbfmcdaaaGreatDoorFrBenchMores
import Derived.Test.YtmhlghgbfmcdaaaGreatDoorG3bi
import Derived.Test.YtmhlghgbfmcdaaaGreatDoorG3bo
set_option maxRecDepth 100000
set_option linter.constructorNameAsVariable false
set_option linter.unusedSimpArgs false
set_option linter.unusedVariables false
namespace Go.Proofs.YtmhlghgbfmcdaaaGreatDoor
open Go Go.V Go.Proofs
theorem NA (xs : List VV) (h : ArgsS Tryz.prog 10 [25, 3] xs) : ak Tryz.prog G0 14 xs (.tree (.lit (.bool true))) := by
  obtain ⟨x0, Tb, rfl, a0, h0⟩ := JV h
  obtain ⟨s0, r0, e0⟩ := Ai Tryz.underlying25 (Al (n := 5)) a0
  obtain ⟨x1, Tc, rfl, a1, h1⟩ := JV h0
  obtain ⟨s1, r1, e1⟩ := Aj Tryz.underlying3 ⟨fun _ h => (by cases h), fun _ _ h => (by cases h)⟩ (dec_3 (n := 9)) a1
  simp only [eI, qC, eB, eS, eSl, List.cons.injEq, and_true] at e1
  obtain rfl := Ah h1
  refine ak.norm ?_
  simp only [mD, oq, e0, e1]
  exact NB s0 s1 true (NC s0 s1 r0)
/-- The card. -/
theorem benchMores_holds : Rows.BenchMoresCardSaid := FrBenchMores.card NA
#print axioms benchMores_holds
end Go.Proofs.YtmhlghgbfmcdaaaGreatDoor
