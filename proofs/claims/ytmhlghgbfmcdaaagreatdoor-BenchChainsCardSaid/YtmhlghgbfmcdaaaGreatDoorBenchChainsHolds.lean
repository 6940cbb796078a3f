/- The card of BenchChains: the law answers true for every argument, with no condition of its own. -/
import Derived.Test.YtmhlghgbfmcdaaaGreatDoorFrBenchChains
import Derived.Test.YtmhlghgbfmcdaaaGreatDoorG6bi
import Derived.Test.YtmhlghgbfmcdaaaGreatDoorG6bp
set_option maxRecDepth 100000
set_option linter.constructorNameAsVariable false
set_option linter.unusedSimpArgs false
set_option linter.unusedVariables false
namespace Go.Proofs.YtmhlghgbfmcdaaaGreatDoor
open Go Go.V Go.Proofs
theorem Tt (xs : List VV) (h : ArgsS Tryz.prog 10 [25, 22, 3] xs) : ak Tryz.prog G0 7 xs (.tree (.lit (.bool true))) := by
  obtain ⟨x0, TF, rfl, a0, h0⟩ := Hb h
  obtain ⟨s0, r0, e0⟩ := Hd Tryz.underlying25 (Hg (n := 5)) a0
  obtain ⟨x1, TG, rfl, a1, h1⟩ := Hb h0
  obtain ⟨s1, r1, e1⟩ := vc Tryz.underlying22 ⟨fun _ h => (by cases h), fun _ _ h => (by cases h)⟩ (Hf (n := 8)) a1
  simp only [eI, qg, eB, eS, eSl, List.cons.injEq, and_true] at e1
  obtain ⟨x2, TH, rfl, a2, h2⟩ := Hb h1
  obtain ⟨s2, r2, e2⟩ := vc Tryz.underlying3 ⟨fun _ h => (by cases h), fun _ _ h => (by cases h)⟩ (dec_3 (n := 9)) a2
  simp only [eI, qg, eB, eS, eSl, List.cons.injEq, and_true] at e2
  obtain rfl := Hc h2
  refine ak.norm ?_
  simp only [nK, qf, e0, e1, e2]
  exact RF s0 s1 s2 true (RV s0 s1 s2 r0 r1.1)
/-- The card. -/
theorem benchChains_holds : Rows.BenchChainsCardSaid := FrBenchChains.card Tt
#print axioms benchChains_holds
end Go.Proofs.YtmhlghgbfmcdaaaGreatDoor
