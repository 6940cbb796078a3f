/- The card of BenchDue: the law answers true for every argument, with no condition of its own. -/
import Derived.Test.YtmhlghgbfmcdaaaGreatDoorFrBenchDue
import Derived.Test.YtmhlghgbfmcdaaaGreatDoorD1bi
import Derived.Test.YtmhlghgbfmcdaaaGreatDoorD1bm
set_option maxRecDepth 100000
set_option linter.constructorNameAsVariable false
set_option linter.unusedSimpArgs false
set_option linter.unusedVariables false
namespace Go.Proofs.YtmhlghgbfmcdaaaGreatDoor
open Go Go.V Go.Proofs
theorem LZ (xs : List VV) (h : ArgsS Tryz.prog 10 [25, 22, 3, 3] xs) : ai Tryz.prog G0 6 xs (.tree (.lit (.bool true))) := by
  obtain ⟨x0, NI, rfl, a0, h0⟩ := sR h
  obtain ⟨s0, r0, e0⟩ := Ap Tryz.underlying25 (At (n := 5)) a0
  obtain ⟨x1, NJ, rfl, a1, h1⟩ := sR h0
  obtain ⟨s1, r1, e1⟩ := Aq Tryz.underlying22 ⟨fun _ h => (by cases h), fun _ _ h => (by cases h)⟩ (As (n := 8)) a1
  simp only [eI, kW, eB, eS, eSl, List.cons.injEq, and_true] at e1
  obtain ⟨x2, NK, rfl, a2, h2⟩ := sR h1
  obtain ⟨s2, r2, e2⟩ := Aq Tryz.underlying3 ⟨fun _ h => (by cases h), fun _ _ h => (by cases h)⟩ (dec_3 (n := 9)) a2
  simp only [eI, kW, eB, eS, eSl, List.cons.injEq, and_true] at e2
  obtain ⟨x3, NL, rfl, a3, h3⟩ := sR h2
  obtain ⟨s3, r3, e3⟩ := Aq Tryz.underlying3 ⟨fun _ h => (by cases h), fun _ _ h => (by cases h)⟩ (dec_3 (n := 9)) a3
  simp only [eI, kW, eB, eS, eSl, List.cons.injEq, and_true] at e3
  obtain rfl := Ao h3
  refine ai.norm ?_
  simp only [ml, mm, e0, e1, e2, e3]
  exact Ma s0 s1 s2 s3 true (Mb s0 s1 s2 s3 r0 r1.1)
/-- The card. -/
theorem benchDue_holds : Rows.BenchDueCardSaid := FrBenchDue.card LZ
#print axioms benchDue_holds
end Go.Proofs.YtmhlghgbfmcdaaaGreatDoor
