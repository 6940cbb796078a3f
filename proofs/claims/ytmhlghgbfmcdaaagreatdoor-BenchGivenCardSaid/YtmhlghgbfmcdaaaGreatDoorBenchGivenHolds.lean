/- The card of BenchGiven: the law answers true for every argument, with no condition of its own. -/
import Derived.Test.YtmhlghgbfmcdaaaGreatDoorFrBenchGiven
import Derived.Test.YtmhlghgbfmcdaaaGreatDoorG1bi
import Derived.Test.YtmhlghgbfmcdaaaGreatDoorG1bn
set_option maxRecDepth 100000
set_option linter.constructorNameAsVariable false
set_option linter.unusedSimpArgs false
set_option linter.unusedVariables false
namespace Go.Proofs.YtmhlghgbfmcdaaaGreatDoor
open Go Go.V Go.Proofs
theorem OV (xs : List VV) (h : ArgsS Tryz.prog 10 [25, 22, 3, 3] xs) : aj Tryz.prog G0 13 xs (.tree (.lit (.bool true))) := by
  obtain ⟨x0, Rx, rfl, a0, h0⟩ := ui h
  obtain ⟨s0, r0, e0⟩ := yJ Tryz.underlying25 (yN (n := 5)) a0
  obtain ⟨x1, Ry, rfl, a1, h1⟩ := ui h0
  obtain ⟨s1, r1, e1⟩ := yK Tryz.underlying22 ⟨fun _ h => (by cases h), fun _ _ h => (by cases h)⟩ (yM (n := 8)) a1
  simp only [eI, ku, eB, eS, eSl, List.cons.injEq, and_true] at e1
  obtain ⟨x2, Rz, rfl, a2, h2⟩ := ui h1
  obtain ⟨s2, r2, e2⟩ := yK Tryz.underlying3 ⟨fun _ h => (by cases h), fun _ _ h => (by cases h)⟩ (dec_3 (n := 9)) a2
  simp only [eI, ku, eB, eS, eSl, List.cons.injEq, and_true] at e2
  obtain ⟨x3, R0, rfl, a3, h3⟩ := ui h2
  obtain ⟨s3, r3, e3⟩ := yK Tryz.underlying3 ⟨fun _ h => (by cases h), fun _ _ h => (by cases h)⟩ (dec_3 (n := 9)) a3
  simp only [eI, ku, eB, eS, eSl, List.cons.injEq, and_true] at e3
  obtain rfl := yI h3
  refine aj.norm ?_
  simp only [lU, lV, e0, e1, e2, e3]
  exact OW s0 s1 s2 s3 true (OX s0 s1 s2 s3 r0 r1.1)
/-- The card. -/
theorem benchGiven_holds : Rows.BenchGivenCardSaid := FrBenchGiven.card OV
#print axioms benchGiven_holds
end Go.Proofs.YtmhlghgbfmcdaaaGreatDoor
