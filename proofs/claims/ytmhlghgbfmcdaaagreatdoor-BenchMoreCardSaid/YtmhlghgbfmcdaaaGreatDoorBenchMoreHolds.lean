/- The card of BenchMore: the law answers true for every argument, with no condition of its own. -/
import Derived.Test.YtmhlghgbfmcdaaaGreatDoorFrBenchMore
import Derived.Test.YtmhlghgbfmcdaaaGreatDoorG7bi
import Derived.Test.YtmhlghgbfmcdaaaGreatDoorG7bn
set_option maxRecDepth 100000
set_option linter.constructorNameAsVariable false
set_option linter.unusedSimpArgs false
set_option linter.unusedVariables false
namespace Go.Proofs.YtmhlghgbfmcdaaaGreatDoor
open Go Go.V Go.Proofs
theorem QY (xs : List VV) (h : ArgsS Tryz.prog 10 [25, 22, 3, 3, 3] xs) : aj Tryz.prog G0 16 xs (.tree (.lit (.bool true))) := by
  obtain ⟨x0, RV, rfl, a0, h0⟩ := vu h
  obtain ⟨s0, r0, e0⟩ := FW Tryz.underlying25 (FX (n := 5)) a0
  obtain ⟨x1, RW, rfl, a1, h1⟩ := vu h0
  obtain ⟨s1, r1, e1⟩ := xw Tryz.underlying22 ⟨fun _ h => (by cases h), fun _ _ h => (by cases h)⟩ (FY (n := 8)) a1
  simp only [eI, m6, eB, eS, eSl, List.cons.injEq, and_true] at e1
  obtain ⟨x2, RX, rfl, a2, h2⟩ := vu h1
  obtain ⟨s2, r2, e2⟩ := xw Tryz.underlying3 ⟨fun _ h => (by cases h), fun _ _ h => (by cases h)⟩ (dec_3 (n := 9)) a2
  simp only [eI, m6, eB, eS, eSl, List.cons.injEq, and_true] at e2
  obtain ⟨x3, RY, rfl, a3, h3⟩ := vu h2
  obtain ⟨s3, r3, e3⟩ := xw Tryz.underlying3 ⟨fun _ h => (by cases h), fun _ _ h => (by cases h)⟩ (dec_3 (n := 9)) a3
  simp only [eI, m6, eB, eS, eSl, List.cons.injEq, and_true] at e3
  obtain ⟨x4, RZ, rfl, a4, h4⟩ := vu h3
  obtain ⟨s4, r4, e4⟩ := xw Tryz.underlying3 ⟨fun _ h => (by cases h), fun _ _ h => (by cases h)⟩ (dec_3 (n := 9)) a4
  simp only [eI, m6, eB, eS, eSl, List.cons.injEq, and_true] at e4
  obtain rfl := FZ h4
  refine aj.norm ?_
  simp only [pD, pC, e0, e1, e2, e3, e4]
  exact Qo s0 s1 s2 s3 s4 true (Qw s0 s1 s2 s3 s4 r0 r1.1)
/-- The card. -/
theorem benchMore_holds : Rows.BenchMoreCardSaid := FrBenchMore.card QY
#print axioms benchMore_holds
end Go.Proofs.YtmhlghgbfmcdaaaGreatDoor
