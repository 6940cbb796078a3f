/- The card of BenchSpared: the law answers true for every argument, with no condition of its own. -/
import Derived.Test.YtmhlghgbfmcdaaaGreatDoorFrBenchSpared
import Derived.Test.YtmhlghgbfmcdaaaGreatDoorS1bi
import Derived.Test.YtmhlghgbfmcdaaaGreatDoorS1bm
set_option maxRecDepth 100000
set_option linter.constructorNameAsVariable false
set_option linter.unusedSimpArgs false
set_option linter.unusedVariables false
namespace Go.Proofs.YtmhlghgbfmcdaaaGreatDoor
open Go Go.V Go.Proofs
theorem Nh (xs : List VV) (h : ArgsS Tryz.prog 10 [25, 22, 3, 3] xs) : ah Tryz.prog G0 9 xs (.tree (.lit (.bool true))) := by
  obtain ⟨x0, Oy, rfl, a0, h0⟩ := sP h
  obtain ⟨s0, r0, e0⟩ := Ni Tryz.underlying25 (BW (n := 5)) a0
  obtain ⟨x1, Oz, rfl, a1, h1⟩ := sP h0
  obtain ⟨s1, r1, e1⟩ := BX Tryz.underlying22 ⟨fun _ h => (by cases h), fun _ _ h => (by cases h)⟩ (BY (n := 8)) a1
  simp only [eI, kn, eB, eS, eSl, List.cons.injEq, and_true] at e1
  obtain ⟨x2, O0, rfl, a2, h2⟩ := sP h1
  obtain ⟨s2, r2, e2⟩ := BX Tryz.underlying3 ⟨fun _ h => (by cases h), fun _ _ h => (by cases h)⟩ (dec_3 (n := 9)) a2
  simp only [eI, kn, eB, eS, eSl, List.cons.injEq, and_true] at e2
  obtain ⟨x3, O1, rfl, a3, h3⟩ := sP h2
  obtain ⟨s3, r3, e3⟩ := BX Tryz.underlying3 ⟨fun _ h => (by cases h), fun _ _ h => (by cases h)⟩ (dec_3 (n := 9)) a3
  simp only [eI, kn, eB, eS, eSl, List.cons.injEq, and_true] at e3
  obtain rfl := BZ h3
  refine ah.norm ?_
  simp only [lU, lT, e0, e1, e2, e3]
  exact Jr s0 s1 s2 s3 true (Jw s0 s1 s2 s3 r0 r1.1)
/-- The card. -/
theorem benchSpared_holds : Rows.BenchSparedCardSaid := FrBenchSpared.card Nh
#print axioms benchSpared_holds
end Go.Proofs.YtmhlghgbfmcdaaaGreatDoor
