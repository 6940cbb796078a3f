/- The card of BenchEnds: the law answers true for every argument, with no condition of its own. -/
import Derived.Test.YtmhlghgbfmcdaaaGreatDoorFrBenchEnds
import Derived.Test.YtmhlghgbfmcdaaaGreatDoorE1bi
import Derived.Test.YtmhlghgbfmcdaaaGreatDoorE1bn
set_option maxRecDepth 100000
set_option linter.constructorNameAsVariable false
set_option linter.unusedSimpArgs false
set_option linter.unusedVariables false
namespace Go.Proofs.YtmhlghgbfmcdaaaGreatDoor
open Go Go.V Go.Proofs
theorem LK (xs : List VV) (h : ArgsS Tryz.prog 10 [25, 22, 3] xs) : ah Tryz.prog G0 3 xs (.tree (.lit (.bool true))) := by
  obtain ⟨x0, QE, rfl, a0, h0⟩ := zb h
  obtain ⟨s0, r0, e0⟩ := zc Tryz.underlying25 (zd (n := 5)) a0
  obtain ⟨x1, QF, rfl, a1, h1⟩ := zb h0
  obtain ⟨s1, r1, e1⟩ := HV Tryz.underlying22 ⟨fun _ h => (by cases h), fun _ _ h => (by cases h)⟩ (ze (n := 8)) a1
  simp only [eI, n0, eB, eS, eSl, List.cons.injEq, and_true] at e1
  obtain ⟨x2, QG, rfl, a2, h2⟩ := zb h1
  obtain ⟨s2, r2, e2⟩ := HV Tryz.underlying3 ⟨fun _ h => (by cases h), fun _ _ h => (by cases h)⟩ (dec_3 (n := 9)) a2
  simp only [eI, n0, eB, eS, eSl, List.cons.injEq, and_true] at e2
  obtain rfl := zf h2
  refine ah.norm ?_
  simp only [n2, n3, e0, e1, e2]
  exact LL s0 s1 s2 true (LM s0 s1 s2 r0 r1.1)
/-- The card. -/
theorem benchEnds_holds : Rows.BenchEndsCardSaid := FrBenchEnds.card LK
#print axioms benchEnds_holds
end Go.Proofs.YtmhlghgbfmcdaaaGreatDoor
