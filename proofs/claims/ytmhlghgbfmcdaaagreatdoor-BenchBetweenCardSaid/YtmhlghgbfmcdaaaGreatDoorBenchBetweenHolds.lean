/- The card of BenchBetween: the law answers true for every argument, with no condition of its own. -/
import Derived.Test.YtmhlghgbfmcdaaaGreatDoorFrBenchBetween
import Derived.Test.YtmhlghgbfmcdaaaGreatDoorB1bi
import Derived.Test.YtmhlghgbfmcdaaaGreatDoorB1bm
set_option maxRecDepth 100000
set_option linter.constructorNameAsVariable false
set_option linter.unusedSimpArgs false
set_option linter.unusedVariables false
namespace Go.Proofs.YtmhlghgbfmcdaaaGreatDoor
open Go Go.V Go.Proofs
theorem Qr (xs : List VV) (h : ArgsS Tryz.prog 10 [25, 22, 22] xs) : ah Tryz.prog G0 4 xs (.tree (.lit (.bool true))) := by
  obtain ⟨x0, R4, rfl, a0, h0⟩ := z9 h
  obtain ⟨s0, r0, e0⟩ := LO Tryz.underlying25 (zC (n := 5)) a0
  obtain ⟨x1, R5, rfl, a1, h1⟩ := z9 h0
  obtain ⟨s1, r1, e1⟩ := Ie Tryz.underlying22 ⟨fun _ h => (by cases h), fun _ _ h => (by cases h)⟩ (sc (n := 8)) a1
  simp only [eI, nv, eB, eS, eSl, List.cons.injEq, and_true] at e1
  obtain ⟨x2, R6, rfl, a2, h2⟩ := z9 h1
  obtain ⟨s2, r2, e2⟩ := Ie Tryz.underlying22 ⟨fun _ h => (by cases h), fun _ _ h => (by cases h)⟩ (sc (n := 8)) a2
  simp only [eI, nv, eB, eS, eSl, List.cons.injEq, and_true] at e2
  obtain rfl := zA h2
  refine ah.norm ?_
  simp only [nt, nu, e0, e1, e2]
  exact Ok s0 s1 s2 true (Oz s0 s1 s2 r0 r1.1 r2.1)
/-- The card. -/
theorem benchBetween_holds : Rows.BenchBetweenCardSaid := FrBenchBetween.card Qr
#print axioms benchBetween_holds
end Go.Proofs.YtmhlghgbfmcdaaaGreatDoor
