/- The card of BenchDelays: the law answers true for every argument, with no condition of its own. -/
import Derived.Test.YtmhlghgbfmcdaaaGreatDoorFrBenchDelays
import Derived.Test.YtmhlghgbfmcdaaaGreatDoorG5bi
import Derived.Test.YtmhlghgbfmcdaaaGreatDoorG5bp
set_option maxRecDepth 100000
set_option linter.constructorNameAsVariable false
set_option linter.unusedSimpArgs false
set_option linter.unusedVariables false
namespace Go.Proofs.YtmhlghgbfmcdaaaGreatDoor
open Go Go.V Go.Proofs
theorem Wf (xs : List VV) (h : ArgsS Tryz.prog 10 [25, 22, 22, 3] xs) : al Tryz.prog G0 8 xs (.tree (.lit (.bool true))) := by
  obtain ⟨x0, Y4, rfl, a0, h0⟩ := C8 h
  obtain ⟨s0, r0, e0⟩ := Jb Tryz.underlying25 (Je (n := 5)) a0
  obtain ⟨x1, Y5, rfl, a1, h1⟩ := C8 h0
  obtain ⟨s1, r1, e1⟩ := Jc Tryz.underlying22 ⟨fun _ h => (by cases h), fun _ _ h => (by cases h)⟩ (zi (n := 8)) a1
  simp only [eI, rl, eB, eS, eSl, List.cons.injEq, and_true] at e1
  obtain ⟨x2, Y6, rfl, a2, h2⟩ := C8 h1
  obtain ⟨s2, r2, e2⟩ := Jc Tryz.underlying22 ⟨fun _ h => (by cases h), fun _ _ h => (by cases h)⟩ (zi (n := 8)) a2
  simp only [eI, rl, eB, eS, eSl, List.cons.injEq, and_true] at e2
  obtain ⟨x3, Y7, rfl, a3, h3⟩ := C8 h2
  obtain ⟨s3, r3, e3⟩ := Jc Tryz.underlying3 ⟨fun _ h => (by cases h), fun _ _ h => (by cases h)⟩ (dec_3 (n := 9)) a3
  simp only [eI, rl, eB, eS, eSl, List.cons.injEq, and_true] at e3
  obtain rfl := Ja h3
  refine al.norm ?_
  simp only [sX, sY, e0, e1, e2, e3]
  exact Wg s0 s1 s2 s3 true (Wh s0 s1 s2 s3 r0 r1.1 r2.1)
/-- The card. -/
theorem benchDelays_holds : Rows.BenchDelaysCardSaid := FrBenchDelays.card Wf
#print axioms benchDelays_holds
end Go.Proofs.YtmhlghgbfmcdaaaGreatDoor
