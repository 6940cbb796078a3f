/- The card of PricePaids: the law answers true for every argument, with no condition of its own. -/
import Derived.Test.YtjpgejagakmjgaaGreatDoorFrPricePaids
import Derived.Test.YtjpgejagakmjgaaGreatDoorTbi
import Derived.Test.YtjpgejagakmjgaaGreatDoorTbn
set_option maxRecDepth 100000
set_option linter.constructorNameAsVariable false
set_option linter.unusedSimpArgs false
set_option linter.unusedVariables false
namespace Go.Proofs.YtjpgejagakmjgaaGreatDoor
open Go Go.V Go.Proofs
theorem zps (xs : List VV) (h : ArgsS Tryz.prog 10 [26, 3, 22] xs) : VPure Tryz.prog G0 3 xs (.tree (.lit (.bool true))) := by
  obtain ⟨x0, xs0, rfl, a0, h0⟩ := zne h
  obtain ⟨s0, r0, e0⟩ := zaaa Tryz.underlying26 (zars (n := 5)) a0
  obtain ⟨x1, xs1, rfl, a1, h1⟩ := zne h0
  obtain ⟨s1, r1, e1⟩ := zaay Tryz.underlying3 ⟨fun _ h => (by cases h), fun _ _ h => (by cases h)⟩ (dec_3 (n := 9)) a1
  simp only [eI, eU8, eB, eS, eSl, List.cons.injEq, and_true] at e1
  obtain ⟨x2, xs2, rfl, a2, h2⟩ := zne h1
  obtain ⟨s2, r2, e2⟩ := zaay Tryz.underlying22 ⟨fun _ h => (by cases h), fun _ _ h => (by cases h)⟩ (zarw (n := 8)) a2
  simp only [eI, eU8, eB, eS, eSl, List.cons.injEq, and_true] at e2
  obtain rfl := zagk h2
  refine VPure.norm ?_
  simp only [zfn, zhj, e0, e1, e2]
  exact zin s0 s1 s2 true (znl s0 s1 s2 r0 r2.1)
/-- The card. -/
theorem pricePaids_holds : Rows.PricePaidsCardSaid := FrPricePaids.card zps
#print axioms pricePaids_holds
end Go.Proofs.YtjpgejagakmjgaaGreatDoor
