/- The card of TintWords: the law answers true for every argument, with no condition of its own. -/
import Derived.Test.YtekhjalgmlflpaaGreatDoorFrTintWords
import Derived.Test.YtekhjalgmlflpaaGreatDoorWbg
import Derived.Test.YtekhjalgmlflpaaGreatDoorWbn
set_option linter.all false
set_option maxRecDepth 100000
namespace Go.Proofs.YtekhjalgmlflpaaGreatDoor
open Go Go.V Go.Proofs
theorem ztd (xs : List VV) (h : ArgsS Tryz.prog 10 [28, 29] xs) : VPure Tryz.prog G0 5 xs (.tree (.lit (.bool true))) := by
  obtain ⟨x0, xs0, rfl, a0, h0⟩ := ztr h
  obtain ⟨s0, r0, e0⟩ := zacu Tryz.underlying28 (zaum (n := 4)) a0
  obtain ⟨x1, xs1, rfl, a1, h1⟩ := ztr h0
  obtain ⟨s1, r1, e1⟩ := zama Tryz.underlying29 ⟨fun _ h => (by cases h), fun _ _ h => (by cases h)⟩ (zath (n := 8)) a1
  simp only [eI, eU8, eB, eS, eSl, List.cons.injEq, and_true] at e1
  obtain rfl := zagy h1
  refine VPure.norm ?_
  simp only [zgx, ziq, e0, e1]
  exact zkw s0 s1 true (zrc s0 s1 r0 r1.1)
/-- The card. -/
theorem tintWords_holds : Rows.TintWordsCardSaid := FrTintWords.card ztd
#print axioms tintWords_holds
end Go.Proofs.YtekhjalgmlflpaaGreatDoor
