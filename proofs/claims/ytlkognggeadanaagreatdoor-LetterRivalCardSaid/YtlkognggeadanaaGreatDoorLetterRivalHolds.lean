/- The card of LetterRival: the law answers true for every argument, with no condition of its own. -/
import Derived.Test.YtlkognggeadanaaGreatDoorFrLetterRival
import Derived.Test.YtlkognggeadanaaGreatDoorEbh
import Derived.Test.YtlkognggeadanaaGreatDoorEbp
set_option maxRecDepth 100000
set_option linter.constructorNameAsVariable false
set_option linter.unusedSimpArgs false
set_option linter.unusedVariables false
namespace Go.Proofs.YtlkognggeadanaaGreatDoor
open Go Go.V Go.Proofs
theorem Xn (xs : List VV) (h : ArgsS Tryz.prog 10 [28, 31] xs) : ad Tryz.prog G0 8 xs (.tree (.lit (.bool true))) := by
  obtain ⟨x0, Ym, rfl, a0, h0⟩ := QT h
  obtain ⟨s0, r0, e0⟩ := QU Tryz.underlying28 (Ja (n := 5)) a0
  obtain ⟨x1, Yn, rfl, a1, h1⟩ := QT h0
  obtain ⟨s1, r1, e1⟩ := QU Tryz.underlying31 (Jb (n := 6)) a1
  obtain rfl := IW h1
  refine ad.norm ?_
  simp only [w6, w7, e0, e1]
  exact TY s0 s1 true (Uf s0 s1 r0 r1)
/-- The card. -/
theorem letterRival_holds : Rows.LetterRivalCardSaid := FrLetterRival.card Xn
#print axioms letterRival_holds
end Go.Proofs.YtlkognggeadanaaGreatDoor
