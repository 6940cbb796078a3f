/- The card of TintNears: the law answers true for every argument, with no condition of its own. -/
import Derived.Test.YtekhjalgmlflpaaGreatDoorFrTintNears
import Derived.Test.YtekhjalgmlflpaaGreatDoorUbg
import Derived.Test.YtekhjalgmlflpaaGreatDoorUbn
set_option linter.all false
set_option maxRecDepth 100000
namespace Go.Proofs.YtekhjalgmlflpaaGreatDoor
open Go Go.V Go.Proofs
theorem zrz (xs : List VV) (h : ArgsS Tryz.prog 10 [28] xs) : VPure Tryz.prog G0 13 xs (.tree (.lit (.bool true))) := by
  obtain ⟨x0, xs0, rfl, a0, h0⟩ := zadv h
  obtain ⟨s0, r0, e0⟩ := zacs Tryz.underlying28 (zaty (n := 4)) a0
  obtain rfl := zaff h0
  refine VPure.norm ?_
  simp only [zhk, zjj, e0]
  exact zjz s0 true (zqt s0 r0)
/-- The card. -/
theorem tintNears_holds : Rows.TintNearsCardSaid := FrTintNears.card zrz
#print axioms tintNears_holds
end Go.Proofs.YtekhjalgmlflpaaGreatDoor
