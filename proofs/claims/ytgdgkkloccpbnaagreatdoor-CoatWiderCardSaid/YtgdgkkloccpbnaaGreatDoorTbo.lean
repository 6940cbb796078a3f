/- Part of a proof: a logic of values by content, lifted functions, what follows. -/
import Derived.Test.YtgdgkkloccpbnaaGreatDoorTay
import Derived.Test.YtgdgkkloccpbnaaGreatDoorTbf
import Derived.Test.YtgdgkkloccpbnaaGreatDoorProg
import Derived.Test.YtgdgkkloccpbnaaGreatDoorTbi
import Derived.Test.YtgdgkkloccpbnaaGreatDoorTbn
import Derived.Test.YtgdgkkloccpbnaaGreatDoorTbh
import Derived.Test.YtgdgkkloccpbnaaGreatDoorTbm
set_option linter.all false
set_option maxRecDepth 4000
set_option maxHeartbeats 40000000
section
namespace Go.V
open Go Go.Proofs
theorem hmix : Tryz.prog.follows .mixedOrders = true := by kernel_rfl
def kA : VV := (Go.V.VV.agg [(Go.V.VV.sl [(Go.V.VV.lit (Go.Value.int Go.IntKind.i64 (Int.ofNat 6))), (Go.V.VV.lit (Go.Value.int Go.IntKind.i64 (Int.ofNat 8))), (Go.V.VV.lit (Go.Value.int Go.IntKind.i64 (Int.ofNat 4))), (Go.V.VV.lit (Go.Value.int Go.IntKind.i64 (Int.ofNat 6))), (Go.V.VV.lit (Go.Value.int Go.IntKind.i64 (Int.ofNat 8))), (Go.V.VV.lit (Go.Value.int Go.IntKind.i64 (Int.ofNat 10))), (Go.V.VV.lit (Go.Value.int Go.IntKind.i64 (Int.ofNat 2))), (Go.V.VV.lit (Go.Value.int Go.IntKind.i64 (Int.ofNat 4))), (Go.V.VV.lit (Go.Value.int Go.IntKind.i64 (Int.ofNat 6))), (Go.V.VV.lit (Go.Value.int Go.IntKind.i64 (Int.ofNat 6))), (Go.V.VV.lit (Go.Value.int Go.IntKind.i64 (Int.ofNat 5))), (Go.V.VV.lit (Go.Value.int Go.IntKind.i64 (Int.ofNat 9))), (Go.V.VV.lit (Go.Value.int Go.IntKind.i64 (Int.ofNat 8))), (Go.V.VV.lit (Go.Value.int Go.IntKind.i64 (Int.ofNat 12))), (Go.V.VV.lit (Go.Value.int Go.IntKind.i64 (Int.ofNat 4))), (Go.V.VV.lit (Go.Value.int Go.IntKind.i64 (Int.ofNat 4)))] 8 Bool.false), (Go.V.VV.sl [(Go.V.VV.lit (Go.Value.int Go.IntKind.i64 (Int.ofNat 0))), (Go.V.VV.lit (Go.Value.int Go.IntKind.i64 (Int.ofNat 2))), (Go.V.VV.lit (Go.Value.int Go.IntKind.i64 (Int.ofNat 3))), (Go.V.VV.lit (Go.Value.int Go.IntKind.i64 (Int.ofNat 5))), (Go.V.VV.lit (Go.Value.int Go.IntKind.i64 (Int.ofNat 6)))] 5 Bool.false), (Go.V.VV.sl [(Go.V.VV.lit (Go.Value.int Go.IntKind.i64 (Int.ofNat 9))), (Go.V.VV.lit (Go.Value.int Go.IntKind.i64 (Int.ofNat 20))), (Go.V.VV.lit (Go.Value.int Go.IntKind.i64 (Int.ofNat 10))), (Go.V.VV.lit (Go.Value.int Go.IntKind.i64 (Int.ofNat 20))), (Go.V.VV.lit (Go.Value.int Go.IntKind.i64 (Int.ofNat 8))), (Go.V.VV.lit (Go.Value.int Go.IntKind.i64 (Int.ofNat 30)))] 3 Bool.false)])
def kB : VV := (Go.V.VV.agg [(Go.V.VV.sl [(Go.V.VV.lit (Go.Value.int Go.IntKind.i64 (Int.ofNat 6))), (Go.V.VV.lit (Go.Value.int Go.IntKind.i64 (Int.ofNat 8))), (Go.V.VV.lit (Go.Value.int Go.IntKind.i64 (Int.ofNat 4))), (Go.V.VV.lit (Go.Value.int Go.IntKind.i64 (Int.ofNat 6))), (Go.V.VV.lit (Go.Value.int Go.IntKind.i64 (Int.ofNat 8))), (Go.V.VV.lit (Go.Value.int Go.IntKind.i64 (Int.ofNat 10))), (Go.V.VV.lit (Go.Value.int Go.IntKind.i64 (Int.ofNat 2))), (Go.V.VV.lit (Go.Value.int Go.IntKind.i64 (Int.ofNat 4))), (Go.V.VV.lit (Go.Value.int Go.IntKind.i64 (Int.ofNat 6))), (Go.V.VV.lit (Go.Value.int Go.IntKind.i64 (Int.ofNat 6))), (Go.V.VV.lit (Go.Value.int Go.IntKind.i64 (Int.ofNat 5))), (Go.V.VV.lit (Go.Value.int Go.IntKind.i64 (Int.ofNat 9))), (Go.V.VV.lit (Go.Value.int Go.IntKind.i64 (Int.ofNat 8))), (Go.V.VV.lit (Go.Value.int Go.IntKind.i64 (Int.ofNat 12))), (Go.V.VV.lit (Go.Value.int Go.IntKind.i64 (Int.ofNat 4))), (Go.V.VV.lit (Go.Value.int Go.IntKind.i64 (Int.ofNat 4)))] 8 Bool.false), (Go.V.VV.sl [(Go.V.VV.lit (Go.Value.int Go.IntKind.i64 (Int.ofNat 0))), (Go.V.VV.lit (Go.Value.int Go.IntKind.i64 (Int.ofNat 2))), (Go.V.VV.lit (Go.Value.int Go.IntKind.i64 (Int.ofNat 3))), (Go.V.VV.lit (Go.Value.int Go.IntKind.i64 (Int.ofNat 5))), (Go.V.VV.lit (Go.Value.int Go.IntKind.i64 (Int.ofNat 6)))] 5 Bool.false), (Go.V.VV.sl [(Go.V.VV.lit (Go.Value.int Go.IntKind.i64 (Int.ofNat 9))), (Go.V.VV.lit (Go.Value.int Go.IntKind.i64 (Int.ofNat 20))), (Go.V.VV.lit (Go.Value.int Go.IntKind.i64 (Int.ofNat 10))), (Go.V.VV.lit (Go.Value.int Go.IntKind.i64 (Int.ofNat 18))), (Go.V.VV.lit (Go.Value.int Go.IntKind.i64 (Int.ofNat 8))), (Go.V.VV.lit (Go.Value.int Go.IntKind.i64 (Int.ofNat 30)))] 3 Bool.false)])
def kE : VV := (Go.V.VV.agg [(Go.V.VV.sl [(Go.V.VV.lit (Go.Value.int Go.IntKind.i64 (Int.ofNat 6))), (Go.V.VV.lit (Go.Value.int Go.IntKind.i64 (Int.ofNat 8))), (Go.V.VV.lit (Go.Value.int Go.IntKind.i64 (Int.ofNat 4))), (Go.V.VV.lit (Go.Value.int Go.IntKind.i64 (Int.ofNat 6))), (Go.V.VV.lit (Go.Value.int Go.IntKind.i64 (Int.ofNat 8))), (Go.V.VV.lit (Go.Value.int Go.IntKind.i64 (Int.ofNat 10))), (Go.V.VV.lit (Go.Value.int Go.IntKind.i64 (Int.ofNat 2))), (Go.V.VV.lit (Go.Value.int Go.IntKind.i64 (Int.ofNat 4))), (Go.V.VV.lit (Go.Value.int Go.IntKind.i64 (Int.ofNat 6))), (Go.V.VV.lit (Go.Value.int Go.IntKind.i64 (Int.ofNat 6))), (Go.V.VV.lit (Go.Value.int Go.IntKind.i64 (Int.ofNat 5))), (Go.V.VV.lit (Go.Value.int Go.IntKind.i64 (Int.ofNat 9))), (Go.V.VV.lit (Go.Value.int Go.IntKind.i64 (Int.ofNat 8))), (Go.V.VV.lit (Go.Value.int Go.IntKind.i64 (Int.ofNat 12))), (Go.V.VV.lit (Go.Value.int Go.IntKind.i64 (Int.ofNat 4))), (Go.V.VV.lit (Go.Value.int Go.IntKind.i64 (Int.ofNat 4)))] 8 Bool.false), (Go.V.VV.sl [(Go.V.VV.lit (Go.Value.int Go.IntKind.i64 (Int.ofNat 0))), (Go.V.VV.lit (Go.Value.int Go.IntKind.i64 (Int.ofNat 1))), (Go.V.VV.lit (Go.Value.int Go.IntKind.i64 (Int.ofNat 2))), (Go.V.VV.lit (Go.Value.int Go.IntKind.i64 (Int.ofNat 3))), (Go.V.VV.lit (Go.Value.int Go.IntKind.i64 (Int.ofNat 4))), (Go.V.VV.lit (Go.Value.int Go.IntKind.i64 (Int.ofNat 5))), (Go.V.VV.lit (Go.Value.int Go.IntKind.i64 (Int.ofNat 6))), (Go.V.VV.lit (Go.Value.int Go.IntKind.i64 (Int.ofNat 7)))] 8 Bool.false), (Go.V.VV.sl [(Go.V.VV.lit (Go.Value.int Go.IntKind.i64 (Int.ofNat 9))), (Go.V.VV.lit (Go.Value.int Go.IntKind.i64 (Int.ofNat 20))), (Go.V.VV.lit (Go.Value.int Go.IntKind.i64 (Int.ofNat 10))), (Go.V.VV.lit (Go.Value.int Go.IntKind.i64 (Int.ofNat 20))), (Go.V.VV.lit (Go.Value.int Go.IntKind.i64 (Int.ofNat 8))), (Go.V.VV.lit (Go.Value.int Go.IntKind.i64 (Int.ofNat 30)))] 3 Bool.false)])
def kHolds : VV := (Go.V.VV.tup [(Go.V.VV.lit (Go.Value.bool Bool.false)), (Go.V.VV.lit (Go.Value.int Go.IntKind.i64 (Int.ofNat 0)))])
def kWord : VV := (Go.V.VV.tup [(Go.V.VV.lit (Go.Value.int Go.IntKind.i64 (Int.ofNat 1))), (Go.V.VV.lit (Go.Value.int Go.IntKind.i64 (Int.ofNat 0)))])
def kFails : VV := (Go.V.VV.tup [(Go.V.VV.lit (Go.Value.int Go.IntKind.i64 (Int.ofNat 0))), (Go.V.VV.lit (Go.Value.int Go.IntKind.i64 (Int.ofNat 2))), (Go.V.VV.lit (Go.Value.int Go.IntKind.i64 (Int.ofNat 0)))])
def kProof : VV := (Go.V.VV.tup [(Go.V.VV.sl [(Go.V.VV.lit (Go.Value.int Go.IntKind.i64 (Int.ofNat 6))), (Go.V.VV.lit (Go.Value.int Go.IntKind.i64 (Int.ofNat 5))), (Go.V.VV.lit (Go.Value.int Go.IntKind.i64 (Int.ofNat 10))), (Go.V.VV.lit (Go.Value.int Go.IntKind.i64 (Int.ofNat 2))), (Go.V.VV.lit (Go.Value.int Go.IntKind.i64 (Int.ofNat 6))), (Go.V.VV.lit (Go.Value.int Go.IntKind.i64 (Int.ofNat 5))), (Go.V.VV.lit (Go.Value.int Go.IntKind.i64 (Int.ofNat 8))), (Go.V.VV.lit (Go.Value.int Go.IntKind.i64 (Int.ofNat 4)))] 8 Bool.false), (Go.V.VV.lit (Go.Value.int Go.IntKind.i64 (Int.ofNat 0)))])
def kFirst : VV := (Go.V.VV.tup [(Go.V.VV.sl [(Go.V.VV.lit (Go.Value.int Go.IntKind.i64 (Int.ofNat 0))), (Go.V.VV.lit (Go.Value.int Go.IntKind.i64 (Int.ofNat 2))), (Go.V.VV.lit (Go.Value.int Go.IntKind.i64 (Int.ofNat 5)))] 3 Bool.false), (Go.V.VV.lit (Go.Value.int Go.IntKind.i64 (Int.ofNat 0)))])
def kCount : VV := (Go.V.VV.tup [(Go.V.VV.lit (Go.Value.int Go.IntKind.i64 (Int.ofNat 5))), (Go.V.VV.lit (Go.Value.int Go.IntKind.i64 (Int.ofNat 0)))])
def kDays : VV := (Go.V.VV.tup [(Go.V.VV.sl [(Go.V.VV.lit (Go.Value.int Go.IntKind.i64 (Int.ofNat 2))), (Go.V.VV.lit (Go.Value.int Go.IntKind.i64 (Int.ofNat 3))), (Go.V.VV.lit (Go.Value.int Go.IntKind.i64 (Int.ofNat 4)))] 3 Bool.false), (Go.V.VV.lit (Go.Value.int Go.IntKind.i64 (Int.ofNat 0)))])
def kLate : VV := (Go.V.VV.tup [(Go.V.VV.lit (Go.Value.int Go.IntKind.i64 (Int.ofNat 2))), (Go.V.VV.lit (Go.Value.int Go.IntKind.i64 (Int.ofNat 0)))])
def kQuick : VV := (Go.V.VV.tup [(Go.V.VV.lit (Go.Value.int Go.IntKind.i64 (Int.ofNat 4))), (Go.V.VV.lit (Go.Value.int Go.IntKind.i64 (Int.ofNat 0)))])
def kStuck : VV := (Go.V.VV.tup [(Go.V.VV.lit (Go.Value.int Go.IntKind.i64 (Int.ofNat 2))), (Go.V.VV.lit (Go.Value.int Go.IntKind.i64 (Int.ofNat 0)))])
def kSlack : VV := (Go.V.VV.tup [(Go.V.VV.lit (Go.Value.int Go.IntKind.i64 (Int.ofNat 2))), (Go.V.VV.lit (Go.Value.int Go.IntKind.i64 (Int.ofNat 0)))])
def kMend : VV := (Go.V.VV.tup [(Go.V.VV.sl [(Go.V.VV.lit (Go.Value.int Go.IntKind.i64 (Int.ofNat 0))), (Go.V.VV.lit (Go.Value.int Go.IntKind.i64 (Int.ofNat 2))), (Go.V.VV.lit (Go.Value.int Go.IntKind.i64 (Int.ofNat 4)))] 3 Bool.false), (Go.V.VV.lit (Go.Value.int Go.IntKind.i64 (Int.ofNat 2))), (Go.V.VV.lit (Go.Value.int Go.IntKind.i64 (Int.ofNat 0)))])
def kRead : VV := (Go.V.VV.tup [(Go.V.VV.agg [(Go.V.VV.sl [(Go.V.VV.lit (Go.Value.int Go.IntKind.i64 (Int.ofNat 1))), (Go.V.VV.lit (Go.Value.int Go.IntKind.i64 (Int.ofNat 2)))] 1 Bool.false), (Go.V.VV.sl [(Go.V.VV.lit (Go.Value.int Go.IntKind.i64 (Int.ofNat 0)))] 1 Bool.false), (Go.V.VV.sl [(Go.V.VV.lit (Go.Value.int Go.IntKind.i64 (Int.ofNat 1))), (Go.V.VV.lit (Go.Value.int Go.IntKind.i64 (Int.ofNat 3)))] 1 Bool.false)]), (Go.V.VV.lit (Go.Value.int Go.IntKind.i64 (Int.ofNat 0)))])
end Go.V
end
section
namespace Go.V
open Go Go.Proofs
theorem pA : VPure Tryz.prog G0 52 [] (.tree kA) := VPure.closedB hmix 1000 (by kernel_rfl)
theorem pB : VPure Tryz.prog G0 55 [] (.tree kB) := VPure.closedB hmix 1000 (by kernel_rfl)
theorem pE : VPure Tryz.prog G0 54 [] (.tree kE) := VPure.closedB hmix 1000 (by kernel_rfl)
theorem pHolds : VPure Tryz.prog G0 51 [kA, .sl [.lit (.int .i64 (0)), .lit (.int .i64 (3)), .lit (.int .i64 (6))] 3 false, .sl [.lit (.int .i64 (6)), .lit (.int .i64 (5)), .lit (.int .i64 (10)), .lit (.int .i64 (2)), .lit (.int .i64 (6)), .lit (.int .i64 (5)), .lit (.int .i64 (8)), .lit (.int .i64 (4))] 8 false] (.tree kHolds) := VPure.closedB hmix 1000 (by kernel_rfl)
theorem pWord : VPure Tryz.prog G0 53 [kA, .sl [.lit (.int .i64 (3)), .lit (.int .i64 (5)), .lit (.int .i64 (6))] 3 false] (.tree kWord) := VPure.closedB hmix 1000 (by kernel_rfl)
theorem pFails : VPure Tryz.prog G0 47 [kA, .sl [.lit (.int .i64 (0)), .lit (.int .i64 (3)), .lit (.int .i64 (6))] 3 false] (.tree kFails) := VPure.closedB hmix 1000 (by kernel_rfl)
end Go.V
end
section
namespace Go.V
open Go Go.Proofs
theorem pProof : VPure Tryz.prog G0 48 [kA, .sl [.lit (.int .i64 (0)), .lit (.int .i64 (3)), .lit (.int .i64 (6))] 3 false] (.tree kProof) := VPure.closedB hmix 1000 (by kernel_rfl)
end Go.V
end
section
namespace Go.V
open Go Go.Proofs
theorem pFirst : VPure Tryz.prog G0 17 [kA] (.tree kFirst) := VPure.closedB hmix 1000 (by kernel_rfl)
end Go.V
end
section
namespace Go.V
open Go Go.Proofs
theorem pCount : VPure Tryz.prog G0 18 [kE] (.tree kCount) := VPure.closedB hmix 1000 (by kernel_rfl)
end Go.V
end
section
namespace Go.V
open Go Go.Proofs
theorem pDays : VPure Tryz.prog G0 26 [kE, .lit (.int .i64 (1))] (.tree kDays) := VPure.closedB hmix 1000 (by kernel_rfl)
end Go.V
end
section
namespace Go.V
open Go Go.Proofs
theorem pLate : VPure Tryz.prog G0 27 [kE] (.tree kLate) := VPure.closedB hmix 1000 (by kernel_rfl)
end Go.V
end
section
namespace Go.V
open Go Go.Proofs
theorem pQuick : VPure Tryz.prog G0 28 [kE] (.tree kQuick) := VPure.closedB hmix 1000 (by kernel_rfl)
end Go.V
end
section
namespace Go.V
open Go Go.Proofs
theorem pStuck : VPure Tryz.prog G0 34 [kB] (.tree kStuck) := VPure.closedB hmix 1000 (by kernel_rfl)
end Go.V
end
section
namespace Go.V
open Go Go.Proofs
theorem pSlack : VPure Tryz.prog G0 38 [kB] (.tree kSlack) := VPure.closedB hmix 1000 (by kernel_rfl)
end Go.V
end
section
namespace Go.V
open Go Go.Proofs
theorem pMend : VPure Tryz.prog G0 41 [kE, .sl [.lit (.int .i64 (0)), .lit (.int .i64 (3)), .lit (.int .i64 (6))] 3 false, .lit (.int .i64 (1))] (.tree kMend) := VPure.closedB hmix 1000 (by kernel_rfl)
end Go.V
end
section
namespace Go.V
open Go Go.Proofs
theorem pRead : VPure Tryz.prog G0 56 [.lit (.string ⟨⟨[100, 97, 121, 32, 49, 32, 50, 32, 121, 101, 115, 10, 99, 111, 97, 116, 32, 49, 32, 51, 10, 101, 110, 100, 32, 49, 48, 52, 10]⟩⟩)] (.tree kRead) := VPure.closedB hmix 1000 (by kernel_rfl)
end Go.V
end
section
namespace Go.V
open Go Go.Proofs
def kTab : KTab := [
  (52, [], kA),
  (55, [], kB),
  (54, [], kE),
  (51, [kA, .sl [.lit (.int .i64 (0)), .lit (.int .i64 (3)), .lit (.int .i64 (6))] 3 false, .sl [.lit (.int .i64 (6)), .lit (.int .i64 (5)), .lit (.int .i64 (10)), .lit (.int .i64 (2)), .lit (.int .i64 (6)), .lit (.int .i64 (5)), .lit (.int .i64 (8)), .lit (.int .i64 (4))] 8 false], kHolds),
  (53, [kA, .sl [.lit (.int .i64 (3)), .lit (.int .i64 (5)), .lit (.int .i64 (6))] 3 false], kWord),
  (47, [kA, .sl [.lit (.int .i64 (0)), .lit (.int .i64 (3)), .lit (.int .i64 (6))] 3 false], kFails),
  (48, [kA, .sl [.lit (.int .i64 (0)), .lit (.int .i64 (3)), .lit (.int .i64 (6))] 3 false], kProof),
  (17, [kA], kFirst),
  (18, [kE], kCount),
  (26, [kE, .lit (.int .i64 (1))], kDays),
  (27, [kE], kLate),
  (28, [kE], kQuick),
  (34, [kB], kStuck),
  (38, [kB], kSlack),
  (41, [kE, .sl [.lit (.int .i64 (0)), .lit (.int .i64 (3)), .lit (.int .i64 (6))] 3 false, .lit (.int .i64 (1))], kMend),
  (56, [.lit (.string ⟨⟨[100, 97, 121, 32, 49, 32, 50, 32, 121, 101, 115, 10, 99, 111, 97, 116, 32, 49, 32, 51, 10, 101, 110, 100, 32, 49, 48, 52, 10]⟩⟩)], kRead)]
theorem kTabOk : KTabOk Tryz.prog G0 kTab := ⟨⟨by kernel_rfl, pA⟩, ⟨⟨by kernel_rfl, pB⟩, ⟨⟨by kernel_rfl, pE⟩, ⟨⟨by kernel_rfl, pHolds⟩, ⟨⟨by kernel_rfl, pWord⟩, ⟨⟨by kernel_rfl, pFails⟩, ⟨⟨by kernel_rfl, pProof⟩, ⟨⟨by kernel_rfl, pFirst⟩, ⟨⟨by kernel_rfl, pCount⟩, ⟨⟨by kernel_rfl, pDays⟩, ⟨⟨by kernel_rfl, pLate⟩, ⟨⟨by kernel_rfl, pQuick⟩, ⟨⟨by kernel_rfl, pStuck⟩, ⟨⟨by kernel_rfl, pSlack⟩, ⟨⟨by kernel_rfl, pMend⟩, ⟨⟨by kernel_rfl, pRead⟩, trivial⟩⟩⟩⟩⟩⟩⟩⟩⟩⟩⟩⟩⟩⟩⟩⟩
theorem pKnown : VPure Tryz.prog G0 16 [] (.tree (.lit (.bool true))) := VPure.closedT hmix kTabOk 1000 (by kernel_rfl)
#print axioms pKnown
end Go.V
end
section
namespace Go.V
open Go Go.Proofs
theorem g_law03_known_ok : VPure Tryz.prog G0 16 [] (.tree (.lit (.bool true))) := pKnown
end Go.V
end
section
namespace Go.V
open Go Go.Proofs
def g_law03_CoatWider (x0_s : GCoatSheet) (x1_a1 : Int) : Option (Bool) := Option.bind (g_law03_short x0_s) (fun r1 => cond (r1) (Option.bind (g_ref03_Sheet x0_s) (fun r2 => cond (r2) (cond (decide (x1_a1 < 0)) (some true) (cond (decide (x1_a1 > 400)) (some true) (Option.bind (g_ref03_Wider x0_s x1_a1) (fun r3 => Option.bind (g_ref03_Sheet r3) (fun r4 => cond (r4) (Option.bind (g_coat_Slack x0_s) (fun r5 => Option.bind (g_law03_can x0_s) (fun r6 => Option.bind (g_law03_can r3) (fun r7 => cond (r6.2) (cond (r7.2) (cond (r5.2 != 0) (cond (r5.2 != 5) (some false) (cond (decide (r5.1 < 0)) (some false) (cond (r5.2 == 0) (cond (r6.1 != (r5.1 == 0)) (some false) (cond (r7.1 == (decide (x1_a1 ≥ r5.1))) (some true) (some false))) (cond (r6.1 != false) (some false) (cond (r7.1 == false) (some true) (some false)))))) (cond (decide (r5.1 < 0)) (some false) (cond (r5.2 == 0) (cond (r6.1 != (r5.1 == 0)) (some false) (cond (r7.1 == (decide (x1_a1 ≥ r5.1))) (some true) (some false))) (cond (r6.1 != false) (some false) (cond (r7.1 == false) (some true) (some false)))))) (some false)) (some false))))) (some true)))))) (some true))) (some true))
theorem g_law03_CoatWider_ok (x0_s : GCoatSheet) (x1_a1 : Int) (R : Bool) (h : g_law03_CoatWider x0_s x1_a1 = some R) : VPure Tryz.prog G0 10 [.agg (cGCoatSheet x0_s), .lit (.int .i64 x1_a1)] (.tree (.lit (.bool R))) := by
 refine VPure.runR mixed Tryz.call10 Tryz.func10 rfl (by simp [Tryz.ntmps10]; kernel_rfl) ?_
 obtain ⟨KF, h, kF, kN⟩ := fun_intro h
 simp only [g_law03_CoatWider] at h
 rcases o9 : (g_law03_short x0_s) with _ | r8
 ·simp only [o9, hs] at h
  exact absurd h kN
 simp only [o9, hs] at h
 simp only [vz, tyf, nm, seval]
 refine ktree (args0 := [.agg (cGCoatSheet x0_s)]) (by first | (simp only [nrm, tynrm] <;> rfl) | rfl) (by simp only [tre, tytre, Bool.and_self]) (g_law03_short_ok _ _ o9) ?_
 refine fin_cut (fun tm => tm 1 = .lit (.int .i64 x1_a1) ∧ tm 2 = .ptr 0 0 ∧ tm 12 = .lit (.bool r8) ∧ True) (by refine ⟨?_, ?_, ?_, trivial⟩ <;> first | (simp only [ua, nm, seval] <;> rfl) | rfl) ?_
 rintro tm ⟨e10, e11, e12, _⟩
 cases d13 : (r8)
 ·simp only [d13, hs] at h
  simp only [vz, tyf, e10, e11, e12, d13, nm, seval]
  refine ktree0 g_law03_known_ok ?_
  try simp only [vz, tyf, e10, e11, e12, d13, nm, seval]
  obtain rfl := kF _ h
  exact opd_bool Tryz.results10 rfl
 simp only [d13, hs] at h
 rcases o15 : (g_ref03_Sheet x0_s) with _ | r14
 ·simp only [o15, hs] at h
  exact absurd h kN
 simp only [o15, hs] at h
 simp only [vz, tyf, e10, e11, e12, d13, nm, seval]
 refine ktree (args0 := [.agg (cGCoatSheet x0_s)]) (by first | (simp only [nrm, tynrm] <;> rfl) | rfl) (by simp only [tre, tytre, Bool.and_self]) (g_ref03_Sheet_ok _ _ o15) ?_
 refine fin_cut (fun tm => tm 1 = .lit (.int .i64 x1_a1) ∧ tm 2 = .ptr 0 0 ∧ tm 14 = .lit (.bool false) ∧ tm 16 = .lit (.bool r14) ∧ True) (by refine ⟨e10, e11, ?_, ?_, trivial⟩ <;> first | (simp only [ua, e10, e11, e12, d13, nm, seval] <;> rfl) | rfl) ?_
 rintro tm ⟨e16, e17, e18, e19, _⟩
 cases d20 : (r14)
 ·simp only [d20, hs] at h
  simp only [vz, tyf, d13, e16, e17, e18, e19, d20, nm, seval]
  refine ktree0 g_law03_known_ok ?_
  try simp only [vz, tyf, d13, e16, e17, e18, e19, d20, nm, seval]
  obtain rfl := kF _ h
  exact opd_bool Tryz.results10 rfl
 simp only [d20, hs] at h
 cases d21 : (decide (x1_a1 < 0))
 ·simp only [d21, hs] at h
  cases d22 : (decide (x1_a1 > 400))
  ·simp only [d22, hs] at h
   rcases o24 : (g_ref03_Wider x0_s x1_a1) with _ | r23
   ·simp only [o24, hs] at h
    exact absurd h kN
   simp only [o24, hs] at h
   simp only [vz, tyf, d13, e16, e17, e18, e19, d20, d21, d22, nm, seval]
   refine ktree (args0 := [.agg (cGCoatSheet x0_s), .lit (.int .i64 x1_a1)]) (by first | (simp only [nrm, tynrm] <;> rfl) | rfl) (by simp only [tre, tytre, Bool.and_self]) (g_ref03_Wider_ok _ _ _ o24) ?_
   refine fin_cut (fun tm => tm 1 = .lit (.int .i64 x1_a1) ∧ tm 2 = .ptr 0 0 ∧ tm 27 = .lit (.bool false) ∧ tm 30 = .agg (cGCoatSheet r23) ∧ True) (by refine ⟨e16, e17, ?_, ?_, trivial⟩ <;> first | (simp only [ua, d13, e16, e17, e18, e19, d20, d21, d22, nm, seval] <;> rfl) | rfl) ?_
   rintro tm ⟨e25, e26, e27, e28, _⟩
   rcases o30 : (g_ref03_Sheet r23) with _ | r29
   ·simp only [o30, hs] at h
    exact absurd h kN
   simp only [o30, hs] at h
   simp only [vz, tyf, d13, d20, d21, d22, e25, e26, e27, e28, nm, seval]
   refine ktree (args0 := [.agg (cGCoatSheet r23)]) (by first | (simp only [nrm, tynrm] <;> rfl) | rfl) (by simp only [tre, tytre, Bool.and_self]) (g_ref03_Sheet_ok _ _ o30) ?_
   refine fin_cut (fun tm => tm 1 = .lit (.int .i64 x1_a1) ∧ tm 2 = .ptr 0 0 ∧ tm 27 = .lit (.bool false) ∧ tm 31 = .lit (.bool r29) ∧ True) (by refine ⟨e25, e26, e27, ?_, trivial⟩ <;> first | (simp only [ua, d13, d20, d21, d22, e25, e26, e27, e28, nm, seval] <;> rfl) | rfl) ?_
   rintro tm ⟨e31, e32, e33, e34, _⟩
   cases d35 : (r29)
   ·simp only [d35, hs] at h
    simp only [vz, tyf, d13, d20, d21, d22, e31, e32, e33, e34, d35, nm, seval]
    refine ktree0 g_law03_known_ok ?_
    try simp only [vz, tyf, d13, d20, d21, d22, e31, e32, e33, e34, d35, nm, seval]
    obtain rfl := kF _ h
    exact opd_bool Tryz.results10 rfl
   simp only [d35, hs] at h
   rcases o37 : (g_coat_Slack x0_s) with _ | r36
   ·simp only [o37, hs] at h
    exact absurd h kN
   simp only [o37, hs] at h
   simp only [vz, tyf, d13, d20, d21, d22, e31, e32, e33, e34, d35, nm, seval]
   refine ktree (args0 := [.agg (cGCoatSheet x0_s)]) (by first | (simp only [nrm, tynrm] <;> rfl) | rfl) (by simp only [tre, tytre, Bool.and_self]) (g_coat_Slack_ok _ _ o37) ?_
   refine fin_cut (fun tm => tm 1 = .lit (.int .i64 x1_a1) ∧ tm 2 = .ptr 0 0 ∧ tm 37 = .tup [.lit (.int .i64 r36.1), .lit (.int .i64 r36.2)] ∧ True) (by refine ⟨e31, e32, ?_, trivial⟩ <;> first | (simp only [ua, d13, d20, d21, d22, e31, e32, e33, e34, d35, nm, seval] <;> rfl) | rfl) ?_
   rintro tm ⟨e38, e39, e40, _⟩
   rcases o42 : (g_law03_can x0_s) with _ | r41
   ·simp only [o42, hs] at h
    exact absurd h kN
   simp only [o42, hs] at h
   simp only [vz, tyf, d13, d20, d21, d22, d35, e38, e39, e40, nm, seval]
   refine ktree (args0 := [.agg (cGCoatSheet x0_s)]) (by first | (simp only [nrm, tynrm] <;> rfl) | rfl) (by simp only [tre, tytre, Bool.and_self]) (g_law03_can_ok _ _ o42) ?_
   refine fin_cut (fun tm => tm 1 = .lit (.int .i64 x1_a1) ∧ tm 2 = .ptr 0 0 ∧ tm 5 = .lit (.int .i64 r36.1) ∧ tm 6 = .lit (.int .i64 r36.2) ∧ tm 42 = .tup [.lit (.bool r41.1), .lit (.bool r41.2)] ∧ True) (by refine ⟨e38, e39, ?_, ?_, ?_, trivial⟩ <;> first | (simp only [ua, d13, d20, d21, d22, d35, e38, e39, e40, nm, seval] <;> rfl) | rfl) ?_
   rintro tm ⟨e43, e44, e45, e46, e47, _⟩
   simp only [vz, tyf, d13, d20, d21, d22, d35, e43, e44, e45, e46, e47, nm, seval]
   refine ktree (args0 := [.agg (cGCoatSheet x0_s), .lit (.int .i64 x1_a1)]) (by first | (simp only [nrm, tynrm] <;> rfl) | rfl) (by simp only [tre, tytre, Bool.and_self]) (g_ref03_Wider_ok _ _ _ o24) ?_
   refine fin_cut (fun tm => tm 1 = .lit (.int .i64 x1_a1) ∧ tm 5 = .lit (.int .i64 r36.1) ∧ tm 6 = .lit (.int .i64 r36.2) ∧ tm 7 = .lit (.bool r41.1) ∧ tm 8 = .lit (.bool r41.2) ∧ tm 48 = .agg (cGCoatSheet r23) ∧ True) (by refine ⟨e43, e45, e46, ?_, ?_, ?_, trivial⟩ <;> first | (simp only [ua, d13, d20, d21, d22, d35, e43, e44, e45, e46, e47, nm, seval] <;> rfl) | rfl) ?_
   rintro tm ⟨e48, e49, e50, e51, e52, e53, _⟩
   rcases o55 : (g_law03_can r23) with _ | r54
   ·simp only [o55, hs] at h
    exact absurd h kN
   simp only [o55, hs] at h
   simp only [vz, tyf, d13, d20, d21, d22, d35, e48, e49, e50, e51, e52, e53, nm, seval]
   refine ktree (args0 := [.agg (cGCoatSheet r23)]) (by first | (simp only [nrm, tynrm] <;> rfl) | rfl) (by simp only [tre, tytre, Bool.and_self]) (g_law03_can_ok _ _ o55) ?_
   refine fin_cut (fun tm => tm 1 = .lit (.int .i64 x1_a1) ∧ tm 5 = .lit (.int .i64 r36.1) ∧ tm 6 = .lit (.int .i64 r36.2) ∧ tm 7 = .lit (.bool r41.1) ∧ tm 8 = .lit (.bool r41.2) ∧ tm 49 = .tup [.lit (.bool r54.1), .lit (.bool r54.2)] ∧ True) (by refine ⟨e48, e49, e50, e51, e52, ?_, trivial⟩ <;> first | (simp only [ua, d13, d20, d21, d22, d35, e48, e49, e50, e51, e52, e53, nm, seval] <;> rfl) | rfl) ?_
   rintro tm ⟨e56, e57, e58, e59, e60, e61, _⟩
   cases d62 : (r41.2)
   ·simp only [d62, hs] at h
    try simp only [vz, tyf, d13, d20, d21, d22, d35, e56, e57, e58, e59, e60, e61, d62, nm, seval]
    obtain rfl := kF _ h
    exact opd_bool Tryz.results10 rfl
   simp only [d62, hs] at h
   cases d63 : (r54.2)
   ·simp only [d63, hs] at h
    have b64 := And.intro d13 (And.intro d20 (And.intro d21 (And.intro d22 (And.intro d35 (And.intro d62 d63)))))
    try simp only [vz, tyf, b64, e56, e57, e58, e59, e60, e61, nm, seval]
    obtain rfl := kF _ h
    exact opd_bool Tryz.results10 rfl
   simp only [d63, hs] at h
   have b65 := And.intro d13 (And.intro d20 (And.intro d21 (And.intro d22 (And.intro d35 (And.intro d62 d63)))))
   cases d66 : (r36.2 != 0)
   ·simp only [d66, hs] at h
    cases d67 : (decide (r36.1 < 0))
    ·simp only [d67, hs] at h
     cases d68 : (r36.2 == 0)
     ·simp only [d68, hs] at h
      cases d69 : (r41.1 != false)
      ·simp only [d69, hs] at h
       cases d70 : (r54.1 == false)
       ·simp only [d70, hs] at h
        try simp only [vz, tyf, b65, e56, e57, e58, e59, e60, e61, d66, d67, d68, d69, d70, nm, seval]
        obtain rfl := kF _ h
        exact opd_bool Tryz.results10 rfl
       simp only [d70, hs] at h
       simp only [vz, tyf, b65, e56, e57, e58, e59, e60, e61, d66, d67, d68, d69, d70, nm, seval]
       refine ktree0 g_law03_known_ok ?_
       try simp only [vz, tyf, b65, e56, e57, e58, e59, e60, e61, d66, d67, d68, d69, d70, nm, seval]
       obtain rfl := kF _ h
       exact opd_bool Tryz.results10 rfl
      simp only [d69, hs] at h
      try simp only [vz, tyf, b65, e56, e57, e58, e59, e60, e61, d66, d67, d68, d69, nm, seval]
      obtain rfl := kF _ h
      exact opd_bool Tryz.results10 rfl
     simp only [d68, hs] at h
     cases d71 : (r41.1 != (r36.1 == 0))
     ·simp only [d71, hs] at h
      cases d72 : (r54.1 == (decide (x1_a1 ≥ r36.1)))
      ·simp only [d72, hs] at h
       try simp only [vz, tyf, b65, e56, e57, e58, e59, e60, e61, d66, d67, d68, d71, d72, nm, seval]
       obtain rfl := kF _ h
       exact opd_bool Tryz.results10 rfl
      simp only [d72, hs] at h
      simp only [vz, tyf, b65, e56, e57, e58, e59, e60, e61, d66, d67, d68, d71, d72, nm, seval]
      refine ktree0 g_law03_known_ok ?_
      try simp only [vz, tyf, b65, e56, e57, e58, e59, e60, e61, d66, d67, d68, d71, d72, nm, seval]
      obtain rfl := kF _ h
      exact opd_bool Tryz.results10 rfl
     simp only [d71, hs] at h
     try simp only [vz, tyf, b65, e56, e57, e58, e59, e60, e61, d66, d67, d68, d71, nm, seval]
     obtain rfl := kF _ h
     exact opd_bool Tryz.results10 rfl
    simp only [d67, hs] at h
    try simp only [vz, tyf, b65, e56, e57, e58, e59, e60, e61, d66, d67, nm, seval]
    obtain rfl := kF _ h
    exact opd_bool Tryz.results10 rfl
   simp only [d66, hs] at h
   cases d73 : (r36.2 != 5)
   ·simp only [d73, hs] at h
    cases d74 : (decide (r36.1 < 0))
    ·simp only [d74, hs] at h
     cases d75 : (r36.2 == 0)
     ·simp only [d75, hs] at h
      cases d76 : (r41.1 != false)
      ·simp only [d76, hs] at h
       cases d77 : (r54.1 == false)
       ·simp only [d77, hs] at h
        have b78 := And.intro b65 (And.intro d66 (And.intro d73 (And.intro d74 (And.intro d75 (And.intro d76 d77)))))
        try simp only [vz, tyf, b78, e56, e57, e58, e59, e60, e61, nm, seval]
        obtain rfl := kF _ h
        exact opd_bool Tryz.results10 rfl
       simp only [d77, hs] at h
       have b79 := And.intro b65 (And.intro d66 (And.intro d73 (And.intro d74 (And.intro d75 (And.intro d76 d77)))))
       simp only [vz, tyf, b79, e56, e57, e58, e59, e60, e61, nm, seval]
       refine ktree0 g_law03_known_ok ?_
       try simp only [vz, tyf, b79, e56, e57, e58, e59, e60, e61, nm, seval]
       obtain rfl := kF _ h
       exact opd_bool Tryz.results10 rfl
      simp only [d76, hs] at h
      try simp only [vz, tyf, b65, e56, e57, e58, e59, e60, e61, d66, d73, d74, d75, d76, nm, seval]
      obtain rfl := kF _ h
      exact opd_bool Tryz.results10 rfl
     simp only [d75, hs] at h
     cases d80 : (r41.1 != (r36.1 == 0))
     ·simp only [d80, hs] at h
      cases d81 : (r54.1 == (decide (x1_a1 ≥ r36.1)))
      ·simp only [d81, hs] at h
       have b82 := And.intro b65 (And.intro d66 (And.intro d73 (And.intro d74 (And.intro d75 (And.intro d80 d81)))))
       try simp only [vz, tyf, b82, e56, e57, e58, e59, e60, e61, nm, seval]
       obtain rfl := kF _ h
       exact opd_bool Tryz.results10 rfl
      simp only [d81, hs] at h
      have b83 := And.intro b65 (And.intro d66 (And.intro d73 (And.intro d74 (And.intro d75 (And.intro d80 d81)))))
      simp only [vz, tyf, b83, e56, e57, e58, e59, e60, e61, nm, seval]
      refine ktree0 g_law03_known_ok ?_
      try simp only [vz, tyf, b83, e56, e57, e58, e59, e60, e61, nm, seval]
      obtain rfl := kF _ h
      exact opd_bool Tryz.results10 rfl
     simp only [d80, hs] at h
     try simp only [vz, tyf, b65, e56, e57, e58, e59, e60, e61, d66, d73, d74, d75, d80, nm, seval]
     obtain rfl := kF _ h
     exact opd_bool Tryz.results10 rfl
    simp only [d74, hs] at h
    try simp only [vz, tyf, b65, e56, e57, e58, e59, e60, e61, d66, d73, d74, nm, seval]
    obtain rfl := kF _ h
    exact opd_bool Tryz.results10 rfl
   simp only [d73, hs] at h
   try simp only [vz, tyf, b65, e56, e57, e58, e59, e60, e61, d66, d73, nm, seval]
   obtain rfl := kF _ h
   exact opd_bool Tryz.results10 rfl
  simp only [d22, hs] at h
  simp only [vz, tyf, d13, e16, e17, e18, e19, d20, d21, d22, nm, seval]
  refine ktree0 g_law03_known_ok ?_
  try simp only [vz, tyf, d13, e16, e17, e18, e19, d20, d21, d22, nm, seval]
  obtain rfl := kF _ h
  exact opd_bool Tryz.results10 rfl
 simp only [d21, hs] at h
 simp only [vz, tyf, d13, e16, e17, e18, e19, d20, d21, nm, seval]
 refine ktree0 g_law03_known_ok ?_
 try simp only [vz, tyf, d13, e16, e17, e18, e19, d20, d21, nm, seval]
 obtain rfl := kF _ h
 exact opd_bool Tryz.results10 rfl
end Go.V
end
section
namespace Go.V
open Go
theorem wid_okS {s : GCoatSheet} (hs : OkS s) (b : Int) : OkS (widS s b) := ⟨hs.d, hs.w, by
 have := lenOk_lt hs.c
 refine lenOk_of ?_
 show (s.Coats.map (widK b)).length < _
 rw [List.length_map]
 omega⟩
theorem CoatWider_true (s : GCoatSheet) (o : Int) (h : lenOk s.Dry = true ∧ lenOk s.Work = true ∧ lenOk s.Coats = true) : g_law03_CoatWider s o = some true := by
 have hs : OkS s := ⟨h.1, h.2.1, h.2.2⟩
 unfold g_law03_CoatWider
 obtain ⟨b, hb⟩ := short_eq' s
 rw [hb, rSheet_eq hs]
 simp only [Option.bind_some]
 cases b with
 | false => rfl
 | true =>
 cases h1 : sheetB s with
 | false => rfl
 | true =>
 simp only [cond_true]
 cases h2 : decide (o < 0) with
 | true => rfl
 | false =>
 cases h3 : decide (o > 400) with
 | true => rfl
 | false =>
 have h2' := of_decide_eq_false h2
 have h3' := of_decide_eq_false h3
 have hS := ShOk.of h1
 have hk : ∀ k ∈ s.Coats, 0 ≤ k.Peel ∧ k.Peel ≤ 400 := by
  intro k hk
  unfold sheetB at h1
  simp only [Bool.and_eq_true, List.all_eq_true] at h1
  have := h1.2.2.2 k hk
  unfold coatB at this
  simp only [Bool.and_eq_true, inB_iff] at this
  omega
 have h0 : 0 ≤ o := by omega
 rw [wider_eq hS hk ⟨h0, by omega⟩]
 simp only [Option.bind_some, cond_false]
 rw [rSheet_eq (wid_okS hs o)]
 simp only [Option.bind_some]
 cases h4 : sheetB (widS s o) with
 | false => rfl
 | true =>
 simp only [cond_true]
 obtain ⟨b1, e1, n1⟩ := can_eq hs h1
 obtain ⟨b2, e2, n2⟩ := can_eq (wid_okS hs o) h4
 rw [e1, e2]
 have n0 := NEP_wid hS (b := 0) (Int.le_refl _)
 rw [wid_zero] at n0
 have n3 := NEP_wid hS h0
 rcases slack_eq hs h1 hk with ⟨e3, hq⟩ | ⟨q, e3, hq, hx⟩
 ·rw [e3]
  simp only [Option.bind_some]
  have hb1 : b1 = false := by
   cases b1 with
   | false => rfl
   | true =>
    obtain ⟨x, hx, _⟩ := n0.1 (n1.1 rfl)
    exact absurd hx (hq x)
  have hb2 : b2 = false := by
   cases b2 with
   | false => rfl
   | true =>
    obtain ⟨x, hx, _⟩ := n3.1 (n2.1 rfl)
    exact absurd hx (hq x)
  rw [hb1, hb2]
  rfl
 ·rw [e3]
  simp only [Option.bind_some]
  have hpos := exL_nonneg (hi := hiS s) q s.Coats
  generalize hE : exL (hiS s) q s.Coats = E at hpos hx
  have hb1 : b1 = (E == 0) := by
   rw [Bool.eq_iff_iff, n1, n0, beq_iff_eq]
   constructor
   ·rintro ⟨x, hx1, hx2⟩
    have := hx x hx1
    omega
   ·intro hE0
    exact ⟨q, hq, by omega⟩
  have hb2 : b2 = decide (o ≥ E) := by
   rw [Bool.eq_iff_iff, n2, n3, decide_eq_true_eq]
   constructor
   ·rintro ⟨x, hx1, hx2⟩
    have := hx x hx1
    omega
   ·intro hE0
    exact ⟨q, hq, by omega⟩
  rw [hb1, hb2, show decide (E < 0) = false from decide_eq_false (by omega)]
  cases (E == 0) <;> cases decide (o ≥ E) <;> rfl
end Go.V
end
