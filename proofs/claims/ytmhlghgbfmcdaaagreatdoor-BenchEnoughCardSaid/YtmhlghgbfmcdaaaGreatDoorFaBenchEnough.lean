/- Facts on the program that the card of 'BenchEnough' asks. -/
import Derived.Test.YtmhlghgbfmcdaaaGreatDoorN1az
import Derived.Test.YtmhlghgbfmcdaaaGreatDoorCards
import Derived.Test.YtmhlghgbfmcdaaaGreatDoorTie
import Derived.ProofKit
import Derived.OpenShut
import Derived.Deep.DeepHandedRow
namespace Go.Proofs.YtmhlghgbfmcdaaaGreatDoor.FrBenchEnough
open Go Go.V Go.RowKit Go.ChangeShapes Go.ChangeAt Go.WideShapes
set_option maxRecDepth 100000
set_option linter.unusedVariables false
theorem Ke : (fun (P : Program) (f : FuncId) (fn : Func) (s : ChangeSpec) (c : OpenClaim) => (c.wf (OpenSpec.ofChange s))) Tryz.checked.prog 15 Tryz.f15 (OpenSpec.ofChange Rows.benchEnoughSpec).bare Rows.benchEnoughRow = true := by kernel_rfl
theorem Kf : (fun (P : Program) (f : FuncId) (fn : Func) (s : ChangeSpec) (c : OpenClaim) => (laidOutB P)) Tryz.checked.prog 15 Tryz.f15 (OpenSpec.ofChange Rows.benchEnoughSpec).bare Rows.benchEnoughRow = true := by kernel_rfl
theorem Kg : (fun (P : Program) (f : FuncId) (fn : Func) (s : ChangeSpec) (c : OpenClaim) => (mapsRowed P)) Tryz.checked.prog 15 Tryz.f15 (OpenSpec.ofChange Rows.benchEnoughSpec).bare Rows.benchEnoughRow = true := by kernel_rfl
theorem Kh : (fun (P : Program) (f : FuncId) (fn : Func) (s : ChangeSpec) (c : OpenClaim) => (fn.params.all (P.readableRec ·))) Tryz.checked.prog 15 Tryz.f15 (OpenSpec.ofChange Rows.benchEnoughSpec).bare Rows.benchEnoughRow = true := by kernel_rfl
theorem Ki : (fun (P : Program) (f : FuncId) (fn : Func) (s : ChangeSpec) (c : OpenClaim) => (namedTie P c.named s.vars)) Tryz.checked.prog 15 Tryz.f15 (OpenSpec.ofChange Rows.benchEnoughSpec).bare Rows.benchEnoughRow = true := by kernel_rfl
theorem Kj : (fun (P : Program) (f : FuncId) (fn : Func) (s : ChangeSpec) (c : OpenClaim) => ((c.stops == []))) Tryz.checked.prog 15 Tryz.f15 (OpenSpec.ofChange Rows.benchEnoughSpec).bare Rows.benchEnoughRow = true := by kernel_rfl
theorem Kk : (fun (P : Program) (f : FuncId) (fn : Func) (s : ChangeSpec) (c : OpenClaim) => ((P.stops == []))) Tryz.checked.prog 15 Tryz.f15 (OpenSpec.ofChange Rows.benchEnoughSpec).bare Rows.benchEnoughRow = true := by kernel_rfl
theorem Kl : (fun (P : Program) (f : FuncId) (fn : Func) (s : ChangeSpec) (c : OpenClaim) => ((c.knobs == []))) Tryz.checked.prog 15 Tryz.f15 (OpenSpec.ofChange Rows.benchEnoughSpec).bare Rows.benchEnoughRow = true := by kernel_rfl
theorem Km : (fun (P : Program) (f : FuncId) (fn : Func) (s : ChangeSpec) (c : OpenClaim) => ((P.stopKnobs == []))) Tryz.checked.prog 15 Tryz.f15 (OpenSpec.ofChange Rows.benchEnoughSpec).bare Rows.benchEnoughRow = true := by kernel_rfl
theorem y9 : (fun (P : Program) (f : FuncId) (fn : Func) (s : ChangeSpec) (c : OpenClaim) => ((c.inPlace == P.inPlace f))) Tryz.checked.prog 15 Tryz.f15 (OpenSpec.ofChange Rows.benchEnoughSpec).bare Rows.benchEnoughRow = true := by kernel_rfl
theorem yA : (fun (P : Program) (f : FuncId) (fn : Func) (s : ChangeSpec) (c : OpenClaim) => ((c.unfollowed == P.unfollowed f))) Tryz.checked.prog 15 Tryz.f15 (OpenSpec.ofChange Rows.benchEnoughSpec).bare Rows.benchEnoughRow = true := by kernel_rfl
theorem yB : (fun (P : Program) (f : FuncId) (fn : Func) (s : ChangeSpec) (c : OpenClaim) => ((c.recurses == P.recurses f))) Tryz.checked.prog 15 Tryz.f15 (OpenSpec.ofChange Rows.benchEnoughSpec).bare Rows.benchEnoughRow = true := by kernel_rfl
theorem yC : (fun (P : Program) (f : FuncId) (fn : Func) (s : ChangeSpec) (c : OpenClaim) => ((c.named == P.varsNamed f))) Tryz.checked.prog 15 Tryz.f15 (OpenSpec.ofChange Rows.benchEnoughSpec).bare Rows.benchEnoughRow = true := by kernel_rfl
theorem yD : (fun (P : Program) (f : FuncId) (fn : Func) (s : ChangeSpec) (c : OpenClaim) => ((c.maps == (fn.params.toList ++ s.plain.varTypes P).any (P.mapsRec ·)))) Tryz.checked.prog 15 Tryz.f15 (OpenSpec.ofChange Rows.benchEnoughSpec).bare Rows.benchEnoughRow = true := by kernel_rfl
theorem yE : (fun (P : Program) (f : FuncId) (fn : Func) (s : ChangeSpec) (c : OpenClaim) => ((c.ifaces == (fn.params.toList ++ s.plain.varTypes P).any (P.ifacesRec ·)))) Tryz.checked.prog 15 Tryz.f15 (OpenSpec.ofChange Rows.benchEnoughSpec).bare Rows.benchEnoughRow = true := by kernel_rfl
theorem yF : (fun (P : Program) (f : FuncId) (fn : Func) (s : ChangeSpec) (c : OpenClaim) => ((c.mapsOut == P.mapsAmong fn.resultTypes.toList))) Tryz.checked.prog 15 Tryz.f15 (OpenSpec.ofChange Rows.benchEnoughSpec).bare Rows.benchEnoughRow = true := by kernel_rfl
theorem yG : (fun (P : Program) (f : FuncId) (fn : Func) (s : ChangeSpec) (c : OpenClaim) => ((c.loops == (fn.params.toList ++ s.plain.varTypes P).any (P.loopsFrom ·)))) Tryz.checked.prog 15 Tryz.f15 (OpenSpec.ofChange Rows.benchEnoughSpec).bare Rows.benchEnoughRow = true := by kernel_rfl
theorem yH : (fun (P : Program) (f : FuncId) (fn : Func) (s : ChangeSpec) (c : OpenClaim) => ((c.wideKeys == (fn.params.toList ++ s.plain.varTypes P ++ fn.resultTypes.toList).any (P.wideKeysFrom ·)))) Tryz.checked.prog 15 Tryz.f15 (OpenSpec.ofChange Rows.benchEnoughSpec).bare Rows.benchEnoughRow = true := by kernel_rfl
theorem yI : (fun (P : Program) (f : FuncId) (fn : Func) (s : ChangeSpec) (c : OpenClaim) => (s.vars.all (P.varReadable ·))) Tryz.checked.prog 15 Tryz.f15 (OpenSpec.ofChange Rows.benchEnoughSpec).bare Rows.benchEnoughRow = true := by kernel_rfl
theorem yJ : (fun (P : Program) (f : FuncId) (fn : Func) (s : ChangeSpec) (c : OpenClaim) => (fn.resultTypes.all (fun t => P.readableRec t && decide (t < P.types.size)))) Tryz.checked.prog 15 Tryz.f15 (OpenSpec.ofChange Rows.benchEnoughSpec).bare Rows.benchEnoughRow = true := by kernel_rfl
theorem yK : (fun (P : Program) (f : FuncId) (fn : Func) (s : ChangeSpec) (c : OpenClaim) => ((c.ifacesOut == fn.resultTypes.toList.any (P.ifacesRec ·)))) Tryz.checked.prog 15 Tryz.f15 (OpenSpec.ofChange Rows.benchEnoughSpec).bare Rows.benchEnoughRow = true := by kernel_rfl
theorem yL : (fun (P : Program) (f : FuncId) (fn : Func) (s : ChangeSpec) (c : OpenClaim) => ((c.loopsOut == fn.resultTypes.toList.any (P.loopsFrom ·)))) Tryz.checked.prog 15 Tryz.f15 (OpenSpec.ofChange Rows.benchEnoughSpec).bare Rows.benchEnoughRow = true := by kernel_rfl
theorem yM : (fun (P : Program) (f : FuncId) (fn : Func) (s : ChangeSpec) (c : OpenClaim) => ((c.plainKeys == P.plainKeys))) Tryz.checked.prog 15 Tryz.f15 (OpenSpec.ofChange Rows.benchEnoughSpec).bare Rows.benchEnoughRow = true := by kernel_rfl
theorem yN : (fun (P : Program) (f : FuncId) (fn : Func) (s : ChangeSpec) (c : OpenClaim) => (c.shortTexts.isNone)) Tryz.checked.prog 15 Tryz.f15 (OpenSpec.ofChange Rows.benchEnoughSpec).bare Rows.benchEnoughRow = true := by kernel_rfl
theorem yO : (fun (P : Program) (f : FuncId) (fn : Func) (s : ChangeSpec) (c : OpenClaim) => (P.stopsHeard)) Tryz.checked.prog 15 Tryz.f15 (OpenSpec.ofChange Rows.benchEnoughSpec).bare Rows.benchEnoughRow = true := by kernel_rfl
theorem yP : (fun (P : Program) (f : FuncId) (fn : Func) (s : ChangeSpec) (c : OpenClaim) => (P.mayEnter)) Tryz.checked.prog 15 Tryz.f15 (OpenSpec.ofChange Rows.benchEnoughSpec).bare Rows.benchEnoughRow = true := by kernel_rfl
theorem yQ : (fun (P : Program) (f : FuncId) (fn : Func) (s : ChangeSpec) (c : OpenClaim) => ((c.lifted == P.liftsFinal))) Tryz.checked.prog 15 Tryz.f15 (OpenSpec.ofChange Rows.benchEnoughSpec).bare Rows.benchEnoughRow = true := by kernel_rfl
theorem yR : (fun (P : Program) (f : FuncId) (fn : Func) (s : ChangeSpec) (c : OpenClaim) => ((P.make == some c.make))) Tryz.checked.prog 15 Tryz.f15 (OpenSpec.ofChange Rows.benchEnoughSpec).bare Rows.benchEnoughRow = true := by kernel_rfl
theorem yS : (fun (P : Program) (f : FuncId) (fn : Func) (s : ChangeSpec) (c : OpenClaim) => ((c.kinds == (if c.domain.isEmpty then [] else fn.params.toList.map fun t => match P.underlying t with | some (.int k) => some k | _ => none)))) Tryz.checked.prog 15 Tryz.f15 (OpenSpec.ofChange Rows.benchEnoughSpec).bare Rows.benchEnoughRow = true := by kernel_rfl
theorem yT : (fun (P : Program) (f : FuncId) (fn : Func) (s : ChangeSpec) (c : OpenClaim) => ((c.pinned == c.pinnedBy))) Tryz.checked.prog 15 Tryz.f15 (OpenSpec.ofChange Rows.benchEnoughSpec).bare Rows.benchEnoughRow = true := by kernel_rfl
theorem yU : (fun (P : Program) (f : FuncId) (fn : Func) (s : ChangeSpec) (c : OpenClaim) => ((c.veiled == (fn.params.toList ++ s.plain.varTypes P ++ fn.resultTypes.toList).any (P.veiledRec ·)))) Tryz.checked.prog 15 Tryz.f15 (OpenSpec.ofChange Rows.benchEnoughSpec).bare Rows.benchEnoughRow = true := by kernel_rfl
theorem yV : (fun (P : Program) (f : FuncId) (fn : Func) (s : ChangeSpec) (c : OpenClaim) => (c.veiledFits P fn.params.toList (fn.params.toList ++ s.plain.varTypes P ++ fn.resultTypes.toList))) Tryz.checked.prog 15 Tryz.f15 (OpenSpec.ofChange Rows.benchEnoughSpec).bare Rows.benchEnoughRow = true := by kernel_rfl

end Go.Proofs.YtmhlghgbfmcdaaaGreatDoor.FrBenchEnough
