/- Facts on the program that the card of 'BenchSpared' asks. -/
import Derived.Test.YtmhlghgbfmcdaaaGreatDoorS1az
import Derived.Test.YtmhlghgbfmcdaaaGreatDoorCards
import Derived.Test.YtmhlghgbfmcdaaaGreatDoorTie
import Derived.ProofKit
import Derived.OpenShut
import Derived.Deep.DeepHandedRow
namespace Go.Proofs.YtmhlghgbfmcdaaaGreatDoor.FrBenchSpared
open Go Go.V Go.RowKit Go.ChangeShapes Go.ChangeAt Go.WideShapes
set_option maxRecDepth 100000
set_option linter.unusedVariables false
theorem Ia : (fun (P : Program) (f : FuncId) (fn : Func) (s : ChangeSpec) (c : OpenClaim) => (c.wf (OpenSpec.ofChange s))) Tryz.checked.prog 9 Tryz.f9 (OpenSpec.ofChange Rows.benchSparedSpec).bare Rows.benchSparedRow = true := by kernel_rfl
theorem Ib : (fun (P : Program) (f : FuncId) (fn : Func) (s : ChangeSpec) (c : OpenClaim) => (laidOutB P)) Tryz.checked.prog 9 Tryz.f9 (OpenSpec.ofChange Rows.benchSparedSpec).bare Rows.benchSparedRow = true := by kernel_rfl
theorem Ic : (fun (P : Program) (f : FuncId) (fn : Func) (s : ChangeSpec) (c : OpenClaim) => (mapsRowed P)) Tryz.checked.prog 9 Tryz.f9 (OpenSpec.ofChange Rows.benchSparedSpec).bare Rows.benchSparedRow = true := by kernel_rfl
theorem Ie : (fun (P : Program) (f : FuncId) (fn : Func) (s : ChangeSpec) (c : OpenClaim) => (fn.params.all (P.readableRec ·))) Tryz.checked.prog 9 Tryz.f9 (OpenSpec.ofChange Rows.benchSparedSpec).bare Rows.benchSparedRow = true := by kernel_rfl
theorem Ig : (fun (P : Program) (f : FuncId) (fn : Func) (s : ChangeSpec) (c : OpenClaim) => (namedTie P c.named s.vars)) Tryz.checked.prog 9 Tryz.f9 (OpenSpec.ofChange Rows.benchSparedSpec).bare Rows.benchSparedRow = true := by kernel_rfl
theorem Ih : (fun (P : Program) (f : FuncId) (fn : Func) (s : ChangeSpec) (c : OpenClaim) => ((c.stops == []))) Tryz.checked.prog 9 Tryz.f9 (OpenSpec.ofChange Rows.benchSparedSpec).bare Rows.benchSparedRow = true := by kernel_rfl
theorem Ii : (fun (P : Program) (f : FuncId) (fn : Func) (s : ChangeSpec) (c : OpenClaim) => ((P.stops == []))) Tryz.checked.prog 9 Tryz.f9 (OpenSpec.ofChange Rows.benchSparedSpec).bare Rows.benchSparedRow = true := by kernel_rfl
theorem Ij : (fun (P : Program) (f : FuncId) (fn : Func) (s : ChangeSpec) (c : OpenClaim) => ((c.knobs == []))) Tryz.checked.prog 9 Tryz.f9 (OpenSpec.ofChange Rows.benchSparedSpec).bare Rows.benchSparedRow = true := by kernel_rfl
theorem Ik : (fun (P : Program) (f : FuncId) (fn : Func) (s : ChangeSpec) (c : OpenClaim) => ((P.stopKnobs == []))) Tryz.checked.prog 9 Tryz.f9 (OpenSpec.ofChange Rows.benchSparedSpec).bare Rows.benchSparedRow = true := by kernel_rfl
theorem t4 : (fun (P : Program) (f : FuncId) (fn : Func) (s : ChangeSpec) (c : OpenClaim) => ((c.inPlace == P.inPlace f))) Tryz.checked.prog 9 Tryz.f9 (OpenSpec.ofChange Rows.benchSparedSpec).bare Rows.benchSparedRow = true := by kernel_rfl
theorem t5 : (fun (P : Program) (f : FuncId) (fn : Func) (s : ChangeSpec) (c : OpenClaim) => ((c.unfollowed == P.unfollowed f))) Tryz.checked.prog 9 Tryz.f9 (OpenSpec.ofChange Rows.benchSparedSpec).bare Rows.benchSparedRow = true := by kernel_rfl
theorem t6 : (fun (P : Program) (f : FuncId) (fn : Func) (s : ChangeSpec) (c : OpenClaim) => ((c.recurses == P.recurses f))) Tryz.checked.prog 9 Tryz.f9 (OpenSpec.ofChange Rows.benchSparedSpec).bare Rows.benchSparedRow = true := by kernel_rfl
theorem t7 : (fun (P : Program) (f : FuncId) (fn : Func) (s : ChangeSpec) (c : OpenClaim) => ((c.named == P.varsNamed f))) Tryz.checked.prog 9 Tryz.f9 (OpenSpec.ofChange Rows.benchSparedSpec).bare Rows.benchSparedRow = true := by kernel_rfl
theorem t8 : (fun (P : Program) (f : FuncId) (fn : Func) (s : ChangeSpec) (c : OpenClaim) => ((c.maps == (fn.params.toList ++ s.plain.varTypes P).any (P.mapsRec ·)))) Tryz.checked.prog 9 Tryz.f9 (OpenSpec.ofChange Rows.benchSparedSpec).bare Rows.benchSparedRow = true := by kernel_rfl
theorem t9 : (fun (P : Program) (f : FuncId) (fn : Func) (s : ChangeSpec) (c : OpenClaim) => ((c.ifaces == (fn.params.toList ++ s.plain.varTypes P).any (P.ifacesRec ·)))) Tryz.checked.prog 9 Tryz.f9 (OpenSpec.ofChange Rows.benchSparedSpec).bare Rows.benchSparedRow = true := by kernel_rfl
theorem tA : (fun (P : Program) (f : FuncId) (fn : Func) (s : ChangeSpec) (c : OpenClaim) => ((c.mapsOut == P.mapsAmong fn.resultTypes.toList))) Tryz.checked.prog 9 Tryz.f9 (OpenSpec.ofChange Rows.benchSparedSpec).bare Rows.benchSparedRow = true := by kernel_rfl
theorem tB : (fun (P : Program) (f : FuncId) (fn : Func) (s : ChangeSpec) (c : OpenClaim) => ((c.loops == (fn.params.toList ++ s.plain.varTypes P).any (P.loopsFrom ·)))) Tryz.checked.prog 9 Tryz.f9 (OpenSpec.ofChange Rows.benchSparedSpec).bare Rows.benchSparedRow = true := by kernel_rfl
theorem tC : (fun (P : Program) (f : FuncId) (fn : Func) (s : ChangeSpec) (c : OpenClaim) => ((c.wideKeys == (fn.params.toList ++ s.plain.varTypes P ++ fn.resultTypes.toList).any (P.wideKeysFrom ·)))) Tryz.checked.prog 9 Tryz.f9 (OpenSpec.ofChange Rows.benchSparedSpec).bare Rows.benchSparedRow = true := by kernel_rfl
theorem tD : (fun (P : Program) (f : FuncId) (fn : Func) (s : ChangeSpec) (c : OpenClaim) => (s.vars.all (P.varReadable ·))) Tryz.checked.prog 9 Tryz.f9 (OpenSpec.ofChange Rows.benchSparedSpec).bare Rows.benchSparedRow = true := by kernel_rfl
theorem tE : (fun (P : Program) (f : FuncId) (fn : Func) (s : ChangeSpec) (c : OpenClaim) => (fn.resultTypes.all (fun t => P.readableRec t && decide (t < P.types.size)))) Tryz.checked.prog 9 Tryz.f9 (OpenSpec.ofChange Rows.benchSparedSpec).bare Rows.benchSparedRow = true := by kernel_rfl
theorem tF : (fun (P : Program) (f : FuncId) (fn : Func) (s : ChangeSpec) (c : OpenClaim) => ((c.ifacesOut == fn.resultTypes.toList.any (P.ifacesRec ·)))) Tryz.checked.prog 9 Tryz.f9 (OpenSpec.ofChange Rows.benchSparedSpec).bare Rows.benchSparedRow = true := by kernel_rfl
theorem tG : (fun (P : Program) (f : FuncId) (fn : Func) (s : ChangeSpec) (c : OpenClaim) => ((c.loopsOut == fn.resultTypes.toList.any (P.loopsFrom ·)))) Tryz.checked.prog 9 Tryz.f9 (OpenSpec.ofChange Rows.benchSparedSpec).bare Rows.benchSparedRow = true := by kernel_rfl
theorem tH : (fun (P : Program) (f : FuncId) (fn : Func) (s : ChangeSpec) (c : OpenClaim) => ((c.plainKeys == P.plainKeys))) Tryz.checked.prog 9 Tryz.f9 (OpenSpec.ofChange Rows.benchSparedSpec).bare Rows.benchSparedRow = true := by kernel_rfl
theorem tI : (fun (P : Program) (f : FuncId) (fn : Func) (s : ChangeSpec) (c : OpenClaim) => (c.shortTexts.isNone)) Tryz.checked.prog 9 Tryz.f9 (OpenSpec.ofChange Rows.benchSparedSpec).bare Rows.benchSparedRow = true := by kernel_rfl
theorem tJ : (fun (P : Program) (f : FuncId) (fn : Func) (s : ChangeSpec) (c : OpenClaim) => (P.stopsHeard)) Tryz.checked.prog 9 Tryz.f9 (OpenSpec.ofChange Rows.benchSparedSpec).bare Rows.benchSparedRow = true := by kernel_rfl
theorem tK : (fun (P : Program) (f : FuncId) (fn : Func) (s : ChangeSpec) (c : OpenClaim) => (P.mayEnter)) Tryz.checked.prog 9 Tryz.f9 (OpenSpec.ofChange Rows.benchSparedSpec).bare Rows.benchSparedRow = true := by kernel_rfl
theorem tL : (fun (P : Program) (f : FuncId) (fn : Func) (s : ChangeSpec) (c : OpenClaim) => ((c.lifted == P.liftsFinal))) Tryz.checked.prog 9 Tryz.f9 (OpenSpec.ofChange Rows.benchSparedSpec).bare Rows.benchSparedRow = true := by kernel_rfl
theorem tM : (fun (P : Program) (f : FuncId) (fn : Func) (s : ChangeSpec) (c : OpenClaim) => ((P.make == some c.make))) Tryz.checked.prog 9 Tryz.f9 (OpenSpec.ofChange Rows.benchSparedSpec).bare Rows.benchSparedRow = true := by kernel_rfl
theorem tN : (fun (P : Program) (f : FuncId) (fn : Func) (s : ChangeSpec) (c : OpenClaim) => ((c.kinds == (if c.domain.isEmpty then [] else fn.params.toList.map fun t => match P.underlying t with | some (.int k) => some k | _ => none)))) Tryz.checked.prog 9 Tryz.f9 (OpenSpec.ofChange Rows.benchSparedSpec).bare Rows.benchSparedRow = true := by kernel_rfl
theorem tO : (fun (P : Program) (f : FuncId) (fn : Func) (s : ChangeSpec) (c : OpenClaim) => ((c.pinned == c.pinnedBy))) Tryz.checked.prog 9 Tryz.f9 (OpenSpec.ofChange Rows.benchSparedSpec).bare Rows.benchSparedRow = true := by kernel_rfl
theorem tP : (fun (P : Program) (f : FuncId) (fn : Func) (s : ChangeSpec) (c : OpenClaim) => ((c.veiled == (fn.params.toList ++ s.plain.varTypes P ++ fn.resultTypes.toList).any (P.veiledRec ·)))) Tryz.checked.prog 9 Tryz.f9 (OpenSpec.ofChange Rows.benchSparedSpec).bare Rows.benchSparedRow = true := by kernel_rfl
theorem tQ : (fun (P : Program) (f : FuncId) (fn : Func) (s : ChangeSpec) (c : OpenClaim) => (c.veiledFits P fn.params.toList (fn.params.toList ++ s.plain.varTypes P ++ fn.resultTypes.toList))) Tryz.checked.prog 9 Tryz.f9 (OpenSpec.ofChange Rows.benchSparedSpec).bare Rows.benchSparedRow = true := by kernel_rfl

end Go.Proofs.YtmhlghgbfmcdaaaGreatDoor.FrBenchSpared
