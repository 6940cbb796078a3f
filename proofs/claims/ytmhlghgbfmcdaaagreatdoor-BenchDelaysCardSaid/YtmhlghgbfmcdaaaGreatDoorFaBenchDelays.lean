/- Facts on the program that the card of 'BenchDelays' asks. -/
import Derived.Test.YtmhlghgbfmcdaaaGreatDoorG5az
import Derived.Test.YtmhlghgbfmcdaaaGreatDoorCards
import Derived.Test.YtmhlghgbfmcdaaaGreatDoorTie
import Derived.ProofKit
import Derived.OpenShut
import Derived.Deep.DeepHandedRow
namespace Go.Proofs.YtmhlghgbfmcdaaaGreatDoor.FrBenchDelays
open Go Go.V Go.RowKit Go.ChangeShapes Go.ChangeAt Go.WideShapes
set_option maxRecDepth 100000
set_option linter.unusedVariables false
theorem Vf : (fun (P : Program) (f : FuncId) (fn : Func) (s : ChangeSpec) (c : OpenClaim) => (c.wf (OpenSpec.ofChange s))) Tryz.checked.prog 8 Tryz.f8 (OpenSpec.ofChange Rows.benchDelaysSpec).bare Rows.benchDelaysRow = true := by kernel_rfl
theorem Vg : (fun (P : Program) (f : FuncId) (fn : Func) (s : ChangeSpec) (c : OpenClaim) => (laidOutB P)) Tryz.checked.prog 8 Tryz.f8 (OpenSpec.ofChange Rows.benchDelaysSpec).bare Rows.benchDelaysRow = true := by kernel_rfl
theorem Vh : (fun (P : Program) (f : FuncId) (fn : Func) (s : ChangeSpec) (c : OpenClaim) => (mapsRowed P)) Tryz.checked.prog 8 Tryz.f8 (OpenSpec.ofChange Rows.benchDelaysSpec).bare Rows.benchDelaysRow = true := by kernel_rfl
theorem Vi : (fun (P : Program) (f : FuncId) (fn : Func) (s : ChangeSpec) (c : OpenClaim) => (fn.params.all (P.readableRec ·))) Tryz.checked.prog 8 Tryz.f8 (OpenSpec.ofChange Rows.benchDelaysSpec).bare Rows.benchDelaysRow = true := by kernel_rfl
theorem Vj : (fun (P : Program) (f : FuncId) (fn : Func) (s : ChangeSpec) (c : OpenClaim) => (namedTie P c.named s.vars)) Tryz.checked.prog 8 Tryz.f8 (OpenSpec.ofChange Rows.benchDelaysSpec).bare Rows.benchDelaysRow = true := by kernel_rfl
theorem Vk : (fun (P : Program) (f : FuncId) (fn : Func) (s : ChangeSpec) (c : OpenClaim) => ((c.stops == []))) Tryz.checked.prog 8 Tryz.f8 (OpenSpec.ofChange Rows.benchDelaysSpec).bare Rows.benchDelaysRow = true := by kernel_rfl
theorem Vl : (fun (P : Program) (f : FuncId) (fn : Func) (s : ChangeSpec) (c : OpenClaim) => ((P.stops == []))) Tryz.checked.prog 8 Tryz.f8 (OpenSpec.ofChange Rows.benchDelaysSpec).bare Rows.benchDelaysRow = true := by kernel_rfl
theorem Vm : (fun (P : Program) (f : FuncId) (fn : Func) (s : ChangeSpec) (c : OpenClaim) => ((c.knobs == []))) Tryz.checked.prog 8 Tryz.f8 (OpenSpec.ofChange Rows.benchDelaysSpec).bare Rows.benchDelaysRow = true := by kernel_rfl
theorem Vn : (fun (P : Program) (f : FuncId) (fn : Func) (s : ChangeSpec) (c : OpenClaim) => ((P.stopKnobs == []))) Tryz.checked.prog 8 Tryz.f8 (OpenSpec.ofChange Rows.benchDelaysSpec).bare Rows.benchDelaysRow = true := by kernel_rfl
theorem Jv : (fun (P : Program) (f : FuncId) (fn : Func) (s : ChangeSpec) (c : OpenClaim) => ((c.inPlace == P.inPlace f))) Tryz.checked.prog 8 Tryz.f8 (OpenSpec.ofChange Rows.benchDelaysSpec).bare Rows.benchDelaysRow = true := by kernel_rfl
theorem Jw : (fun (P : Program) (f : FuncId) (fn : Func) (s : ChangeSpec) (c : OpenClaim) => ((c.unfollowed == P.unfollowed f))) Tryz.checked.prog 8 Tryz.f8 (OpenSpec.ofChange Rows.benchDelaysSpec).bare Rows.benchDelaysRow = true := by kernel_rfl
theorem Jx : (fun (P : Program) (f : FuncId) (fn : Func) (s : ChangeSpec) (c : OpenClaim) => ((c.recurses == P.recurses f))) Tryz.checked.prog 8 Tryz.f8 (OpenSpec.ofChange Rows.benchDelaysSpec).bare Rows.benchDelaysRow = true := by kernel_rfl
theorem Jy : (fun (P : Program) (f : FuncId) (fn : Func) (s : ChangeSpec) (c : OpenClaim) => ((c.named == P.varsNamed f))) Tryz.checked.prog 8 Tryz.f8 (OpenSpec.ofChange Rows.benchDelaysSpec).bare Rows.benchDelaysRow = true := by kernel_rfl
theorem Jz : (fun (P : Program) (f : FuncId) (fn : Func) (s : ChangeSpec) (c : OpenClaim) => ((c.maps == (fn.params.toList ++ s.plain.varTypes P).any (P.mapsRec ·)))) Tryz.checked.prog 8 Tryz.f8 (OpenSpec.ofChange Rows.benchDelaysSpec).bare Rows.benchDelaysRow = true := by kernel_rfl
theorem J0 : (fun (P : Program) (f : FuncId) (fn : Func) (s : ChangeSpec) (c : OpenClaim) => ((c.ifaces == (fn.params.toList ++ s.plain.varTypes P).any (P.ifacesRec ·)))) Tryz.checked.prog 8 Tryz.f8 (OpenSpec.ofChange Rows.benchDelaysSpec).bare Rows.benchDelaysRow = true := by kernel_rfl
theorem J3 : (fun (P : Program) (f : FuncId) (fn : Func) (s : ChangeSpec) (c : OpenClaim) => ((c.mapsOut == P.mapsAmong fn.resultTypes.toList))) Tryz.checked.prog 8 Tryz.f8 (OpenSpec.ofChange Rows.benchDelaysSpec).bare Rows.benchDelaysRow = true := by kernel_rfl
theorem J4 : (fun (P : Program) (f : FuncId) (fn : Func) (s : ChangeSpec) (c : OpenClaim) => ((c.loops == (fn.params.toList ++ s.plain.varTypes P).any (P.loopsFrom ·)))) Tryz.checked.prog 8 Tryz.f8 (OpenSpec.ofChange Rows.benchDelaysSpec).bare Rows.benchDelaysRow = true := by kernel_rfl
theorem J5 : (fun (P : Program) (f : FuncId) (fn : Func) (s : ChangeSpec) (c : OpenClaim) => ((c.wideKeys == (fn.params.toList ++ s.plain.varTypes P ++ fn.resultTypes.toList).any (P.wideKeysFrom ·)))) Tryz.checked.prog 8 Tryz.f8 (OpenSpec.ofChange Rows.benchDelaysSpec).bare Rows.benchDelaysRow = true := by kernel_rfl
theorem J6 : (fun (P : Program) (f : FuncId) (fn : Func) (s : ChangeSpec) (c : OpenClaim) => (s.vars.all (P.varReadable ·))) Tryz.checked.prog 8 Tryz.f8 (OpenSpec.ofChange Rows.benchDelaysSpec).bare Rows.benchDelaysRow = true := by kernel_rfl
theorem J7 : (fun (P : Program) (f : FuncId) (fn : Func) (s : ChangeSpec) (c : OpenClaim) => (fn.resultTypes.all (fun t => P.readableRec t && decide (t < P.types.size)))) Tryz.checked.prog 8 Tryz.f8 (OpenSpec.ofChange Rows.benchDelaysSpec).bare Rows.benchDelaysRow = true := by kernel_rfl
theorem J8 : (fun (P : Program) (f : FuncId) (fn : Func) (s : ChangeSpec) (c : OpenClaim) => ((c.ifacesOut == fn.resultTypes.toList.any (P.ifacesRec ·)))) Tryz.checked.prog 8 Tryz.f8 (OpenSpec.ofChange Rows.benchDelaysSpec).bare Rows.benchDelaysRow = true := by kernel_rfl
theorem J9 : (fun (P : Program) (f : FuncId) (fn : Func) (s : ChangeSpec) (c : OpenClaim) => ((c.loopsOut == fn.resultTypes.toList.any (P.loopsFrom ·)))) Tryz.checked.prog 8 Tryz.f8 (OpenSpec.ofChange Rows.benchDelaysSpec).bare Rows.benchDelaysRow = true := by kernel_rfl
theorem JA : (fun (P : Program) (f : FuncId) (fn : Func) (s : ChangeSpec) (c : OpenClaim) => ((c.plainKeys == P.plainKeys))) Tryz.checked.prog 8 Tryz.f8 (OpenSpec.ofChange Rows.benchDelaysSpec).bare Rows.benchDelaysRow = true := by kernel_rfl
theorem JB : (fun (P : Program) (f : FuncId) (fn : Func) (s : ChangeSpec) (c : OpenClaim) => (c.shortTexts.isNone)) Tryz.checked.prog 8 Tryz.f8 (OpenSpec.ofChange Rows.benchDelaysSpec).bare Rows.benchDelaysRow = true := by kernel_rfl
theorem JC : (fun (P : Program) (f : FuncId) (fn : Func) (s : ChangeSpec) (c : OpenClaim) => (P.stopsHeard)) Tryz.checked.prog 8 Tryz.f8 (OpenSpec.ofChange Rows.benchDelaysSpec).bare Rows.benchDelaysRow = true := by kernel_rfl
theorem JD : (fun (P : Program) (f : FuncId) (fn : Func) (s : ChangeSpec) (c : OpenClaim) => (P.mayEnter)) Tryz.checked.prog 8 Tryz.f8 (OpenSpec.ofChange Rows.benchDelaysSpec).bare Rows.benchDelaysRow = true := by kernel_rfl
theorem JE : (fun (P : Program) (f : FuncId) (fn : Func) (s : ChangeSpec) (c : OpenClaim) => ((c.lifted == P.liftsFinal))) Tryz.checked.prog 8 Tryz.f8 (OpenSpec.ofChange Rows.benchDelaysSpec).bare Rows.benchDelaysRow = true := by kernel_rfl
theorem JF : (fun (P : Program) (f : FuncId) (fn : Func) (s : ChangeSpec) (c : OpenClaim) => ((P.make == some c.make))) Tryz.checked.prog 8 Tryz.f8 (OpenSpec.ofChange Rows.benchDelaysSpec).bare Rows.benchDelaysRow = true := by kernel_rfl
theorem JG : (fun (P : Program) (f : FuncId) (fn : Func) (s : ChangeSpec) (c : OpenClaim) => ((c.kinds == (if c.domain.isEmpty then [] else fn.params.toList.map fun t => match P.underlying t with | some (.int k) => some k | _ => none)))) Tryz.checked.prog 8 Tryz.f8 (OpenSpec.ofChange Rows.benchDelaysSpec).bare Rows.benchDelaysRow = true := by kernel_rfl
theorem JH : (fun (P : Program) (f : FuncId) (fn : Func) (s : ChangeSpec) (c : OpenClaim) => ((c.pinned == c.pinnedBy))) Tryz.checked.prog 8 Tryz.f8 (OpenSpec.ofChange Rows.benchDelaysSpec).bare Rows.benchDelaysRow = true := by kernel_rfl
theorem JI : (fun (P : Program) (f : FuncId) (fn : Func) (s : ChangeSpec) (c : OpenClaim) => ((c.veiled == (fn.params.toList ++ s.plain.varTypes P ++ fn.resultTypes.toList).any (P.veiledRec ·)))) Tryz.checked.prog 8 Tryz.f8 (OpenSpec.ofChange Rows.benchDelaysSpec).bare Rows.benchDelaysRow = true := by kernel_rfl
theorem JJ : (fun (P : Program) (f : FuncId) (fn : Func) (s : ChangeSpec) (c : OpenClaim) => (c.veiledFits P fn.params.toList (fn.params.toList ++ s.plain.varTypes P ++ fn.resultTypes.toList))) Tryz.checked.prog 8 Tryz.f8 (OpenSpec.ofChange Rows.benchDelaysSpec).bare Rows.benchDelaysRow = true := by kernel_rfl

end Go.Proofs.YtmhlghgbfmcdaaaGreatDoor.FrBenchDelays
