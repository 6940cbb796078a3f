/- Facts on the program that the card of 'BenchBetween' asks. -/
import Derived.Test.YtmhlghgbfmcdaaaGreatDoorB1az
import Derived.Test.YtmhlghgbfmcdaaaGreatDoorCards
import Derived.Test.YtmhlghgbfmcdaaaGreatDoorTie
import Derived.ProofKit
import Derived.OpenShut
import Derived.Deep.DeepHandedRow
namespace Go.Proofs.YtmhlghgbfmcdaaaGreatDoor.FrBenchBetween
open Go Go.V Go.RowKit Go.ChangeShapes Go.ChangeAt Go.WideShapes
set_option maxRecDepth 100000
set_option linter.unusedVariables false
theorem L2 : (fun (P : Program) (f : FuncId) (fn : Func) (s : ChangeSpec) (c : OpenClaim) => (c.wf (OpenSpec.ofChange s))) Tryz.checked.prog 4 Tryz.f4 (OpenSpec.ofChange Rows.benchBetweenSpec).bare Rows.benchBetweenRow = true := by kernel_rfl
theorem L3 : (fun (P : Program) (f : FuncId) (fn : Func) (s : ChangeSpec) (c : OpenClaim) => (laidOutB P)) Tryz.checked.prog 4 Tryz.f4 (OpenSpec.ofChange Rows.benchBetweenSpec).bare Rows.benchBetweenRow = true := by kernel_rfl
theorem L4 : (fun (P : Program) (f : FuncId) (fn : Func) (s : ChangeSpec) (c : OpenClaim) => (mapsRowed P)) Tryz.checked.prog 4 Tryz.f4 (OpenSpec.ofChange Rows.benchBetweenSpec).bare Rows.benchBetweenRow = true := by kernel_rfl
theorem L5 : (fun (P : Program) (f : FuncId) (fn : Func) (s : ChangeSpec) (c : OpenClaim) => (fn.params.all (P.readableRec ·))) Tryz.checked.prog 4 Tryz.f4 (OpenSpec.ofChange Rows.benchBetweenSpec).bare Rows.benchBetweenRow = true := by kernel_rfl
theorem L6 : (fun (P : Program) (f : FuncId) (fn : Func) (s : ChangeSpec) (c : OpenClaim) => (namedTie P c.named s.vars)) Tryz.checked.prog 4 Tryz.f4 (OpenSpec.ofChange Rows.benchBetweenSpec).bare Rows.benchBetweenRow = true := by kernel_rfl
theorem L7 : (fun (P : Program) (f : FuncId) (fn : Func) (s : ChangeSpec) (c : OpenClaim) => ((c.stops == []))) Tryz.checked.prog 4 Tryz.f4 (OpenSpec.ofChange Rows.benchBetweenSpec).bare Rows.benchBetweenRow = true := by kernel_rfl
theorem L8 : (fun (P : Program) (f : FuncId) (fn : Func) (s : ChangeSpec) (c : OpenClaim) => ((P.stops == []))) Tryz.checked.prog 4 Tryz.f4 (OpenSpec.ofChange Rows.benchBetweenSpec).bare Rows.benchBetweenRow = true := by kernel_rfl
theorem L9 : (fun (P : Program) (f : FuncId) (fn : Func) (s : ChangeSpec) (c : OpenClaim) => ((c.knobs == []))) Tryz.checked.prog 4 Tryz.f4 (OpenSpec.ofChange Rows.benchBetweenSpec).bare Rows.benchBetweenRow = true := by kernel_rfl
theorem LA : (fun (P : Program) (f : FuncId) (fn : Func) (s : ChangeSpec) (c : OpenClaim) => ((P.stopKnobs == []))) Tryz.checked.prog 4 Tryz.f4 (OpenSpec.ofChange Rows.benchBetweenSpec).bare Rows.benchBetweenRow = true := by kernel_rfl
theorem xl : (fun (P : Program) (f : FuncId) (fn : Func) (s : ChangeSpec) (c : OpenClaim) => ((c.inPlace == P.inPlace f))) Tryz.checked.prog 4 Tryz.f4 (OpenSpec.ofChange Rows.benchBetweenSpec).bare Rows.benchBetweenRow = true := by kernel_rfl
theorem xm : (fun (P : Program) (f : FuncId) (fn : Func) (s : ChangeSpec) (c : OpenClaim) => ((c.unfollowed == P.unfollowed f))) Tryz.checked.prog 4 Tryz.f4 (OpenSpec.ofChange Rows.benchBetweenSpec).bare Rows.benchBetweenRow = true := by kernel_rfl
theorem xn : (fun (P : Program) (f : FuncId) (fn : Func) (s : ChangeSpec) (c : OpenClaim) => ((c.recurses == P.recurses f))) Tryz.checked.prog 4 Tryz.f4 (OpenSpec.ofChange Rows.benchBetweenSpec).bare Rows.benchBetweenRow = true := by kernel_rfl
theorem xo : (fun (P : Program) (f : FuncId) (fn : Func) (s : ChangeSpec) (c : OpenClaim) => ((c.named == P.varsNamed f))) Tryz.checked.prog 4 Tryz.f4 (OpenSpec.ofChange Rows.benchBetweenSpec).bare Rows.benchBetweenRow = true := by kernel_rfl
theorem xq : (fun (P : Program) (f : FuncId) (fn : Func) (s : ChangeSpec) (c : OpenClaim) => ((c.maps == (fn.params.toList ++ s.plain.varTypes P).any (P.mapsRec ·)))) Tryz.checked.prog 4 Tryz.f4 (OpenSpec.ofChange Rows.benchBetweenSpec).bare Rows.benchBetweenRow = true := by kernel_rfl
theorem xr : (fun (P : Program) (f : FuncId) (fn : Func) (s : ChangeSpec) (c : OpenClaim) => ((c.ifaces == (fn.params.toList ++ s.plain.varTypes P).any (P.ifacesRec ·)))) Tryz.checked.prog 4 Tryz.f4 (OpenSpec.ofChange Rows.benchBetweenSpec).bare Rows.benchBetweenRow = true := by kernel_rfl
theorem xt : (fun (P : Program) (f : FuncId) (fn : Func) (s : ChangeSpec) (c : OpenClaim) => ((c.mapsOut == P.mapsAmong fn.resultTypes.toList))) Tryz.checked.prog 4 Tryz.f4 (OpenSpec.ofChange Rows.benchBetweenSpec).bare Rows.benchBetweenRow = true := by kernel_rfl
theorem xu : (fun (P : Program) (f : FuncId) (fn : Func) (s : ChangeSpec) (c : OpenClaim) => ((c.loops == (fn.params.toList ++ s.plain.varTypes P).any (P.loopsFrom ·)))) Tryz.checked.prog 4 Tryz.f4 (OpenSpec.ofChange Rows.benchBetweenSpec).bare Rows.benchBetweenRow = true := by kernel_rfl
theorem xv : (fun (P : Program) (f : FuncId) (fn : Func) (s : ChangeSpec) (c : OpenClaim) => ((c.wideKeys == (fn.params.toList ++ s.plain.varTypes P ++ fn.resultTypes.toList).any (P.wideKeysFrom ·)))) Tryz.checked.prog 4 Tryz.f4 (OpenSpec.ofChange Rows.benchBetweenSpec).bare Rows.benchBetweenRow = true := by kernel_rfl
theorem xw : (fun (P : Program) (f : FuncId) (fn : Func) (s : ChangeSpec) (c : OpenClaim) => (s.vars.all (P.varReadable ·))) Tryz.checked.prog 4 Tryz.f4 (OpenSpec.ofChange Rows.benchBetweenSpec).bare Rows.benchBetweenRow = true := by kernel_rfl
theorem xx : (fun (P : Program) (f : FuncId) (fn : Func) (s : ChangeSpec) (c : OpenClaim) => (fn.resultTypes.all (fun t => P.readableRec t && decide (t < P.types.size)))) Tryz.checked.prog 4 Tryz.f4 (OpenSpec.ofChange Rows.benchBetweenSpec).bare Rows.benchBetweenRow = true := by kernel_rfl
theorem xy : (fun (P : Program) (f : FuncId) (fn : Func) (s : ChangeSpec) (c : OpenClaim) => ((c.ifacesOut == fn.resultTypes.toList.any (P.ifacesRec ·)))) Tryz.checked.prog 4 Tryz.f4 (OpenSpec.ofChange Rows.benchBetweenSpec).bare Rows.benchBetweenRow = true := by kernel_rfl
theorem xz : (fun (P : Program) (f : FuncId) (fn : Func) (s : ChangeSpec) (c : OpenClaim) => ((c.loopsOut == fn.resultTypes.toList.any (P.loopsFrom ·)))) Tryz.checked.prog 4 Tryz.f4 (OpenSpec.ofChange Rows.benchBetweenSpec).bare Rows.benchBetweenRow = true := by kernel_rfl
theorem x5 : (fun (P : Program) (f : FuncId) (fn : Func) (s : ChangeSpec) (c : OpenClaim) => ((c.plainKeys == P.plainKeys))) Tryz.checked.prog 4 Tryz.f4 (OpenSpec.ofChange Rows.benchBetweenSpec).bare Rows.benchBetweenRow = true := by kernel_rfl
theorem x7 : (fun (P : Program) (f : FuncId) (fn : Func) (s : ChangeSpec) (c : OpenClaim) => (c.shortTexts.isNone)) Tryz.checked.prog 4 Tryz.f4 (OpenSpec.ofChange Rows.benchBetweenSpec).bare Rows.benchBetweenRow = true := by kernel_rfl
theorem x8 : (fun (P : Program) (f : FuncId) (fn : Func) (s : ChangeSpec) (c : OpenClaim) => (P.stopsHeard)) Tryz.checked.prog 4 Tryz.f4 (OpenSpec.ofChange Rows.benchBetweenSpec).bare Rows.benchBetweenRow = true := by kernel_rfl
theorem xA : (fun (P : Program) (f : FuncId) (fn : Func) (s : ChangeSpec) (c : OpenClaim) => (P.mayEnter)) Tryz.checked.prog 4 Tryz.f4 (OpenSpec.ofChange Rows.benchBetweenSpec).bare Rows.benchBetweenRow = true := by kernel_rfl
theorem xB : (fun (P : Program) (f : FuncId) (fn : Func) (s : ChangeSpec) (c : OpenClaim) => ((c.lifted == P.liftsFinal))) Tryz.checked.prog 4 Tryz.f4 (OpenSpec.ofChange Rows.benchBetweenSpec).bare Rows.benchBetweenRow = true := by kernel_rfl
theorem xC : (fun (P : Program) (f : FuncId) (fn : Func) (s : ChangeSpec) (c : OpenClaim) => ((P.make == some c.make))) Tryz.checked.prog 4 Tryz.f4 (OpenSpec.ofChange Rows.benchBetweenSpec).bare Rows.benchBetweenRow = true := by kernel_rfl
theorem xD : (fun (P : Program) (f : FuncId) (fn : Func) (s : ChangeSpec) (c : OpenClaim) => ((c.kinds == (if c.domain.isEmpty then [] else fn.params.toList.map fun t => match P.underlying t with | some (.int k) => some k | _ => none)))) Tryz.checked.prog 4 Tryz.f4 (OpenSpec.ofChange Rows.benchBetweenSpec).bare Rows.benchBetweenRow = true := by kernel_rfl
theorem xE : (fun (P : Program) (f : FuncId) (fn : Func) (s : ChangeSpec) (c : OpenClaim) => ((c.pinned == c.pinnedBy))) Tryz.checked.prog 4 Tryz.f4 (OpenSpec.ofChange Rows.benchBetweenSpec).bare Rows.benchBetweenRow = true := by kernel_rfl
theorem xF : (fun (P : Program) (f : FuncId) (fn : Func) (s : ChangeSpec) (c : OpenClaim) => ((c.veiled == (fn.params.toList ++ s.plain.varTypes P ++ fn.resultTypes.toList).any (P.veiledRec ·)))) Tryz.checked.prog 4 Tryz.f4 (OpenSpec.ofChange Rows.benchBetweenSpec).bare Rows.benchBetweenRow = true := by kernel_rfl
theorem xG : (fun (P : Program) (f : FuncId) (fn : Func) (s : ChangeSpec) (c : OpenClaim) => (c.veiledFits P fn.params.toList (fn.params.toList ++ s.plain.varTypes P ++ fn.resultTypes.toList))) Tryz.checked.prog 4 Tryz.f4 (OpenSpec.ofChange Rows.benchBetweenSpec).bare Rows.benchBetweenRow = true := by kernel_rfl

end Go.Proofs.YtmhlghgbfmcdaaaGreatDoor.FrBenchBetween
