/- Facts on the program that the card of 'BenchBests' asks. -/
import Derived.Test.YtmhlghgbfmcdaaaGreatDoorG4az
import Derived.Test.YtmhlghgbfmcdaaaGreatDoorCards
import Derived.Test.YtmhlghgbfmcdaaaGreatDoorTie
import Derived.ProofKit
import Derived.OpenShut
import Derived.Deep.DeepHandedRow
namespace Go.Proofs.YtmhlghgbfmcdaaaGreatDoor.FrBenchBests
open Go Go.V Go.RowKit Go.ChangeShapes Go.ChangeAt Go.WideShapes
set_option maxRecDepth 100000
set_option linter.unusedVariables false
theorem Ru : (fun (P : Program) (f : FuncId) (fn : Func) (s : ChangeSpec) (c : OpenClaim) => (c.wf (OpenSpec.ofChange s))) Tryz.checked.prog 10 Tryz.f10 (OpenSpec.ofChange Rows.benchBestsSpec).bare Rows.benchBestsRow = true := by kernel_rfl
theorem Rv : (fun (P : Program) (f : FuncId) (fn : Func) (s : ChangeSpec) (c : OpenClaim) => (laidOutB P)) Tryz.checked.prog 10 Tryz.f10 (OpenSpec.ofChange Rows.benchBestsSpec).bare Rows.benchBestsRow = true := by kernel_rfl
theorem Rw : (fun (P : Program) (f : FuncId) (fn : Func) (s : ChangeSpec) (c : OpenClaim) => (mapsRowed P)) Tryz.checked.prog 10 Tryz.f10 (OpenSpec.ofChange Rows.benchBestsSpec).bare Rows.benchBestsRow = true := by kernel_rfl
theorem Rx : (fun (P : Program) (f : FuncId) (fn : Func) (s : ChangeSpec) (c : OpenClaim) => (fn.params.all (P.readableRec ·))) Tryz.checked.prog 10 Tryz.f10 (OpenSpec.ofChange Rows.benchBestsSpec).bare Rows.benchBestsRow = true := by kernel_rfl
theorem Ry : (fun (P : Program) (f : FuncId) (fn : Func) (s : ChangeSpec) (c : OpenClaim) => (namedTie P c.named s.vars)) Tryz.checked.prog 10 Tryz.f10 (OpenSpec.ofChange Rows.benchBestsSpec).bare Rows.benchBestsRow = true := by kernel_rfl
theorem Rz : (fun (P : Program) (f : FuncId) (fn : Func) (s : ChangeSpec) (c : OpenClaim) => ((c.stops == []))) Tryz.checked.prog 10 Tryz.f10 (OpenSpec.ofChange Rows.benchBestsSpec).bare Rows.benchBestsRow = true := by kernel_rfl
theorem R0 : (fun (P : Program) (f : FuncId) (fn : Func) (s : ChangeSpec) (c : OpenClaim) => ((P.stops == []))) Tryz.checked.prog 10 Tryz.f10 (OpenSpec.ofChange Rows.benchBestsSpec).bare Rows.benchBestsRow = true := by kernel_rfl
theorem R1 : (fun (P : Program) (f : FuncId) (fn : Func) (s : ChangeSpec) (c : OpenClaim) => ((c.knobs == []))) Tryz.checked.prog 10 Tryz.f10 (OpenSpec.ofChange Rows.benchBestsSpec).bare Rows.benchBestsRow = true := by kernel_rfl
theorem R2 : (fun (P : Program) (f : FuncId) (fn : Func) (s : ChangeSpec) (c : OpenClaim) => ((P.stopKnobs == []))) Tryz.checked.prog 10 Tryz.f10 (OpenSpec.ofChange Rows.benchBestsSpec).bare Rows.benchBestsRow = true := by kernel_rfl
theorem FU : (fun (P : Program) (f : FuncId) (fn : Func) (s : ChangeSpec) (c : OpenClaim) => ((c.inPlace == P.inPlace f))) Tryz.checked.prog 10 Tryz.f10 (OpenSpec.ofChange Rows.benchBestsSpec).bare Rows.benchBestsRow = true := by kernel_rfl
theorem FV : (fun (P : Program) (f : FuncId) (fn : Func) (s : ChangeSpec) (c : OpenClaim) => ((c.unfollowed == P.unfollowed f))) Tryz.checked.prog 10 Tryz.f10 (OpenSpec.ofChange Rows.benchBestsSpec).bare Rows.benchBestsRow = true := by kernel_rfl
theorem FW : (fun (P : Program) (f : FuncId) (fn : Func) (s : ChangeSpec) (c : OpenClaim) => ((c.recurses == P.recurses f))) Tryz.checked.prog 10 Tryz.f10 (OpenSpec.ofChange Rows.benchBestsSpec).bare Rows.benchBestsRow = true := by kernel_rfl
theorem FX : (fun (P : Program) (f : FuncId) (fn : Func) (s : ChangeSpec) (c : OpenClaim) => ((c.named == P.varsNamed f))) Tryz.checked.prog 10 Tryz.f10 (OpenSpec.ofChange Rows.benchBestsSpec).bare Rows.benchBestsRow = true := by kernel_rfl
theorem FY : (fun (P : Program) (f : FuncId) (fn : Func) (s : ChangeSpec) (c : OpenClaim) => ((c.maps == (fn.params.toList ++ s.plain.varTypes P).any (P.mapsRec ·)))) Tryz.checked.prog 10 Tryz.f10 (OpenSpec.ofChange Rows.benchBestsSpec).bare Rows.benchBestsRow = true := by kernel_rfl
theorem FZ : (fun (P : Program) (f : FuncId) (fn : Func) (s : ChangeSpec) (c : OpenClaim) => ((c.ifaces == (fn.params.toList ++ s.plain.varTypes P).any (P.ifacesRec ·)))) Tryz.checked.prog 10 Tryz.f10 (OpenSpec.ofChange Rows.benchBestsSpec).bare Rows.benchBestsRow = true := by kernel_rfl
theorem Ga : (fun (P : Program) (f : FuncId) (fn : Func) (s : ChangeSpec) (c : OpenClaim) => ((c.mapsOut == P.mapsAmong fn.resultTypes.toList))) Tryz.checked.prog 10 Tryz.f10 (OpenSpec.ofChange Rows.benchBestsSpec).bare Rows.benchBestsRow = true := by kernel_rfl
theorem Gb : (fun (P : Program) (f : FuncId) (fn : Func) (s : ChangeSpec) (c : OpenClaim) => ((c.loops == (fn.params.toList ++ s.plain.varTypes P).any (P.loopsFrom ·)))) Tryz.checked.prog 10 Tryz.f10 (OpenSpec.ofChange Rows.benchBestsSpec).bare Rows.benchBestsRow = true := by kernel_rfl
theorem Gc : (fun (P : Program) (f : FuncId) (fn : Func) (s : ChangeSpec) (c : OpenClaim) => ((c.wideKeys == (fn.params.toList ++ s.plain.varTypes P ++ fn.resultTypes.toList).any (P.wideKeysFrom ·)))) Tryz.checked.prog 10 Tryz.f10 (OpenSpec.ofChange Rows.benchBestsSpec).bare Rows.benchBestsRow = true := by kernel_rfl
theorem Gd : (fun (P : Program) (f : FuncId) (fn : Func) (s : ChangeSpec) (c : OpenClaim) => (s.vars.all (P.varReadable ·))) Tryz.checked.prog 10 Tryz.f10 (OpenSpec.ofChange Rows.benchBestsSpec).bare Rows.benchBestsRow = true := by kernel_rfl
theorem Ge : (fun (P : Program) (f : FuncId) (fn : Func) (s : ChangeSpec) (c : OpenClaim) => (fn.resultTypes.all (fun t => P.readableRec t && decide (t < P.types.size)))) Tryz.checked.prog 10 Tryz.f10 (OpenSpec.ofChange Rows.benchBestsSpec).bare Rows.benchBestsRow = true := by kernel_rfl
theorem Gf : (fun (P : Program) (f : FuncId) (fn : Func) (s : ChangeSpec) (c : OpenClaim) => ((c.ifacesOut == fn.resultTypes.toList.any (P.ifacesRec ·)))) Tryz.checked.prog 10 Tryz.f10 (OpenSpec.ofChange Rows.benchBestsSpec).bare Rows.benchBestsRow = true := by kernel_rfl
theorem Gg : (fun (P : Program) (f : FuncId) (fn : Func) (s : ChangeSpec) (c : OpenClaim) => ((c.loopsOut == fn.resultTypes.toList.any (P.loopsFrom ·)))) Tryz.checked.prog 10 Tryz.f10 (OpenSpec.ofChange Rows.benchBestsSpec).bare Rows.benchBestsRow = true := by kernel_rfl
theorem Gh : (fun (P : Program) (f : FuncId) (fn : Func) (s : ChangeSpec) (c : OpenClaim) => ((c.plainKeys == P.plainKeys))) Tryz.checked.prog 10 Tryz.f10 (OpenSpec.ofChange Rows.benchBestsSpec).bare Rows.benchBestsRow = true := by kernel_rfl
theorem Gi : (fun (P : Program) (f : FuncId) (fn : Func) (s : ChangeSpec) (c : OpenClaim) => (c.shortTexts.isNone)) Tryz.checked.prog 10 Tryz.f10 (OpenSpec.ofChange Rows.benchBestsSpec).bare Rows.benchBestsRow = true := by kernel_rfl
theorem Gj : (fun (P : Program) (f : FuncId) (fn : Func) (s : ChangeSpec) (c : OpenClaim) => (P.stopsHeard)) Tryz.checked.prog 10 Tryz.f10 (OpenSpec.ofChange Rows.benchBestsSpec).bare Rows.benchBestsRow = true := by kernel_rfl
theorem Gk : (fun (P : Program) (f : FuncId) (fn : Func) (s : ChangeSpec) (c : OpenClaim) => (P.mayEnter)) Tryz.checked.prog 10 Tryz.f10 (OpenSpec.ofChange Rows.benchBestsSpec).bare Rows.benchBestsRow = true := by kernel_rfl
theorem Gl : (fun (P : Program) (f : FuncId) (fn : Func) (s : ChangeSpec) (c : OpenClaim) => ((c.lifted == P.liftsFinal))) Tryz.checked.prog 10 Tryz.f10 (OpenSpec.ofChange Rows.benchBestsSpec).bare Rows.benchBestsRow = true := by kernel_rfl
theorem Gm : (fun (P : Program) (f : FuncId) (fn : Func) (s : ChangeSpec) (c : OpenClaim) => ((P.make == some c.make))) Tryz.checked.prog 10 Tryz.f10 (OpenSpec.ofChange Rows.benchBestsSpec).bare Rows.benchBestsRow = true := by kernel_rfl
theorem Gn : (fun (P : Program) (f : FuncId) (fn : Func) (s : ChangeSpec) (c : OpenClaim) => ((c.kinds == (if c.domain.isEmpty then [] else fn.params.toList.map fun t => match P.underlying t with | some (.int k) => some k | _ => none)))) Tryz.checked.prog 10 Tryz.f10 (OpenSpec.ofChange Rows.benchBestsSpec).bare Rows.benchBestsRow = true := by kernel_rfl
theorem Gp : (fun (P : Program) (f : FuncId) (fn : Func) (s : ChangeSpec) (c : OpenClaim) => ((c.pinned == c.pinnedBy))) Tryz.checked.prog 10 Tryz.f10 (OpenSpec.ofChange Rows.benchBestsSpec).bare Rows.benchBestsRow = true := by kernel_rfl
theorem Gq : (fun (P : Program) (f : FuncId) (fn : Func) (s : ChangeSpec) (c : OpenClaim) => ((c.veiled == (fn.params.toList ++ s.plain.varTypes P ++ fn.resultTypes.toList).any (P.veiledRec ·)))) Tryz.checked.prog 10 Tryz.f10 (OpenSpec.ofChange Rows.benchBestsSpec).bare Rows.benchBestsRow = true := by kernel_rfl
theorem Gr : (fun (P : Program) (f : FuncId) (fn : Func) (s : ChangeSpec) (c : OpenClaim) => (c.veiledFits P fn.params.toList (fn.params.toList ++ s.plain.varTypes P ++ fn.resultTypes.toList))) Tryz.checked.prog 10 Tryz.f10 (OpenSpec.ofChange Rows.benchBestsSpec).bare Rows.benchBestsRow = true := by kernel_rfl

end Go.Proofs.YtmhlghgbfmcdaaaGreatDoor.FrBenchBests
