/- Facts on the program that the card of 'BenchEnds' asks. -/
import Derived.Test.YtmhlghgbfmcdaaaGreatDoorE1az
import Derived.Test.YtmhlghgbfmcdaaaGreatDoorCards
import Derived.Test.YtmhlghgbfmcdaaaGreatDoorTie
import Derived.ProofKit
import Derived.OpenShut
import Derived.Deep.DeepHandedRow
namespace Go.Proofs.YtmhlghgbfmcdaaaGreatDoor.FrBenchEnds
open Go Go.V Go.RowKit Go.ChangeShapes Go.ChangeAt Go.WideShapes
set_option maxRecDepth 100000
set_option linter.unusedVariables false
theorem Ld : (fun (P : Program) (f : FuncId) (fn : Func) (s : ChangeSpec) (c : OpenClaim) => (c.wf (OpenSpec.ofChange s))) Tryz.checked.prog 3 Tryz.f3 (OpenSpec.ofChange Rows.benchEndsSpec).bare Rows.benchEndsRow = true := by kernel_rfl
theorem Le : (fun (P : Program) (f : FuncId) (fn : Func) (s : ChangeSpec) (c : OpenClaim) => (laidOutB P)) Tryz.checked.prog 3 Tryz.f3 (OpenSpec.ofChange Rows.benchEndsSpec).bare Rows.benchEndsRow = true := by kernel_rfl
theorem Lf : (fun (P : Program) (f : FuncId) (fn : Func) (s : ChangeSpec) (c : OpenClaim) => (mapsRowed P)) Tryz.checked.prog 3 Tryz.f3 (OpenSpec.ofChange Rows.benchEndsSpec).bare Rows.benchEndsRow = true := by kernel_rfl
theorem Lg : (fun (P : Program) (f : FuncId) (fn : Func) (s : ChangeSpec) (c : OpenClaim) => (fn.params.all (P.readableRec ·))) Tryz.checked.prog 3 Tryz.f3 (OpenSpec.ofChange Rows.benchEndsSpec).bare Rows.benchEndsRow = true := by kernel_rfl
theorem Lh : (fun (P : Program) (f : FuncId) (fn : Func) (s : ChangeSpec) (c : OpenClaim) => (namedTie P c.named s.vars)) Tryz.checked.prog 3 Tryz.f3 (OpenSpec.ofChange Rows.benchEndsSpec).bare Rows.benchEndsRow = true := by kernel_rfl
theorem Li : (fun (P : Program) (f : FuncId) (fn : Func) (s : ChangeSpec) (c : OpenClaim) => ((c.stops == []))) Tryz.checked.prog 3 Tryz.f3 (OpenSpec.ofChange Rows.benchEndsSpec).bare Rows.benchEndsRow = true := by kernel_rfl
theorem Lj : (fun (P : Program) (f : FuncId) (fn : Func) (s : ChangeSpec) (c : OpenClaim) => ((P.stops == []))) Tryz.checked.prog 3 Tryz.f3 (OpenSpec.ofChange Rows.benchEndsSpec).bare Rows.benchEndsRow = true := by kernel_rfl
theorem Lk : (fun (P : Program) (f : FuncId) (fn : Func) (s : ChangeSpec) (c : OpenClaim) => ((c.knobs == []))) Tryz.checked.prog 3 Tryz.f3 (OpenSpec.ofChange Rows.benchEndsSpec).bare Rows.benchEndsRow = true := by kernel_rfl
theorem Ll : (fun (P : Program) (f : FuncId) (fn : Func) (s : ChangeSpec) (c : OpenClaim) => ((P.stopKnobs == []))) Tryz.checked.prog 3 Tryz.f3 (OpenSpec.ofChange Rows.benchEndsSpec).bare Rows.benchEndsRow = true := by kernel_rfl
theorem xv : (fun (P : Program) (f : FuncId) (fn : Func) (s : ChangeSpec) (c : OpenClaim) => ((c.inPlace == P.inPlace f))) Tryz.checked.prog 3 Tryz.f3 (OpenSpec.ofChange Rows.benchEndsSpec).bare Rows.benchEndsRow = true := by kernel_rfl
theorem xw : (fun (P : Program) (f : FuncId) (fn : Func) (s : ChangeSpec) (c : OpenClaim) => ((c.unfollowed == P.unfollowed f))) Tryz.checked.prog 3 Tryz.f3 (OpenSpec.ofChange Rows.benchEndsSpec).bare Rows.benchEndsRow = true := by kernel_rfl
theorem xx : (fun (P : Program) (f : FuncId) (fn : Func) (s : ChangeSpec) (c : OpenClaim) => ((c.recurses == P.recurses f))) Tryz.checked.prog 3 Tryz.f3 (OpenSpec.ofChange Rows.benchEndsSpec).bare Rows.benchEndsRow = true := by kernel_rfl
theorem xy : (fun (P : Program) (f : FuncId) (fn : Func) (s : ChangeSpec) (c : OpenClaim) => ((c.named == P.varsNamed f))) Tryz.checked.prog 3 Tryz.f3 (OpenSpec.ofChange Rows.benchEndsSpec).bare Rows.benchEndsRow = true := by kernel_rfl
theorem xz : (fun (P : Program) (f : FuncId) (fn : Func) (s : ChangeSpec) (c : OpenClaim) => ((c.maps == (fn.params.toList ++ s.plain.varTypes P).any (P.mapsRec ·)))) Tryz.checked.prog 3 Tryz.f3 (OpenSpec.ofChange Rows.benchEndsSpec).bare Rows.benchEndsRow = true := by kernel_rfl
theorem x7 : (fun (P : Program) (f : FuncId) (fn : Func) (s : ChangeSpec) (c : OpenClaim) => ((c.ifaces == (fn.params.toList ++ s.plain.varTypes P).any (P.ifacesRec ·)))) Tryz.checked.prog 3 Tryz.f3 (OpenSpec.ofChange Rows.benchEndsSpec).bare Rows.benchEndsRow = true := by kernel_rfl
theorem x8 : (fun (P : Program) (f : FuncId) (fn : Func) (s : ChangeSpec) (c : OpenClaim) => ((c.mapsOut == P.mapsAmong fn.resultTypes.toList))) Tryz.checked.prog 3 Tryz.f3 (OpenSpec.ofChange Rows.benchEndsSpec).bare Rows.benchEndsRow = true := by kernel_rfl
theorem xB : (fun (P : Program) (f : FuncId) (fn : Func) (s : ChangeSpec) (c : OpenClaim) => ((c.loops == (fn.params.toList ++ s.plain.varTypes P).any (P.loopsFrom ·)))) Tryz.checked.prog 3 Tryz.f3 (OpenSpec.ofChange Rows.benchEndsSpec).bare Rows.benchEndsRow = true := by kernel_rfl
theorem xC : (fun (P : Program) (f : FuncId) (fn : Func) (s : ChangeSpec) (c : OpenClaim) => ((c.wideKeys == (fn.params.toList ++ s.plain.varTypes P ++ fn.resultTypes.toList).any (P.wideKeysFrom ·)))) Tryz.checked.prog 3 Tryz.f3 (OpenSpec.ofChange Rows.benchEndsSpec).bare Rows.benchEndsRow = true := by kernel_rfl
theorem xD : (fun (P : Program) (f : FuncId) (fn : Func) (s : ChangeSpec) (c : OpenClaim) => (s.vars.all (P.varReadable ·))) Tryz.checked.prog 3 Tryz.f3 (OpenSpec.ofChange Rows.benchEndsSpec).bare Rows.benchEndsRow = true := by kernel_rfl
theorem xE : (fun (P : Program) (f : FuncId) (fn : Func) (s : ChangeSpec) (c : OpenClaim) => (fn.resultTypes.all (fun t => P.readableRec t && decide (t < P.types.size)))) Tryz.checked.prog 3 Tryz.f3 (OpenSpec.ofChange Rows.benchEndsSpec).bare Rows.benchEndsRow = true := by kernel_rfl
theorem xF : (fun (P : Program) (f : FuncId) (fn : Func) (s : ChangeSpec) (c : OpenClaim) => ((c.ifacesOut == fn.resultTypes.toList.any (P.ifacesRec ·)))) Tryz.checked.prog 3 Tryz.f3 (OpenSpec.ofChange Rows.benchEndsSpec).bare Rows.benchEndsRow = true := by kernel_rfl
theorem xG : (fun (P : Program) (f : FuncId) (fn : Func) (s : ChangeSpec) (c : OpenClaim) => ((c.loopsOut == fn.resultTypes.toList.any (P.loopsFrom ·)))) Tryz.checked.prog 3 Tryz.f3 (OpenSpec.ofChange Rows.benchEndsSpec).bare Rows.benchEndsRow = true := by kernel_rfl
theorem xH : (fun (P : Program) (f : FuncId) (fn : Func) (s : ChangeSpec) (c : OpenClaim) => ((c.plainKeys == P.plainKeys))) Tryz.checked.prog 3 Tryz.f3 (OpenSpec.ofChange Rows.benchEndsSpec).bare Rows.benchEndsRow = true := by kernel_rfl
theorem xI : (fun (P : Program) (f : FuncId) (fn : Func) (s : ChangeSpec) (c : OpenClaim) => (c.shortTexts.isNone)) Tryz.checked.prog 3 Tryz.f3 (OpenSpec.ofChange Rows.benchEndsSpec).bare Rows.benchEndsRow = true := by kernel_rfl
theorem xJ : (fun (P : Program) (f : FuncId) (fn : Func) (s : ChangeSpec) (c : OpenClaim) => (P.stopsHeard)) Tryz.checked.prog 3 Tryz.f3 (OpenSpec.ofChange Rows.benchEndsSpec).bare Rows.benchEndsRow = true := by kernel_rfl
theorem xK : (fun (P : Program) (f : FuncId) (fn : Func) (s : ChangeSpec) (c : OpenClaim) => (P.mayEnter)) Tryz.checked.prog 3 Tryz.f3 (OpenSpec.ofChange Rows.benchEndsSpec).bare Rows.benchEndsRow = true := by kernel_rfl
theorem xL : (fun (P : Program) (f : FuncId) (fn : Func) (s : ChangeSpec) (c : OpenClaim) => ((c.lifted == P.liftsFinal))) Tryz.checked.prog 3 Tryz.f3 (OpenSpec.ofChange Rows.benchEndsSpec).bare Rows.benchEndsRow = true := by kernel_rfl
theorem xM : (fun (P : Program) (f : FuncId) (fn : Func) (s : ChangeSpec) (c : OpenClaim) => ((P.make == some c.make))) Tryz.checked.prog 3 Tryz.f3 (OpenSpec.ofChange Rows.benchEndsSpec).bare Rows.benchEndsRow = true := by kernel_rfl
theorem xN : (fun (P : Program) (f : FuncId) (fn : Func) (s : ChangeSpec) (c : OpenClaim) => ((c.kinds == (if c.domain.isEmpty then [] else fn.params.toList.map fun t => match P.underlying t with | some (.int k) => some k | _ => none)))) Tryz.checked.prog 3 Tryz.f3 (OpenSpec.ofChange Rows.benchEndsSpec).bare Rows.benchEndsRow = true := by kernel_rfl
theorem xO : (fun (P : Program) (f : FuncId) (fn : Func) (s : ChangeSpec) (c : OpenClaim) => ((c.pinned == c.pinnedBy))) Tryz.checked.prog 3 Tryz.f3 (OpenSpec.ofChange Rows.benchEndsSpec).bare Rows.benchEndsRow = true := by kernel_rfl
theorem xP : (fun (P : Program) (f : FuncId) (fn : Func) (s : ChangeSpec) (c : OpenClaim) => ((c.veiled == (fn.params.toList ++ s.plain.varTypes P ++ fn.resultTypes.toList).any (P.veiledRec ·)))) Tryz.checked.prog 3 Tryz.f3 (OpenSpec.ofChange Rows.benchEndsSpec).bare Rows.benchEndsRow = true := by kernel_rfl
theorem xQ : (fun (P : Program) (f : FuncId) (fn : Func) (s : ChangeSpec) (c : OpenClaim) => (c.veiledFits P fn.params.toList (fn.params.toList ++ s.plain.varTypes P ++ fn.resultTypes.toList))) Tryz.checked.prog 3 Tryz.f3 (OpenSpec.ofChange Rows.benchEndsSpec).bare Rows.benchEndsRow = true := by kernel_rfl

end Go.Proofs.YtmhlghgbfmcdaaaGreatDoor.FrBenchEnds
