/- Facts on the program that the card of 'BenchChains' asks. -/
import Derived.Test.YtmhlghgbfmcdaaaGreatDoorG6az
import Derived.Test.YtmhlghgbfmcdaaaGreatDoorCards
import Derived.Test.YtmhlghgbfmcdaaaGreatDoorTie
import Derived.ProofKit
import Derived.OpenShut
import Derived.Deep.DeepHandedRow
namespace Go.Proofs.YtmhlghgbfmcdaaaGreatDoor.FrBenchChains
open Go Go.V Go.RowKit Go.ChangeShapes Go.ChangeAt Go.WideShapes
set_option maxRecDepth 100000
set_option linter.unusedVariables false
theorem NN : (fun (P : Program) (f : FuncId) (fn : Func) (s : ChangeSpec) (c : OpenClaim) => (c.wf (OpenSpec.ofChange s))) Tryz.checked.prog 7 Tryz.f7 (OpenSpec.ofChange Rows.benchChainsSpec).bare Rows.benchChainsRow = true := by kernel_rfl
theorem NO : (fun (P : Program) (f : FuncId) (fn : Func) (s : ChangeSpec) (c : OpenClaim) => (laidOutB P)) Tryz.checked.prog 7 Tryz.f7 (OpenSpec.ofChange Rows.benchChainsSpec).bare Rows.benchChainsRow = true := by kernel_rfl
theorem NP : (fun (P : Program) (f : FuncId) (fn : Func) (s : ChangeSpec) (c : OpenClaim) => (mapsRowed P)) Tryz.checked.prog 7 Tryz.f7 (OpenSpec.ofChange Rows.benchChainsSpec).bare Rows.benchChainsRow = true := by kernel_rfl
theorem NQ : (fun (P : Program) (f : FuncId) (fn : Func) (s : ChangeSpec) (c : OpenClaim) => (fn.params.all (P.readableRec ·))) Tryz.checked.prog 7 Tryz.f7 (OpenSpec.ofChange Rows.benchChainsSpec).bare Rows.benchChainsRow = true := by kernel_rfl
theorem NR : (fun (P : Program) (f : FuncId) (fn : Func) (s : ChangeSpec) (c : OpenClaim) => (namedTie P c.named s.vars)) Tryz.checked.prog 7 Tryz.f7 (OpenSpec.ofChange Rows.benchChainsSpec).bare Rows.benchChainsRow = true := by kernel_rfl
theorem NS : (fun (P : Program) (f : FuncId) (fn : Func) (s : ChangeSpec) (c : OpenClaim) => ((c.stops == []))) Tryz.checked.prog 7 Tryz.f7 (OpenSpec.ofChange Rows.benchChainsSpec).bare Rows.benchChainsRow = true := by kernel_rfl
theorem NT : (fun (P : Program) (f : FuncId) (fn : Func) (s : ChangeSpec) (c : OpenClaim) => ((P.stops == []))) Tryz.checked.prog 7 Tryz.f7 (OpenSpec.ofChange Rows.benchChainsSpec).bare Rows.benchChainsRow = true := by kernel_rfl
theorem NU : (fun (P : Program) (f : FuncId) (fn : Func) (s : ChangeSpec) (c : OpenClaim) => ((c.knobs == []))) Tryz.checked.prog 7 Tryz.f7 (OpenSpec.ofChange Rows.benchChainsSpec).bare Rows.benchChainsRow = true := by kernel_rfl
theorem NV : (fun (P : Program) (f : FuncId) (fn : Func) (s : ChangeSpec) (c : OpenClaim) => ((P.stopKnobs == []))) Tryz.checked.prog 7 Tryz.f7 (OpenSpec.ofChange Rows.benchChainsSpec).bare Rows.benchChainsRow = true := by kernel_rfl
theorem zq : (fun (P : Program) (f : FuncId) (fn : Func) (s : ChangeSpec) (c : OpenClaim) => ((c.inPlace == P.inPlace f))) Tryz.checked.prog 7 Tryz.f7 (OpenSpec.ofChange Rows.benchChainsSpec).bare Rows.benchChainsRow = true := by kernel_rfl
theorem zr : (fun (P : Program) (f : FuncId) (fn : Func) (s : ChangeSpec) (c : OpenClaim) => ((c.unfollowed == P.unfollowed f))) Tryz.checked.prog 7 Tryz.f7 (OpenSpec.ofChange Rows.benchChainsSpec).bare Rows.benchChainsRow = true := by kernel_rfl
theorem zt : (fun (P : Program) (f : FuncId) (fn : Func) (s : ChangeSpec) (c : OpenClaim) => ((c.recurses == P.recurses f))) Tryz.checked.prog 7 Tryz.f7 (OpenSpec.ofChange Rows.benchChainsSpec).bare Rows.benchChainsRow = true := by kernel_rfl
theorem zu : (fun (P : Program) (f : FuncId) (fn : Func) (s : ChangeSpec) (c : OpenClaim) => ((c.named == P.varsNamed f))) Tryz.checked.prog 7 Tryz.f7 (OpenSpec.ofChange Rows.benchChainsSpec).bare Rows.benchChainsRow = true := by kernel_rfl
theorem zw : (fun (P : Program) (f : FuncId) (fn : Func) (s : ChangeSpec) (c : OpenClaim) => ((c.maps == (fn.params.toList ++ s.plain.varTypes P).any (P.mapsRec ·)))) Tryz.checked.prog 7 Tryz.f7 (OpenSpec.ofChange Rows.benchChainsSpec).bare Rows.benchChainsRow = true := by kernel_rfl
theorem zx : (fun (P : Program) (f : FuncId) (fn : Func) (s : ChangeSpec) (c : OpenClaim) => ((c.ifaces == (fn.params.toList ++ s.plain.varTypes P).any (P.ifacesRec ·)))) Tryz.checked.prog 7 Tryz.f7 (OpenSpec.ofChange Rows.benchChainsSpec).bare Rows.benchChainsRow = true := by kernel_rfl
theorem zy : (fun (P : Program) (f : FuncId) (fn : Func) (s : ChangeSpec) (c : OpenClaim) => ((c.mapsOut == P.mapsAmong fn.resultTypes.toList))) Tryz.checked.prog 7 Tryz.f7 (OpenSpec.ofChange Rows.benchChainsSpec).bare Rows.benchChainsRow = true := by kernel_rfl
theorem z1 : (fun (P : Program) (f : FuncId) (fn : Func) (s : ChangeSpec) (c : OpenClaim) => ((c.loops == (fn.params.toList ++ s.plain.varTypes P).any (P.loopsFrom ·)))) Tryz.checked.prog 7 Tryz.f7 (OpenSpec.ofChange Rows.benchChainsSpec).bare Rows.benchChainsRow = true := by kernel_rfl
theorem z2 : (fun (P : Program) (f : FuncId) (fn : Func) (s : ChangeSpec) (c : OpenClaim) => ((c.wideKeys == (fn.params.toList ++ s.plain.varTypes P ++ fn.resultTypes.toList).any (P.wideKeysFrom ·)))) Tryz.checked.prog 7 Tryz.f7 (OpenSpec.ofChange Rows.benchChainsSpec).bare Rows.benchChainsRow = true := by kernel_rfl
theorem z3 : (fun (P : Program) (f : FuncId) (fn : Func) (s : ChangeSpec) (c : OpenClaim) => (s.vars.all (P.varReadable ·))) Tryz.checked.prog 7 Tryz.f7 (OpenSpec.ofChange Rows.benchChainsSpec).bare Rows.benchChainsRow = true := by kernel_rfl
theorem z4 : (fun (P : Program) (f : FuncId) (fn : Func) (s : ChangeSpec) (c : OpenClaim) => (fn.resultTypes.all (fun t => P.readableRec t && decide (t < P.types.size)))) Tryz.checked.prog 7 Tryz.f7 (OpenSpec.ofChange Rows.benchChainsSpec).bare Rows.benchChainsRow = true := by kernel_rfl
theorem z5 : (fun (P : Program) (f : FuncId) (fn : Func) (s : ChangeSpec) (c : OpenClaim) => ((c.ifacesOut == fn.resultTypes.toList.any (P.ifacesRec ·)))) Tryz.checked.prog 7 Tryz.f7 (OpenSpec.ofChange Rows.benchChainsSpec).bare Rows.benchChainsRow = true := by kernel_rfl
theorem z6 : (fun (P : Program) (f : FuncId) (fn : Func) (s : ChangeSpec) (c : OpenClaim) => ((c.loopsOut == fn.resultTypes.toList.any (P.loopsFrom ·)))) Tryz.checked.prog 7 Tryz.f7 (OpenSpec.ofChange Rows.benchChainsSpec).bare Rows.benchChainsRow = true := by kernel_rfl
theorem z7 : (fun (P : Program) (f : FuncId) (fn : Func) (s : ChangeSpec) (c : OpenClaim) => ((c.plainKeys == P.plainKeys))) Tryz.checked.prog 7 Tryz.f7 (OpenSpec.ofChange Rows.benchChainsSpec).bare Rows.benchChainsRow = true := by kernel_rfl
theorem z8 : (fun (P : Program) (f : FuncId) (fn : Func) (s : ChangeSpec) (c : OpenClaim) => (c.shortTexts.isNone)) Tryz.checked.prog 7 Tryz.f7 (OpenSpec.ofChange Rows.benchChainsSpec).bare Rows.benchChainsRow = true := by kernel_rfl
theorem z9 : (fun (P : Program) (f : FuncId) (fn : Func) (s : ChangeSpec) (c : OpenClaim) => (P.stopsHeard)) Tryz.checked.prog 7 Tryz.f7 (OpenSpec.ofChange Rows.benchChainsSpec).bare Rows.benchChainsRow = true := by kernel_rfl
theorem zA : (fun (P : Program) (f : FuncId) (fn : Func) (s : ChangeSpec) (c : OpenClaim) => (P.mayEnter)) Tryz.checked.prog 7 Tryz.f7 (OpenSpec.ofChange Rows.benchChainsSpec).bare Rows.benchChainsRow = true := by kernel_rfl
theorem zB : (fun (P : Program) (f : FuncId) (fn : Func) (s : ChangeSpec) (c : OpenClaim) => ((c.lifted == P.liftsFinal))) Tryz.checked.prog 7 Tryz.f7 (OpenSpec.ofChange Rows.benchChainsSpec).bare Rows.benchChainsRow = true := by kernel_rfl
theorem zC : (fun (P : Program) (f : FuncId) (fn : Func) (s : ChangeSpec) (c : OpenClaim) => ((P.make == some c.make))) Tryz.checked.prog 7 Tryz.f7 (OpenSpec.ofChange Rows.benchChainsSpec).bare Rows.benchChainsRow = true := by kernel_rfl
theorem zD : (fun (P : Program) (f : FuncId) (fn : Func) (s : ChangeSpec) (c : OpenClaim) => ((c.kinds == (if c.domain.isEmpty then [] else fn.params.toList.map fun t => match P.underlying t with | some (.int k) => some k | _ => none)))) Tryz.checked.prog 7 Tryz.f7 (OpenSpec.ofChange Rows.benchChainsSpec).bare Rows.benchChainsRow = true := by kernel_rfl
theorem zE : (fun (P : Program) (f : FuncId) (fn : Func) (s : ChangeSpec) (c : OpenClaim) => ((c.pinned == c.pinnedBy))) Tryz.checked.prog 7 Tryz.f7 (OpenSpec.ofChange Rows.benchChainsSpec).bare Rows.benchChainsRow = true := by kernel_rfl
theorem zF : (fun (P : Program) (f : FuncId) (fn : Func) (s : ChangeSpec) (c : OpenClaim) => ((c.veiled == (fn.params.toList ++ s.plain.varTypes P ++ fn.resultTypes.toList).any (P.veiledRec ·)))) Tryz.checked.prog 7 Tryz.f7 (OpenSpec.ofChange Rows.benchChainsSpec).bare Rows.benchChainsRow = true := by kernel_rfl
theorem zG : (fun (P : Program) (f : FuncId) (fn : Func) (s : ChangeSpec) (c : OpenClaim) => (c.veiledFits P fn.params.toList (fn.params.toList ++ s.plain.varTypes P ++ fn.resultTypes.toList))) Tryz.checked.prog 7 Tryz.f7 (OpenSpec.ofChange Rows.benchChainsSpec).bare Rows.benchChainsRow = true := by kernel_rfl

end Go.Proofs.YtmhlghgbfmcdaaaGreatDoor.FrBenchChains
