/- Facts on the program that the card of 'LetterMore' asks. -/
import Derived.Test.YtclkbhbhohdgbaaGreatDoorE2aw
import Derived.Test.YtclkbhbhohdgbaaGreatDoorCards
import Derived.Test.YtclkbhbhohdgbaaGreatDoorTie
import Derived.ProofKit
import Derived.OpenShut
import Derived.Deep.DeepHandedRow
namespace Go.Proofs.YtclkbhbhohdgbaaGreatDoor.FrLetterMore
open Go Go.V Go.RowKit Go.ChangeShapes Go.ChangeAt Go.WideShapes
set_option maxRecDepth 100000
set_option linter.unusedVariables false
theorem ZE : (fun (P : Program) (f : FuncId) (fn : Func) (s : ChangeSpec) (c : OpenClaim) => (c.wf (OpenSpec.ofChange s))) Tryz.checked.prog 16 Tryz.f16 (OpenSpec.ofChange Rows.letterMoreSpec).bare Rows.letterMoreRow = true := by kernel_rfl
theorem ZF : (fun (P : Program) (f : FuncId) (fn : Func) (s : ChangeSpec) (c : OpenClaim) => (laidOutB P)) Tryz.checked.prog 16 Tryz.f16 (OpenSpec.ofChange Rows.letterMoreSpec).bare Rows.letterMoreRow = true := by kernel_rfl
theorem ZG : (fun (P : Program) (f : FuncId) (fn : Func) (s : ChangeSpec) (c : OpenClaim) => (mapsRowed P)) Tryz.checked.prog 16 Tryz.f16 (OpenSpec.ofChange Rows.letterMoreSpec).bare Rows.letterMoreRow = true := by kernel_rfl
theorem ZH : (fun (P : Program) (f : FuncId) (fn : Func) (s : ChangeSpec) (c : OpenClaim) => (fn.params.all (P.readableRec ·))) Tryz.checked.prog 16 Tryz.f16 (OpenSpec.ofChange Rows.letterMoreSpec).bare Rows.letterMoreRow = true := by kernel_rfl
theorem ZI : (fun (P : Program) (f : FuncId) (fn : Func) (s : ChangeSpec) (c : OpenClaim) => (namedTie P c.named s.vars)) Tryz.checked.prog 16 Tryz.f16 (OpenSpec.ofChange Rows.letterMoreSpec).bare Rows.letterMoreRow = true := by kernel_rfl
theorem ZJ : (fun (P : Program) (f : FuncId) (fn : Func) (s : ChangeSpec) (c : OpenClaim) => ((c.stops == []))) Tryz.checked.prog 16 Tryz.f16 (OpenSpec.ofChange Rows.letterMoreSpec).bare Rows.letterMoreRow = true := by kernel_rfl
theorem ZK : (fun (P : Program) (f : FuncId) (fn : Func) (s : ChangeSpec) (c : OpenClaim) => ((P.stops == []))) Tryz.checked.prog 16 Tryz.f16 (OpenSpec.ofChange Rows.letterMoreSpec).bare Rows.letterMoreRow = true := by kernel_rfl
theorem ZL : (fun (P : Program) (f : FuncId) (fn : Func) (s : ChangeSpec) (c : OpenClaim) => ((c.knobs == []))) Tryz.checked.prog 16 Tryz.f16 (OpenSpec.ofChange Rows.letterMoreSpec).bare Rows.letterMoreRow = true := by kernel_rfl
theorem ZM : (fun (P : Program) (f : FuncId) (fn : Func) (s : ChangeSpec) (c : OpenClaim) => ((P.stopKnobs == []))) Tryz.checked.prog 16 Tryz.f16 (OpenSpec.ofChange Rows.letterMoreSpec).bare Rows.letterMoreRow = true := by kernel_rfl
theorem PS : (fun (P : Program) (f : FuncId) (fn : Func) (s : ChangeSpec) (c : OpenClaim) => ((c.inPlace == P.inPlace f))) Tryz.checked.prog 16 Tryz.f16 (OpenSpec.ofChange Rows.letterMoreSpec).bare Rows.letterMoreRow = true := by kernel_rfl
theorem PT : (fun (P : Program) (f : FuncId) (fn : Func) (s : ChangeSpec) (c : OpenClaim) => ((c.unfollowed == P.unfollowed f))) Tryz.checked.prog 16 Tryz.f16 (OpenSpec.ofChange Rows.letterMoreSpec).bare Rows.letterMoreRow = true := by kernel_rfl
theorem PU : (fun (P : Program) (f : FuncId) (fn : Func) (s : ChangeSpec) (c : OpenClaim) => ((c.recurses == P.recurses f))) Tryz.checked.prog 16 Tryz.f16 (OpenSpec.ofChange Rows.letterMoreSpec).bare Rows.letterMoreRow = true := by kernel_rfl
theorem PV : (fun (P : Program) (f : FuncId) (fn : Func) (s : ChangeSpec) (c : OpenClaim) => ((c.named == P.varsNamed f))) Tryz.checked.prog 16 Tryz.f16 (OpenSpec.ofChange Rows.letterMoreSpec).bare Rows.letterMoreRow = true := by kernel_rfl
theorem PW : (fun (P : Program) (f : FuncId) (fn : Func) (s : ChangeSpec) (c : OpenClaim) => ((c.maps == (fn.params.toList ++ s.plain.varTypes P).any (P.mapsRec ·)))) Tryz.checked.prog 16 Tryz.f16 (OpenSpec.ofChange Rows.letterMoreSpec).bare Rows.letterMoreRow = true := by kernel_rfl
theorem PX : (fun (P : Program) (f : FuncId) (fn : Func) (s : ChangeSpec) (c : OpenClaim) => ((c.ifaces == (fn.params.toList ++ s.plain.varTypes P).any (P.ifacesRec ·)))) Tryz.checked.prog 16 Tryz.f16 (OpenSpec.ofChange Rows.letterMoreSpec).bare Rows.letterMoreRow = true := by kernel_rfl
theorem PY : (fun (P : Program) (f : FuncId) (fn : Func) (s : ChangeSpec) (c : OpenClaim) => ((c.mapsOut == P.mapsAmong fn.resultTypes.toList))) Tryz.checked.prog 16 Tryz.f16 (OpenSpec.ofChange Rows.letterMoreSpec).bare Rows.letterMoreRow = true := by kernel_rfl
theorem PZ : (fun (P : Program) (f : FuncId) (fn : Func) (s : ChangeSpec) (c : OpenClaim) => ((c.loops == (fn.params.toList ++ s.plain.varTypes P).any (P.loopsFrom ·)))) Tryz.checked.prog 16 Tryz.f16 (OpenSpec.ofChange Rows.letterMoreSpec).bare Rows.letterMoreRow = true := by kernel_rfl
theorem Qa : (fun (P : Program) (f : FuncId) (fn : Func) (s : ChangeSpec) (c : OpenClaim) => ((c.wideKeys == (fn.params.toList ++ s.plain.varTypes P ++ fn.resultTypes.toList).any (P.wideKeysFrom ·)))) Tryz.checked.prog 16 Tryz.f16 (OpenSpec.ofChange Rows.letterMoreSpec).bare Rows.letterMoreRow = true := by kernel_rfl
theorem Qb : (fun (P : Program) (f : FuncId) (fn : Func) (s : ChangeSpec) (c : OpenClaim) => (s.vars.all (P.varReadable ·))) Tryz.checked.prog 16 Tryz.f16 (OpenSpec.ofChange Rows.letterMoreSpec).bare Rows.letterMoreRow = true := by kernel_rfl
theorem Qc : (fun (P : Program) (f : FuncId) (fn : Func) (s : ChangeSpec) (c : OpenClaim) => (fn.resultTypes.all (fun t => P.readableRec t && decide (t < P.types.size)))) Tryz.checked.prog 16 Tryz.f16 (OpenSpec.ofChange Rows.letterMoreSpec).bare Rows.letterMoreRow = true := by kernel_rfl
theorem Qd : (fun (P : Program) (f : FuncId) (fn : Func) (s : ChangeSpec) (c : OpenClaim) => ((c.ifacesOut == fn.resultTypes.toList.any (P.ifacesRec ·)))) Tryz.checked.prog 16 Tryz.f16 (OpenSpec.ofChange Rows.letterMoreSpec).bare Rows.letterMoreRow = true := by kernel_rfl
theorem Qe : (fun (P : Program) (f : FuncId) (fn : Func) (s : ChangeSpec) (c : OpenClaim) => ((c.loopsOut == fn.resultTypes.toList.any (P.loopsFrom ·)))) Tryz.checked.prog 16 Tryz.f16 (OpenSpec.ofChange Rows.letterMoreSpec).bare Rows.letterMoreRow = true := by kernel_rfl
theorem Qf : (fun (P : Program) (f : FuncId) (fn : Func) (s : ChangeSpec) (c : OpenClaim) => ((c.plainKeys == P.plainKeys))) Tryz.checked.prog 16 Tryz.f16 (OpenSpec.ofChange Rows.letterMoreSpec).bare Rows.letterMoreRow = true := by kernel_rfl
theorem Qg : (fun (P : Program) (f : FuncId) (fn : Func) (s : ChangeSpec) (c : OpenClaim) => (c.shortTexts.isNone)) Tryz.checked.prog 16 Tryz.f16 (OpenSpec.ofChange Rows.letterMoreSpec).bare Rows.letterMoreRow = true := by kernel_rfl
theorem Qh : (fun (P : Program) (f : FuncId) (fn : Func) (s : ChangeSpec) (c : OpenClaim) => (P.stopsHeard)) Tryz.checked.prog 16 Tryz.f16 (OpenSpec.ofChange Rows.letterMoreSpec).bare Rows.letterMoreRow = true := by kernel_rfl
theorem Qi : (fun (P : Program) (f : FuncId) (fn : Func) (s : ChangeSpec) (c : OpenClaim) => (P.mayEnter)) Tryz.checked.prog 16 Tryz.f16 (OpenSpec.ofChange Rows.letterMoreSpec).bare Rows.letterMoreRow = true := by kernel_rfl
theorem Qj : (fun (P : Program) (f : FuncId) (fn : Func) (s : ChangeSpec) (c : OpenClaim) => ((c.lifted == P.liftsFinal))) Tryz.checked.prog 16 Tryz.f16 (OpenSpec.ofChange Rows.letterMoreSpec).bare Rows.letterMoreRow = true := by kernel_rfl
theorem Qk : (fun (P : Program) (f : FuncId) (fn : Func) (s : ChangeSpec) (c : OpenClaim) => ((P.make == some c.make))) Tryz.checked.prog 16 Tryz.f16 (OpenSpec.ofChange Rows.letterMoreSpec).bare Rows.letterMoreRow = true := by kernel_rfl
theorem Ql : (fun (P : Program) (f : FuncId) (fn : Func) (s : ChangeSpec) (c : OpenClaim) => ((c.kinds == (if c.domain.isEmpty then [] else fn.params.toList.map fun t => match P.underlying t with | some (.int k) => some k | _ => none)))) Tryz.checked.prog 16 Tryz.f16 (OpenSpec.ofChange Rows.letterMoreSpec).bare Rows.letterMoreRow = true := by kernel_rfl
theorem Qm : (fun (P : Program) (f : FuncId) (fn : Func) (s : ChangeSpec) (c : OpenClaim) => ((c.pinned == c.pinnedBy))) Tryz.checked.prog 16 Tryz.f16 (OpenSpec.ofChange Rows.letterMoreSpec).bare Rows.letterMoreRow = true := by kernel_rfl
theorem Qn : (fun (P : Program) (f : FuncId) (fn : Func) (s : ChangeSpec) (c : OpenClaim) => ((c.veiled == (fn.params.toList ++ s.plain.varTypes P ++ fn.resultTypes.toList).any (P.veiledRec ·)))) Tryz.checked.prog 16 Tryz.f16 (OpenSpec.ofChange Rows.letterMoreSpec).bare Rows.letterMoreRow = true := by kernel_rfl
theorem Qo : (fun (P : Program) (f : FuncId) (fn : Func) (s : ChangeSpec) (c : OpenClaim) => (c.veiledFits P fn.params.toList (fn.params.toList ++ s.plain.varTypes P ++ fn.resultTypes.toList))) Tryz.checked.prog 16 Tryz.f16 (OpenSpec.ofChange Rows.letterMoreSpec).bare Rows.letterMoreRow = true := by kernel_rfl

end Go.Proofs.YtclkbhbhohdgbaaGreatDoor.FrLetterMore
