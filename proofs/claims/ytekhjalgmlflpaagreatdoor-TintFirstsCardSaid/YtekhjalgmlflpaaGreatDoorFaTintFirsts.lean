/- Facts on the program that the card of 'TintFirsts' asks. -/
import Derived.Test.YtekhjalgmlflpaaGreatDoorZaw
import Derived.Test.YtekhjalgmlflpaaGreatDoorCards
import Derived.Test.YtekhjalgmlflpaaGreatDoorTie
import Derived.ProofKit
import Derived.OpenShut
import Derived.Deep.DeepHandedRow
namespace Go.Proofs.YtekhjalgmlflpaaGreatDoor.FrTintFirsts
open Go Go.V Go.RowKit Go.ChangeShapes Go.ChangeAt Go.WideShapes
set_option maxRecDepth 100000
set_option linter.unusedVariables false
theorem TS : (fun (P : Program) (f : FuncId) (fn : Func) (s : ChangeSpec) (c : OpenClaim) => (c.wf (OpenSpec.ofChange s))) Tryz.checked.prog 11 Tryz.f11 (OpenSpec.ofChange Rows.tintFirstsSpec).bare Rows.tintFirstsRow = true := by kernel_rfl
theorem TT : (fun (P : Program) (f : FuncId) (fn : Func) (s : ChangeSpec) (c : OpenClaim) => (laidOutB P)) Tryz.checked.prog 11 Tryz.f11 (OpenSpec.ofChange Rows.tintFirstsSpec).bare Rows.tintFirstsRow = true := by kernel_rfl
theorem TU : (fun (P : Program) (f : FuncId) (fn : Func) (s : ChangeSpec) (c : OpenClaim) => (mapsRowed P)) Tryz.checked.prog 11 Tryz.f11 (OpenSpec.ofChange Rows.tintFirstsSpec).bare Rows.tintFirstsRow = true := by kernel_rfl
theorem TV : (fun (P : Program) (f : FuncId) (fn : Func) (s : ChangeSpec) (c : OpenClaim) => (fn.params.all (P.readableRec ·))) Tryz.checked.prog 11 Tryz.f11 (OpenSpec.ofChange Rows.tintFirstsSpec).bare Rows.tintFirstsRow = true := by kernel_rfl
theorem TW : (fun (P : Program) (f : FuncId) (fn : Func) (s : ChangeSpec) (c : OpenClaim) => (namedTie P c.named s.vars)) Tryz.checked.prog 11 Tryz.f11 (OpenSpec.ofChange Rows.tintFirstsSpec).bare Rows.tintFirstsRow = true := by kernel_rfl
theorem TX : (fun (P : Program) (f : FuncId) (fn : Func) (s : ChangeSpec) (c : OpenClaim) => ((c.stops == []))) Tryz.checked.prog 11 Tryz.f11 (OpenSpec.ofChange Rows.tintFirstsSpec).bare Rows.tintFirstsRow = true := by kernel_rfl
theorem TY : (fun (P : Program) (f : FuncId) (fn : Func) (s : ChangeSpec) (c : OpenClaim) => ((P.stops == []))) Tryz.checked.prog 11 Tryz.f11 (OpenSpec.ofChange Rows.tintFirstsSpec).bare Rows.tintFirstsRow = true := by kernel_rfl
theorem TZ : (fun (P : Program) (f : FuncId) (fn : Func) (s : ChangeSpec) (c : OpenClaim) => ((c.knobs == []))) Tryz.checked.prog 11 Tryz.f11 (OpenSpec.ofChange Rows.tintFirstsSpec).bare Rows.tintFirstsRow = true := by kernel_rfl
theorem Ua : (fun (P : Program) (f : FuncId) (fn : Func) (s : ChangeSpec) (c : OpenClaim) => ((P.stopKnobs == []))) Tryz.checked.prog 11 Tryz.f11 (OpenSpec.ofChange Rows.tintFirstsSpec).bare Rows.tintFirstsRow = true := by kernel_rfl
theorem DB : (fun (P : Program) (f : FuncId) (fn : Func) (s : ChangeSpec) (c : OpenClaim) => ((c.inPlace == P.inPlace f))) Tryz.checked.prog 11 Tryz.f11 (OpenSpec.ofChange Rows.tintFirstsSpec).bare Rows.tintFirstsRow = true := by kernel_rfl
theorem DC : (fun (P : Program) (f : FuncId) (fn : Func) (s : ChangeSpec) (c : OpenClaim) => ((c.unfollowed == P.unfollowed f))) Tryz.checked.prog 11 Tryz.f11 (OpenSpec.ofChange Rows.tintFirstsSpec).bare Rows.tintFirstsRow = true := by kernel_rfl
theorem DD : (fun (P : Program) (f : FuncId) (fn : Func) (s : ChangeSpec) (c : OpenClaim) => ((c.recurses == P.recurses f))) Tryz.checked.prog 11 Tryz.f11 (OpenSpec.ofChange Rows.tintFirstsSpec).bare Rows.tintFirstsRow = true := by kernel_rfl
theorem DE : (fun (P : Program) (f : FuncId) (fn : Func) (s : ChangeSpec) (c : OpenClaim) => ((c.named == P.varsNamed f))) Tryz.checked.prog 11 Tryz.f11 (OpenSpec.ofChange Rows.tintFirstsSpec).bare Rows.tintFirstsRow = true := by kernel_rfl
theorem DF : (fun (P : Program) (f : FuncId) (fn : Func) (s : ChangeSpec) (c : OpenClaim) => ((c.maps == (fn.params.toList ++ s.plain.varTypes P).any (P.mapsRec ·)))) Tryz.checked.prog 11 Tryz.f11 (OpenSpec.ofChange Rows.tintFirstsSpec).bare Rows.tintFirstsRow = true := by kernel_rfl
theorem DG : (fun (P : Program) (f : FuncId) (fn : Func) (s : ChangeSpec) (c : OpenClaim) => ((c.ifaces == (fn.params.toList ++ s.plain.varTypes P).any (P.ifacesRec ·)))) Tryz.checked.prog 11 Tryz.f11 (OpenSpec.ofChange Rows.tintFirstsSpec).bare Rows.tintFirstsRow = true := by kernel_rfl
theorem DH : (fun (P : Program) (f : FuncId) (fn : Func) (s : ChangeSpec) (c : OpenClaim) => ((c.mapsOut == P.mapsAmong fn.resultTypes.toList))) Tryz.checked.prog 11 Tryz.f11 (OpenSpec.ofChange Rows.tintFirstsSpec).bare Rows.tintFirstsRow = true := by kernel_rfl
theorem DI : (fun (P : Program) (f : FuncId) (fn : Func) (s : ChangeSpec) (c : OpenClaim) => ((c.loops == (fn.params.toList ++ s.plain.varTypes P).any (P.loopsFrom ·)))) Tryz.checked.prog 11 Tryz.f11 (OpenSpec.ofChange Rows.tintFirstsSpec).bare Rows.tintFirstsRow = true := by kernel_rfl
theorem DJ : (fun (P : Program) (f : FuncId) (fn : Func) (s : ChangeSpec) (c : OpenClaim) => ((c.wideKeys == (fn.params.toList ++ s.plain.varTypes P ++ fn.resultTypes.toList).any (P.wideKeysFrom ·)))) Tryz.checked.prog 11 Tryz.f11 (OpenSpec.ofChange Rows.tintFirstsSpec).bare Rows.tintFirstsRow = true := by kernel_rfl
theorem DK : (fun (P : Program) (f : FuncId) (fn : Func) (s : ChangeSpec) (c : OpenClaim) => (s.vars.all (P.varReadable ·))) Tryz.checked.prog 11 Tryz.f11 (OpenSpec.ofChange Rows.tintFirstsSpec).bare Rows.tintFirstsRow = true := by kernel_rfl
theorem DL : (fun (P : Program) (f : FuncId) (fn : Func) (s : ChangeSpec) (c : OpenClaim) => (fn.resultTypes.all (fun t => P.readableRec t && decide (t < P.types.size)))) Tryz.checked.prog 11 Tryz.f11 (OpenSpec.ofChange Rows.tintFirstsSpec).bare Rows.tintFirstsRow = true := by kernel_rfl
theorem DM : (fun (P : Program) (f : FuncId) (fn : Func) (s : ChangeSpec) (c : OpenClaim) => ((c.ifacesOut == fn.resultTypes.toList.any (P.ifacesRec ·)))) Tryz.checked.prog 11 Tryz.f11 (OpenSpec.ofChange Rows.tintFirstsSpec).bare Rows.tintFirstsRow = true := by kernel_rfl
theorem DN : (fun (P : Program) (f : FuncId) (fn : Func) (s : ChangeSpec) (c : OpenClaim) => ((c.loopsOut == fn.resultTypes.toList.any (P.loopsFrom ·)))) Tryz.checked.prog 11 Tryz.f11 (OpenSpec.ofChange Rows.tintFirstsSpec).bare Rows.tintFirstsRow = true := by kernel_rfl
theorem DO : (fun (P : Program) (f : FuncId) (fn : Func) (s : ChangeSpec) (c : OpenClaim) => ((c.plainKeys == P.plainKeys))) Tryz.checked.prog 11 Tryz.f11 (OpenSpec.ofChange Rows.tintFirstsSpec).bare Rows.tintFirstsRow = true := by kernel_rfl
theorem DP : (fun (P : Program) (f : FuncId) (fn : Func) (s : ChangeSpec) (c : OpenClaim) => (c.shortTexts.isNone)) Tryz.checked.prog 11 Tryz.f11 (OpenSpec.ofChange Rows.tintFirstsSpec).bare Rows.tintFirstsRow = true := by kernel_rfl
theorem DQ : (fun (P : Program) (f : FuncId) (fn : Func) (s : ChangeSpec) (c : OpenClaim) => (P.stopsHeard)) Tryz.checked.prog 11 Tryz.f11 (OpenSpec.ofChange Rows.tintFirstsSpec).bare Rows.tintFirstsRow = true := by kernel_rfl
theorem DS : (fun (P : Program) (f : FuncId) (fn : Func) (s : ChangeSpec) (c : OpenClaim) => (P.mayEnter)) Tryz.checked.prog 11 Tryz.f11 (OpenSpec.ofChange Rows.tintFirstsSpec).bare Rows.tintFirstsRow = true := by kernel_rfl
theorem DT : (fun (P : Program) (f : FuncId) (fn : Func) (s : ChangeSpec) (c : OpenClaim) => ((c.lifted == P.liftsFinal))) Tryz.checked.prog 11 Tryz.f11 (OpenSpec.ofChange Rows.tintFirstsSpec).bare Rows.tintFirstsRow = true := by kernel_rfl
theorem DU : (fun (P : Program) (f : FuncId) (fn : Func) (s : ChangeSpec) (c : OpenClaim) => ((P.make == some c.make))) Tryz.checked.prog 11 Tryz.f11 (OpenSpec.ofChange Rows.tintFirstsSpec).bare Rows.tintFirstsRow = true := by kernel_rfl
theorem DV : (fun (P : Program) (f : FuncId) (fn : Func) (s : ChangeSpec) (c : OpenClaim) => ((c.kinds == (if c.domain.isEmpty then [] else fn.params.toList.map fun t => match P.underlying t with | some (.int k) => some k | _ => none)))) Tryz.checked.prog 11 Tryz.f11 (OpenSpec.ofChange Rows.tintFirstsSpec).bare Rows.tintFirstsRow = true := by kernel_rfl
theorem DW : (fun (P : Program) (f : FuncId) (fn : Func) (s : ChangeSpec) (c : OpenClaim) => ((c.pinned == c.pinnedBy))) Tryz.checked.prog 11 Tryz.f11 (OpenSpec.ofChange Rows.tintFirstsSpec).bare Rows.tintFirstsRow = true := by kernel_rfl
theorem DX : (fun (P : Program) (f : FuncId) (fn : Func) (s : ChangeSpec) (c : OpenClaim) => ((c.veiled == (fn.params.toList ++ s.plain.varTypes P ++ fn.resultTypes.toList).any (P.veiledRec ·)))) Tryz.checked.prog 11 Tryz.f11 (OpenSpec.ofChange Rows.tintFirstsSpec).bare Rows.tintFirstsRow = true := by kernel_rfl
theorem DY : (fun (P : Program) (f : FuncId) (fn : Func) (s : ChangeSpec) (c : OpenClaim) => (c.veiledFits P fn.params.toList (fn.params.toList ++ s.plain.varTypes P ++ fn.resultTypes.toList))) Tryz.checked.prog 11 Tryz.f11 (OpenSpec.ofChange Rows.tintFirstsSpec).bare Rows.tintFirstsRow = true := by kernel_rfl

end Go.Proofs.YtekhjalgmlflpaaGreatDoor.FrTintFirsts
