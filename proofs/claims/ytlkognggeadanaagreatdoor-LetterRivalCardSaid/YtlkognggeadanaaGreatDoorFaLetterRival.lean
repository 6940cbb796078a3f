/- Facts on the program that the card of 'LetterRival' asks. -/
import Derived.Test.YtlkognggeadanaaGreatDoorEay
import Derived.Test.YtlkognggeadanaaGreatDoorCards
import Derived.Test.YtlkognggeadanaaGreatDoorTie
import Derived.ProofKit
import Derived.OpenShut
import Derived.Deep.DeepHandedRow
namespace Go.Proofs.YtlkognggeadanaaGreatDoor.FrLetterRival
open Go Go.V Go.RowKit Go.ChangeShapes Go.ChangeAt Go.WideShapes
set_option maxRecDepth 100000
set_option linter.unusedVariables false
theorem jf1 : (fun (P : Program) (f : FuncId) (fn : Func) (s : ChangeSpec) (c : OpenClaim) => (c.wf (OpenSpec.ofChange s))) Tryz.checked.prog 8 Tryz.f8 (OpenSpec.ofChange Rows.letterRivalSpec).bare Rows.letterRivalRow = true := by kernel_rfl
theorem jf2 : (fun (P : Program) (f : FuncId) (fn : Func) (s : ChangeSpec) (c : OpenClaim) => (laidOutB P)) Tryz.checked.prog 8 Tryz.f8 (OpenSpec.ofChange Rows.letterRivalSpec).bare Rows.letterRivalRow = true := by kernel_rfl
theorem jf3 : (fun (P : Program) (f : FuncId) (fn : Func) (s : ChangeSpec) (c : OpenClaim) => (mapsRowed P)) Tryz.checked.prog 8 Tryz.f8 (OpenSpec.ofChange Rows.letterRivalSpec).bare Rows.letterRivalRow = true := by kernel_rfl
theorem jf4 : (fun (P : Program) (f : FuncId) (fn : Func) (s : ChangeSpec) (c : OpenClaim) => (fn.params.all (P.readableRec ·))) Tryz.checked.prog 8 Tryz.f8 (OpenSpec.ofChange Rows.letterRivalSpec).bare Rows.letterRivalRow = true := by kernel_rfl
theorem jf5 : (fun (P : Program) (f : FuncId) (fn : Func) (s : ChangeSpec) (c : OpenClaim) => (namedTie P c.named s.vars)) Tryz.checked.prog 8 Tryz.f8 (OpenSpec.ofChange Rows.letterRivalSpec).bare Rows.letterRivalRow = true := by kernel_rfl
theorem jf6 : (fun (P : Program) (f : FuncId) (fn : Func) (s : ChangeSpec) (c : OpenClaim) => ((c.stops == []))) Tryz.checked.prog 8 Tryz.f8 (OpenSpec.ofChange Rows.letterRivalSpec).bare Rows.letterRivalRow = true := by kernel_rfl
theorem jf7 : (fun (P : Program) (f : FuncId) (fn : Func) (s : ChangeSpec) (c : OpenClaim) => ((P.stops == []))) Tryz.checked.prog 8 Tryz.f8 (OpenSpec.ofChange Rows.letterRivalSpec).bare Rows.letterRivalRow = true := by kernel_rfl
theorem jf8 : (fun (P : Program) (f : FuncId) (fn : Func) (s : ChangeSpec) (c : OpenClaim) => ((c.knobs == []))) Tryz.checked.prog 8 Tryz.f8 (OpenSpec.ofChange Rows.letterRivalSpec).bare Rows.letterRivalRow = true := by kernel_rfl
theorem jf9 : (fun (P : Program) (f : FuncId) (fn : Func) (s : ChangeSpec) (c : OpenClaim) => ((P.stopKnobs == []))) Tryz.checked.prog 8 Tryz.f8 (OpenSpec.ofChange Rows.letterRivalSpec).bare Rows.letterRivalRow = true := by kernel_rfl
theorem jf10 : (fun (P : Program) (f : FuncId) (fn : Func) (s : ChangeSpec) (c : OpenClaim) => ((c.inPlace == P.inPlace f))) Tryz.checked.prog 8 Tryz.f8 (OpenSpec.ofChange Rows.letterRivalSpec).bare Rows.letterRivalRow = true := by kernel_rfl
theorem jf11 : (fun (P : Program) (f : FuncId) (fn : Func) (s : ChangeSpec) (c : OpenClaim) => ((c.unfollowed == P.unfollowed f))) Tryz.checked.prog 8 Tryz.f8 (OpenSpec.ofChange Rows.letterRivalSpec).bare Rows.letterRivalRow = true := by kernel_rfl
theorem jf12 : (fun (P : Program) (f : FuncId) (fn : Func) (s : ChangeSpec) (c : OpenClaim) => ((c.recurses == P.recurses f))) Tryz.checked.prog 8 Tryz.f8 (OpenSpec.ofChange Rows.letterRivalSpec).bare Rows.letterRivalRow = true := by kernel_rfl
theorem jf13 : (fun (P : Program) (f : FuncId) (fn : Func) (s : ChangeSpec) (c : OpenClaim) => ((c.named == P.varsNamed f))) Tryz.checked.prog 8 Tryz.f8 (OpenSpec.ofChange Rows.letterRivalSpec).bare Rows.letterRivalRow = true := by kernel_rfl
theorem jf14 : (fun (P : Program) (f : FuncId) (fn : Func) (s : ChangeSpec) (c : OpenClaim) => ((c.maps == (fn.params.toList ++ s.plain.varTypes P).any (P.mapsRec ·)))) Tryz.checked.prog 8 Tryz.f8 (OpenSpec.ofChange Rows.letterRivalSpec).bare Rows.letterRivalRow = true := by kernel_rfl
theorem jf15 : (fun (P : Program) (f : FuncId) (fn : Func) (s : ChangeSpec) (c : OpenClaim) => ((c.ifaces == (fn.params.toList ++ s.plain.varTypes P).any (P.ifacesRec ·)))) Tryz.checked.prog 8 Tryz.f8 (OpenSpec.ofChange Rows.letterRivalSpec).bare Rows.letterRivalRow = true := by kernel_rfl
theorem jf16 : (fun (P : Program) (f : FuncId) (fn : Func) (s : ChangeSpec) (c : OpenClaim) => ((c.mapsOut == P.mapsAmong fn.resultTypes.toList))) Tryz.checked.prog 8 Tryz.f8 (OpenSpec.ofChange Rows.letterRivalSpec).bare Rows.letterRivalRow = true := by kernel_rfl
theorem jf17 : (fun (P : Program) (f : FuncId) (fn : Func) (s : ChangeSpec) (c : OpenClaim) => ((c.loops == (fn.params.toList ++ s.plain.varTypes P).any (P.loopsFrom ·)))) Tryz.checked.prog 8 Tryz.f8 (OpenSpec.ofChange Rows.letterRivalSpec).bare Rows.letterRivalRow = true := by kernel_rfl
theorem jf18 : (fun (P : Program) (f : FuncId) (fn : Func) (s : ChangeSpec) (c : OpenClaim) => ((c.wideKeys == (fn.params.toList ++ s.plain.varTypes P ++ fn.resultTypes.toList).any (P.wideKeysFrom ·)))) Tryz.checked.prog 8 Tryz.f8 (OpenSpec.ofChange Rows.letterRivalSpec).bare Rows.letterRivalRow = true := by kernel_rfl
theorem jf19 : (fun (P : Program) (f : FuncId) (fn : Func) (s : ChangeSpec) (c : OpenClaim) => (s.vars.all (P.varReadable ·))) Tryz.checked.prog 8 Tryz.f8 (OpenSpec.ofChange Rows.letterRivalSpec).bare Rows.letterRivalRow = true := by kernel_rfl
theorem jf20 : (fun (P : Program) (f : FuncId) (fn : Func) (s : ChangeSpec) (c : OpenClaim) => (fn.resultTypes.all (fun t => P.readableRec t && decide (t < P.types.size)))) Tryz.checked.prog 8 Tryz.f8 (OpenSpec.ofChange Rows.letterRivalSpec).bare Rows.letterRivalRow = true := by kernel_rfl
theorem jf21 : (fun (P : Program) (f : FuncId) (fn : Func) (s : ChangeSpec) (c : OpenClaim) => ((c.ifacesOut == fn.resultTypes.toList.any (P.ifacesRec ·)))) Tryz.checked.prog 8 Tryz.f8 (OpenSpec.ofChange Rows.letterRivalSpec).bare Rows.letterRivalRow = true := by kernel_rfl
theorem jf22 : (fun (P : Program) (f : FuncId) (fn : Func) (s : ChangeSpec) (c : OpenClaim) => ((c.loopsOut == fn.resultTypes.toList.any (P.loopsFrom ·)))) Tryz.checked.prog 8 Tryz.f8 (OpenSpec.ofChange Rows.letterRivalSpec).bare Rows.letterRivalRow = true := by kernel_rfl
theorem jf23 : (fun (P : Program) (f : FuncId) (fn : Func) (s : ChangeSpec) (c : OpenClaim) => ((c.plainKeys == P.plainKeys))) Tryz.checked.prog 8 Tryz.f8 (OpenSpec.ofChange Rows.letterRivalSpec).bare Rows.letterRivalRow = true := by kernel_rfl
theorem jf24 : (fun (P : Program) (f : FuncId) (fn : Func) (s : ChangeSpec) (c : OpenClaim) => (c.shortTexts.isNone)) Tryz.checked.prog 8 Tryz.f8 (OpenSpec.ofChange Rows.letterRivalSpec).bare Rows.letterRivalRow = true := by kernel_rfl
theorem jf25 : (fun (P : Program) (f : FuncId) (fn : Func) (s : ChangeSpec) (c : OpenClaim) => (P.stopsHeard)) Tryz.checked.prog 8 Tryz.f8 (OpenSpec.ofChange Rows.letterRivalSpec).bare Rows.letterRivalRow = true := by kernel_rfl
theorem jf26 : (fun (P : Program) (f : FuncId) (fn : Func) (s : ChangeSpec) (c : OpenClaim) => (P.mayEnter)) Tryz.checked.prog 8 Tryz.f8 (OpenSpec.ofChange Rows.letterRivalSpec).bare Rows.letterRivalRow = true := by kernel_rfl
theorem jf27 : (fun (P : Program) (f : FuncId) (fn : Func) (s : ChangeSpec) (c : OpenClaim) => ((c.lifted == P.liftsFinal))) Tryz.checked.prog 8 Tryz.f8 (OpenSpec.ofChange Rows.letterRivalSpec).bare Rows.letterRivalRow = true := by kernel_rfl
theorem jf28 : (fun (P : Program) (f : FuncId) (fn : Func) (s : ChangeSpec) (c : OpenClaim) => ((P.make == some c.make))) Tryz.checked.prog 8 Tryz.f8 (OpenSpec.ofChange Rows.letterRivalSpec).bare Rows.letterRivalRow = true := by kernel_rfl
theorem jf29 : (fun (P : Program) (f : FuncId) (fn : Func) (s : ChangeSpec) (c : OpenClaim) => ((c.kinds == (if c.domain.isEmpty then [] else fn.params.toList.map fun t => match P.underlying t with | some (.int k) => some k | _ => none)))) Tryz.checked.prog 8 Tryz.f8 (OpenSpec.ofChange Rows.letterRivalSpec).bare Rows.letterRivalRow = true := by kernel_rfl
theorem jf30 : (fun (P : Program) (f : FuncId) (fn : Func) (s : ChangeSpec) (c : OpenClaim) => ((c.pinned == c.pinnedBy))) Tryz.checked.prog 8 Tryz.f8 (OpenSpec.ofChange Rows.letterRivalSpec).bare Rows.letterRivalRow = true := by kernel_rfl
theorem jf31 : (fun (P : Program) (f : FuncId) (fn : Func) (s : ChangeSpec) (c : OpenClaim) => ((c.veiled == (fn.params.toList ++ s.plain.varTypes P ++ fn.resultTypes.toList).any (P.veiledRec ·)))) Tryz.checked.prog 8 Tryz.f8 (OpenSpec.ofChange Rows.letterRivalSpec).bare Rows.letterRivalRow = true := by kernel_rfl
theorem jf32 : (fun (P : Program) (f : FuncId) (fn : Func) (s : ChangeSpec) (c : OpenClaim) => (c.veiledFits P fn.params.toList (fn.params.toList ++ s.plain.varTypes P ++ fn.resultTypes.toList))) Tryz.checked.prog 8 Tryz.f8 (OpenSpec.ofChange Rows.letterRivalSpec).bare Rows.letterRivalRow = true := by kernel_rfl

end Go.Proofs.YtlkognggeadanaaGreatDoor.FrLetterRival
