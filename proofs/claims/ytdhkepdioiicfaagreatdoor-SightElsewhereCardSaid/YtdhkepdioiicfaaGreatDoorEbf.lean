/- Part of a proof: a logic of values by content, lifted functions, what follows. -/
import Derived.Test.YtdhkepdioiicfaaGreatDoorEbe
import Derived.Test.YtdhkepdioiicfaaGreatDoorProg
set_option linter.all false
set_option maxRecDepth 4000
set_option maxHeartbeats 4000000
section
namespace Go.V
open Go Go.Proofs
def G0 : Glob := ⟨fun _ => none, some none⟩
theorem mixed : Tryz.prog.follows .mixedOrders = true := by kernel_rfl
structure GSpan where
 Low : Int
 High : Int
 deriving Inhabited, DecidableEq
def cGSpan (x : GSpan) : List VV := [.lit (.int .i64 x.Low), .lit (.int .i64 x.High)]
theorem cGSpan_eq {x : GSpan} : cGSpan x = [.lit (.int .i64 x.Low), .lit (.int .i64 x.High)] := rfl
theorem cGSpan_ok : EncOk cGSpan := EncOk.of (fun x => by simp only [cGSpan_eq, tre, Bool.and_self]) (fun x => by simp only [cGSpan_eq, nrm]) (fun x H d => by simp only [cGSpan_eq, nrm, List.map_cons, List.map_nil])
structure GSightLetter where
 Height : Int
 Width : Int
 Stroke : Int
 Space : Int
 deriving Inhabited, DecidableEq
def cGSightLetter (x : GSightLetter) : List VV := [.lit (.int .i64 x.Height), .lit (.int .i64 x.Width), .lit (.int .i64 x.Stroke), .lit (.int .i64 x.Space)]
theorem cGSightLetter_eq {x : GSightLetter} : cGSightLetter x = [.lit (.int .i64 x.Height), .lit (.int .i64 x.Width), .lit (.int .i64 x.Stroke), .lit (.int .i64 x.Space)] := rfl
theorem cGSightLetter_ok : EncOk cGSightLetter := EncOk.of (fun x => by simp only [cGSightLetter_eq, tre, cGSpan_ok.tree, cGSpan_ok.treeL, Bool.and_self]) (fun x => by simp only [cGSightLetter_eq, nrm, cGSpan_ok.norm, cGSpan_ok.normL, cGSpan_ok.shown, cGSpan_ok.showL]) (fun x H d => by simp only [cGSightLetter_eq, nrm, List.map_cons, List.map_nil])
structure GSightBoard where
 At : Int
 Letters : List GSightLetter
 deriving Inhabited, DecidableEq
def cGSightBoard (x : GSightBoard) : List VV := [.lit (.int .i64 x.At), .sl (cellsL cGSightLetter x.Letters) (List.length x.Letters) false]
theorem cGSightBoard_eq {x : GSightBoard} : cGSightBoard x = [.lit (.int .i64 x.At), .sl (cellsL cGSightLetter x.Letters) (List.length x.Letters) false] := rfl
theorem cGSightBoard_ok : EncOk cGSightBoard := EncOk.of (fun x => by simp only [cGSightBoard_eq, tre, cGSpan_ok.tree, cGSpan_ok.treeL, cGSightLetter_ok.tree, cGSightLetter_ok.treeL, Bool.and_self]) (fun x => by simp only [cGSightBoard_eq, nrm, cGSpan_ok.norm, cGSpan_ok.normL, cGSpan_ok.shown, cGSpan_ok.showL, cGSightLetter_ok.norm, cGSightLetter_ok.normL, cGSightLetter_ok.shown, cGSightLetter_ok.showL]) (fun x H d => by simp only [cGSightBoard_eq, nrm, List.map_cons, List.map_nil])
structure GSightBlock where
 Along : GSpan
 Across : GSpan
 Sure : Bool
 deriving Inhabited, DecidableEq
def cGSightBlock (x : GSightBlock) : List VV := [.lit (.int .i64 x.Along.Low), .lit (.int .i64 x.Along.High), .lit (.int .i64 x.Across.Low), .lit (.int .i64 x.Across.High), .lit (.bool x.Sure)]
theorem cGSightBlock_eq {x : GSightBlock} : cGSightBlock x = [.lit (.int .i64 x.Along.Low), .lit (.int .i64 x.Along.High), .lit (.int .i64 x.Across.Low), .lit (.int .i64 x.Across.High), .lit (.bool x.Sure)] := rfl
theorem cGSightBlock_ok : EncOk cGSightBlock := EncOk.of (fun x => by simp only [cGSightBlock_eq, tre, cGSpan_ok.tree, cGSpan_ok.treeL, cGSightLetter_ok.tree, cGSightLetter_ok.treeL, cGSightBoard_ok.tree, cGSightBoard_ok.treeL, Bool.and_self]) (fun x => by simp only [cGSightBlock_eq, nrm, cGSpan_ok.norm, cGSpan_ok.normL, cGSpan_ok.shown, cGSpan_ok.showL, cGSightLetter_ok.norm, cGSightLetter_ok.normL, cGSightLetter_ok.shown, cGSightLetter_ok.showL, cGSightBoard_ok.norm, cGSightBoard_ok.normL, cGSightBoard_ok.shown, cGSightBoard_ok.showL]) (fun x H d => by simp only [cGSightBlock_eq, nrm, List.map_cons, List.map_nil])
structure GSightStreet where
 Length : Int
 Width : Int
 Eye : GSpan
 Light : GSpan
 Boards : List GSightBoard
 Blocks : List GSightBlock
 deriving Inhabited, DecidableEq
def cGSightStreet (x : GSightStreet) : List VV := [.lit (.int .i64 x.Length), .lit (.int .i64 x.Width), .lit (.int .i64 x.Eye.Low), .lit (.int .i64 x.Eye.High), .lit (.int .i64 x.Light.Low), .lit (.int .i64 x.Light.High), .sl (cellsL cGSightBoard x.Boards) (List.length x.Boards) false, .sl (cellsL cGSightBlock x.Blocks) (List.length x.Blocks) false]
theorem cGSightStreet_eq {x : GSightStreet} : cGSightStreet x = [.lit (.int .i64 x.Length), .lit (.int .i64 x.Width), .lit (.int .i64 x.Eye.Low), .lit (.int .i64 x.Eye.High), .lit (.int .i64 x.Light.Low), .lit (.int .i64 x.Light.High), .sl (cellsL cGSightBoard x.Boards) (List.length x.Boards) false, .sl (cellsL cGSightBlock x.Blocks) (List.length x.Blocks) false] := rfl
theorem cGSightStreet_ok : EncOk cGSightStreet := EncOk.of (fun x => by simp only [cGSightStreet_eq, tre, cGSpan_ok.tree, cGSpan_ok.treeL, cGSightLetter_ok.tree, cGSightLetter_ok.treeL, cGSightBoard_ok.tree, cGSightBoard_ok.treeL, cGSightBlock_ok.tree, cGSightBlock_ok.treeL, Bool.and_self]) (fun x => by simp only [cGSightStreet_eq, nrm, cGSpan_ok.norm, cGSpan_ok.normL, cGSpan_ok.shown, cGSpan_ok.showL, cGSightLetter_ok.norm, cGSightLetter_ok.normL, cGSightLetter_ok.shown, cGSightLetter_ok.showL, cGSightBoard_ok.norm, cGSightBoard_ok.normL, cGSightBoard_ok.shown, cGSightBoard_ok.showL, cGSightBlock_ok.norm, cGSightBlock_ok.normL, cGSightBlock_ok.shown, cGSightBlock_ok.showL]) (fun x H d => by simp only [cGSightStreet_eq, nrm, List.map_cons, List.map_nil])
structure GSightPlace where
 Along : Int
 Across : Int
 deriving Inhabited, DecidableEq
def cGSightPlace (x : GSightPlace) : List VV := [.lit (.int .i64 x.Along), .lit (.int .i64 x.Across)]
theorem cGSightPlace_eq {x : GSightPlace} : cGSightPlace x = [.lit (.int .i64 x.Along), .lit (.int .i64 x.Across)] := rfl
theorem cGSightPlace_ok : EncOk cGSightPlace := EncOk.of (fun x => by simp only [cGSightPlace_eq, tre, cGSpan_ok.tree, cGSpan_ok.treeL, cGSightLetter_ok.tree, cGSightLetter_ok.treeL, cGSightBoard_ok.tree, cGSightBoard_ok.treeL, cGSightBlock_ok.tree, cGSightBlock_ok.treeL, cGSightStreet_ok.tree, cGSightStreet_ok.treeL, Bool.and_self]) (fun x => by simp only [cGSightPlace_eq, nrm, cGSpan_ok.norm, cGSpan_ok.normL, cGSpan_ok.shown, cGSpan_ok.showL, cGSightLetter_ok.norm, cGSightLetter_ok.normL, cGSightLetter_ok.shown, cGSightLetter_ok.showL, cGSightBoard_ok.norm, cGSightBoard_ok.normL, cGSightBoard_ok.shown, cGSightBoard_ok.showL, cGSightBlock_ok.norm, cGSightBlock_ok.normL, cGSightBlock_ok.shown, cGSightBlock_ok.showL, cGSightStreet_ok.norm, cGSightStreet_ok.normL, cGSightStreet_ok.shown, cGSightStreet_ok.showL]) (fun x H d => by simp only [cGSightPlace_eq, nrm, List.map_cons, List.map_nil])
structure GSightFault where
 Kind : Int
 Number : Int
 deriving Inhabited, DecidableEq
def cGSightFault (x : GSightFault) : List VV := [.lit (.int .i64 x.Kind), .lit (.int .i64 x.Number)]
theorem cGSightFault_eq {x : GSightFault} : cGSightFault x = [.lit (.int .i64 x.Kind), .lit (.int .i64 x.Number)] := rfl
theorem cGSightFault_ok : EncOk cGSightFault := EncOk.of (fun x => by simp only [cGSightFault_eq, tre, cGSpan_ok.tree, cGSpan_ok.treeL, cGSightLetter_ok.tree, cGSightLetter_ok.treeL, cGSightBoard_ok.tree, cGSightBoard_ok.treeL, cGSightBlock_ok.tree, cGSightBlock_ok.treeL, cGSightStreet_ok.tree, cGSightStreet_ok.treeL, cGSightPlace_ok.tree, cGSightPlace_ok.treeL, Bool.and_self]) (fun x => by simp only [cGSightFault_eq, nrm, cGSpan_ok.norm, cGSpan_ok.normL, cGSpan_ok.shown, cGSpan_ok.showL, cGSightLetter_ok.norm, cGSightLetter_ok.normL, cGSightLetter_ok.shown, cGSightLetter_ok.showL, cGSightBoard_ok.norm, cGSightBoard_ok.normL, cGSightBoard_ok.shown, cGSightBoard_ok.showL, cGSightBlock_ok.norm, cGSightBlock_ok.normL, cGSightBlock_ok.shown, cGSightBlock_ok.showL, cGSightStreet_ok.norm, cGSightStreet_ok.normL, cGSightStreet_ok.shown, cGSightStreet_ok.showL, cGSightPlace_ok.norm, cGSightPlace_ok.normL, cGSightPlace_ok.shown, cGSightPlace_ok.showL]) (fun x H d => by simp only [cGSightFault_eq, nrm, List.map_cons, List.map_nil])
structure Gsightview where
 SightStreet : GSightStreet
 SightPlace : GSightPlace
 board : GSightBoard
 power : Int
 deriving Inhabited, DecidableEq
def cGsightview (x : Gsightview) : List VV := [.lit (.int .i64 x.SightStreet.Length), .lit (.int .i64 x.SightStreet.Width), .lit (.int .i64 x.SightStreet.Eye.Low), .lit (.int .i64 x.SightStreet.Eye.High), .lit (.int .i64 x.SightStreet.Light.Low), .lit (.int .i64 x.SightStreet.Light.High), .sl (cellsL cGSightBoard x.SightStreet.Boards) (List.length x.SightStreet.Boards) false, .sl (cellsL cGSightBlock x.SightStreet.Blocks) (List.length x.SightStreet.Blocks) false, .lit (.int .i64 x.SightPlace.Along), .lit (.int .i64 x.SightPlace.Across), .lit (.int .i64 x.board.At), .sl (cellsL cGSightLetter x.board.Letters) (List.length x.board.Letters) false, .lit (.int .i64 x.power)]
theorem cGsightview_eq {x : Gsightview} : cGsightview x = [.lit (.int .i64 x.SightStreet.Length), .lit (.int .i64 x.SightStreet.Width), .lit (.int .i64 x.SightStreet.Eye.Low), .lit (.int .i64 x.SightStreet.Eye.High), .lit (.int .i64 x.SightStreet.Light.Low), .lit (.int .i64 x.SightStreet.Light.High), .sl (cellsL cGSightBoard x.SightStreet.Boards) (List.length x.SightStreet.Boards) false, .sl (cellsL cGSightBlock x.SightStreet.Blocks) (List.length x.SightStreet.Blocks) false, .lit (.int .i64 x.SightPlace.Along), .lit (.int .i64 x.SightPlace.Across), .lit (.int .i64 x.board.At), .sl (cellsL cGSightLetter x.board.Letters) (List.length x.board.Letters) false, .lit (.int .i64 x.power)] := rfl
theorem cGsightview_ok : EncOk cGsightview := EncOk.of (fun x => by simp only [cGsightview_eq, tre, cGSpan_ok.tree, cGSpan_ok.treeL, cGSightLetter_ok.tree, cGSightLetter_ok.treeL, cGSightBoard_ok.tree, cGSightBoard_ok.treeL, cGSightBlock_ok.tree, cGSightBlock_ok.treeL, cGSightStreet_ok.tree, cGSightStreet_ok.treeL, cGSightPlace_ok.tree, cGSightPlace_ok.treeL, cGSightFault_ok.tree, cGSightFault_ok.treeL, Bool.and_self]) (fun x => by simp only [cGsightview_eq, nrm, cGSpan_ok.norm, cGSpan_ok.normL, cGSpan_ok.shown, cGSpan_ok.showL, cGSightLetter_ok.norm, cGSightLetter_ok.normL, cGSightLetter_ok.shown, cGSightLetter_ok.showL, cGSightBoard_ok.norm, cGSightBoard_ok.normL, cGSightBoard_ok.shown, cGSightBoard_ok.showL, cGSightBlock_ok.norm, cGSightBlock_ok.normL, cGSightBlock_ok.shown, cGSightBlock_ok.showL, cGSightStreet_ok.norm, cGSightStreet_ok.normL, cGSightStreet_ok.shown, cGSightStreet_ok.showL, cGSightPlace_ok.norm, cGSightPlace_ok.normL, cGSightPlace_ok.shown, cGSightPlace_ok.showL, cGSightFault_ok.norm, cGSightFault_ok.normL, cGSightFault_ok.shown, cGSightFault_ok.showL]) (fun x H d => by simp only [cGsightview_eq, nrm, List.map_cons, List.map_nil])
structure Gsighthanging where
 at_ : Int
 places : Int
 deriving Inhabited, DecidableEq
def cGsighthanging (x : Gsighthanging) : List VV := [.lit (.int .i64 x.at_), .lit (.int .i64 x.places)]
theorem cGsighthanging_eq {x : Gsighthanging} : cGsighthanging x = [.lit (.int .i64 x.at_), .lit (.int .i64 x.places)] := rfl
theorem cGsighthanging_ok : EncOk cGsighthanging := EncOk.of (fun x => by simp only [cGsighthanging_eq, tre, cGSpan_ok.tree, cGSpan_ok.treeL, cGSightLetter_ok.tree, cGSightLetter_ok.treeL, cGSightBoard_ok.tree, cGSightBoard_ok.treeL, cGSightBlock_ok.tree, cGSightBlock_ok.treeL, cGSightStreet_ok.tree, cGSightStreet_ok.treeL, cGSightPlace_ok.tree, cGSightPlace_ok.treeL, cGSightFault_ok.tree, cGSightFault_ok.treeL, cGsightview_ok.tree, cGsightview_ok.treeL, Bool.and_self]) (fun x => by simp only [cGsighthanging_eq, nrm, cGSpan_ok.norm, cGSpan_ok.normL, cGSpan_ok.shown, cGSpan_ok.showL, cGSightLetter_ok.norm, cGSightLetter_ok.normL, cGSightLetter_ok.shown, cGSightLetter_ok.showL, cGSightBoard_ok.norm, cGSightBoard_ok.normL, cGSightBoard_ok.shown, cGSightBoard_ok.showL, cGSightBlock_ok.norm, cGSightBlock_ok.normL, cGSightBlock_ok.shown, cGSightBlock_ok.showL, cGSightStreet_ok.norm, cGSightStreet_ok.normL, cGSightStreet_ok.shown, cGSightStreet_ok.showL, cGSightPlace_ok.norm, cGSightPlace_ok.normL, cGSightPlace_ok.shown, cGSightPlace_ok.showL, cGSightFault_ok.norm, cGSightFault_ok.normL, cGSightFault_ok.shown, cGSightFault_ok.showL, cGsightview_ok.norm, cGsightview_ok.normL, cGsightview_ok.shown, cGsightview_ok.showL]) (fun x H d => by simp only [cGsighthanging_eq, nrm, List.map_cons, List.map_nil])
structure Gsightfault where
 SightFault : GSightFault
 deriving Inhabited, DecidableEq
def cGsightfault (x : Gsightfault) : List VV := [.lit (.int .i64 x.SightFault.Kind), .lit (.int .i64 x.SightFault.Number)]
theorem cGsightfault_eq {x : Gsightfault} : cGsightfault x = [.lit (.int .i64 x.SightFault.Kind), .lit (.int .i64 x.SightFault.Number)] := rfl
theorem cGsightfault_ok : EncOk cGsightfault := EncOk.of (fun x => by simp only [cGsightfault_eq, tre, cGSpan_ok.tree, cGSpan_ok.treeL, cGSightLetter_ok.tree, cGSightLetter_ok.treeL, cGSightBoard_ok.tree, cGSightBoard_ok.treeL, cGSightBlock_ok.tree, cGSightBlock_ok.treeL, cGSightStreet_ok.tree, cGSightStreet_ok.treeL, cGSightPlace_ok.tree, cGSightPlace_ok.treeL, cGSightFault_ok.tree, cGSightFault_ok.treeL, cGsightview_ok.tree, cGsightview_ok.treeL, cGsighthanging_ok.tree, cGsighthanging_ok.treeL, Bool.and_self]) (fun x => by simp only [cGsightfault_eq, nrm, cGSpan_ok.norm, cGSpan_ok.normL, cGSpan_ok.shown, cGSpan_ok.showL, cGSightLetter_ok.norm, cGSightLetter_ok.normL, cGSightLetter_ok.shown, cGSightLetter_ok.showL, cGSightBoard_ok.norm, cGSightBoard_ok.normL, cGSightBoard_ok.shown, cGSightBoard_ok.showL, cGSightBlock_ok.norm, cGSightBlock_ok.normL, cGSightBlock_ok.shown, cGSightBlock_ok.showL, cGSightStreet_ok.norm, cGSightStreet_ok.normL, cGSightStreet_ok.shown, cGSightStreet_ok.showL, cGSightPlace_ok.norm, cGSightPlace_ok.normL, cGSightPlace_ok.shown, cGSightPlace_ok.showL, cGSightFault_ok.norm, cGSightFault_ok.normL, cGSightFault_ok.shown, cGSightFault_ok.showL, cGsightview_ok.norm, cGsightview_ok.normL, cGsightview_ok.shown, cGsightview_ok.showL, cGsighthanging_ok.norm, cGsighthanging_ok.normL, cGsighthanging_ok.shown, cGsighthanging_ok.showL]) (fun x H d => by simp only [cGsightfault_eq, nrm, List.map_cons, List.map_nil])
theorem ld2 {c : VV} {cs : List VV} : vload Tryz.prog 2 (c :: cs) = some c := by
 have h1 : aggT Tryz.prog 2 = some false := by kernel_rfl
 simp [vload, vpart, h1]
theorem sz2 : szT Tryz.prog 2 = some 1 := by kernel_rfl
theorem vzl2 : vzl Tryz.prog 2 = some [.lit (.int .i64 0)] := by kernel_rfl
theorem ld3 {c : VV} {cs : List VV} : vload Tryz.prog 3 (c :: cs) = some c := by
 have h1 : aggT Tryz.prog 3 = some false := by kernel_rfl
 simp [vload, vpart, h1]
theorem sz3 : szT Tryz.prog 3 = some 1 := by kernel_rfl
theorem vzl3 : vzl Tryz.prog 3 = some [.lit (.int .i64 0)] := by kernel_rfl
theorem ld4 {c : VV} {cs : List VV} : vload Tryz.prog 4 (c :: cs) = some c := by
 have h1 : aggT Tryz.prog 4 = some false := by kernel_rfl
 simp [vload, vpart, h1]
theorem sz4 : szT Tryz.prog 4 = some 1 := by kernel_rfl
theorem vzl4 : vzl Tryz.prog 4 = some [.lit (.bool false)] := by kernel_rfl
theorem ld9 {c : VV} {cs : List VV} : vload Tryz.prog 9 (c :: cs) = some c := by
 have h1 : aggT Tryz.prog 9 = some false := by kernel_rfl
 simp [vload, vpart, h1]
theorem sz9 : szT Tryz.prog 9 = some 1 := by kernel_rfl
theorem vzl9 : vzl Tryz.prog 9 = some [.lit (.string ⟨#[]⟩)] := by kernel_rfl
theorem ld23 {c0 c1 : VV} {cs : List VV} : vload Tryz.prog 23 (c0 :: c1 :: cs) = some (.agg [c0, c1]) := by
 have h1 : aggT Tryz.prog 23 = some true := by kernel_rfl
 have h2 : szT Tryz.prog 23 = some 2 := by kernel_rfl
 simp [vload, vpart, h1, h2]
theorem sz23 : szT Tryz.prog 23 = some 2 := by kernel_rfl
theorem vzl23 : vzl Tryz.prog 23 = some [.lit (.int .i64 0), .lit (.int .i64 0)] := by kernel_rfl
theorem fa23_0 {H : Nat → Option VObj} {cs : List VV} : vfieldAddr Tryz.prog H 23 (.tp cs) 0 = some (.tp (cs.drop 0)) := by
 have h2 : szT Tryz.prog 3 = some 1 := by kernel_rfl
 simp [vfieldAddr, Tryz.underlying23, h2]
theorem fp23_0 {H : Nat → Option VObj} {β o : Nat} : vfieldAddr Tryz.prog H 23 (.ptr β o) 0 = if (H β).isSome = true then some (.ptr β (o + 0)) else none := by
 have h2 : szT Tryz.prog 3 = some 1 := by kernel_rfl
 simp [vfieldAddr, Tryz.underlying23, h2]
theorem fa23_1 {H : Nat → Option VObj} {cs : List VV} : vfieldAddr Tryz.prog H 23 (.tp cs) 1 = some (.tp (cs.drop 1)) := by
 have h2 : szT Tryz.prog 3 = some 1 := by kernel_rfl
 simp [vfieldAddr, Tryz.underlying23, h2]
theorem fp23_1 {H : Nat → Option VObj} {β o : Nat} : vfieldAddr Tryz.prog H 23 (.ptr β o) 1 = if (H β).isSome = true then some (.ptr β (o + 1)) else none := by
 have h2 : szT Tryz.prog 3 = some 1 := by kernel_rfl
 simp [vfieldAddr, Tryz.underlying23, h2]
theorem ld24 {c : VV} {cs : List VV} : vload Tryz.prog 24 (c :: cs) = some c := by
 have h1 : aggT Tryz.prog 24 = some false := by kernel_rfl
 simp [vload, vpart, h1]
theorem sz24 : szT Tryz.prog 24 = some 1 := by kernel_rfl
theorem vzl24 : vzl Tryz.prog 24 = some [.lit (.slice none 0 0)] := by kernel_rfl
theorem len24 {H : Nat → Option VObj} {cs : List VV} {n : Nat} {f : Bool} : vlen Tryz.prog H 24 (.sl cs n f) = some (.lit (.int .i64 n)) := by simp [vlen, Tryz.underlying24, sls]
theorem lenN24 {H : Nat → Option VObj} : vlen Tryz.prog H 24 (.lit (.slice none 0 0)) = some (.lit (.int .i64 0)) := by simp [vlen, Tryz.underlying24, sls]
theorem lenR24 {H : Nat → Option VObj} {β off n w c : Nat} : vlen Tryz.prog H 24 (.ref β off n w c) = (match H β with | some (.cells _ cs) => if off ≤ cs.length then some (.lit (.int .i64 n)) else none | _ => none) := lenR Tryz.underlying24
theorem et24 : elemT Tryz.prog 24 = some 40 := by simp [elemT, Tryz.underlying24]
theorem ao24 : appOk Tryz.prog 24 = some (40, 2, 32) := by kernel_rfl
theorem tk24 {xs : List GSightBoard} : (cellsL cGSightBoard xs).take (xs.length * 2) = cellsL cGSightBoard xs := take_cells (fun _ => rfl)
theorem lf24 : ∀ x : GSightBoard, leafL (cGSightBoard x) = true := fun x => by simp only [eI_eq, eU8_eq, eB_eq, eS_eq, eSl_eq, cGSightBoard_eq, leafL_nil, leafL_cons, leaf_int, leaf_bool, leaf_string, leaf_slice, leaf_sl, Bool.and_self]
theorem ixo24 {xs : List GSightBoard} {x : GSightBoard} {i : Int} (h : getI xs i = some x) : (∀ (H : Nat → Option VObj) (β c : Nat) (k : IntKind), vindexAddr Tryz.prog H 24 (.ref β 0 xs.length 2 c) (.lit (.int k i)) = if (H β).isSome = true then some (.ptr β (i.toNat * 2)) else none) ∧ (cellsL cGSightBoard xs).drop (i.toNat * 2) = cGSightBoard x ++ cellsL cGSightBoard (xs.drop (i.toNat + 1)) ∧ (i.toNat * 2 ≤ (cellsL cGSightBoard xs).length) = True := ixO Tryz.underlying24 (by kernel_rfl : szT Tryz.prog 40 = some 2) (fun _ => rfl) h
theorem bs24_1 {c0 c1 : VV} (h : leafL [c0, c1] = true) : vbuildSlice Tryz.prog 24 1 [(0, .agg [c0, c1])] = some ([c0, c1], 2) := by
 have h2 : szT Tryz.prog 40 = some 2 := by kernel_rfl
 have h3 : vzero Tryz.prog 40 = some #[.int .i64 0, .slice none 0 0] := by kernel_rfl
 simp only [leafL_cons, leafL_nil, Bool.and_true, Bool.and_eq_true] at h
 simp [vbuildSlice, Tryz.underlying24, h2, h3, vfill, vcells, h, overwrite, vzeros]
theorem ix24 {H : Nat → Option VObj} {xs : List GSightBoard} {x : GSightBoard} {f : Bool} {k : IntKind} {i : Int} (h : getI xs i = some x) : vindexAddr Tryz.prog H 24 (.sl (cellsL cGSightBoard xs) xs.length f) (.lit (.int k i)) = some (.tp (cGSightBoard x ++ cellsL cGSightBoard (xs.drop (i.toNat + 1)))) :=
 ixG Tryz.underlying24 (by kernel_rfl : szT Tryz.prog 40 = some 2) (by decide) (fun _ => rfl) h
theorem ld25 {c : VV} {cs : List VV} : vload Tryz.prog 25 (c :: cs) = some c := by
 have h1 : aggT Tryz.prog 25 = some false := by kernel_rfl
 simp [vload, vpart, h1]
theorem sz25 : szT Tryz.prog 25 = some 1 := by kernel_rfl
theorem vzl25 : vzl Tryz.prog 25 = some [.lit (.slice none 0 0)] := by kernel_rfl
theorem len25 {H : Nat → Option VObj} {cs : List VV} {n : Nat} {f : Bool} : vlen Tryz.prog H 25 (.sl cs n f) = some (.lit (.int .i64 n)) := by simp [vlen, Tryz.underlying25, sls]
theorem lenN25 {H : Nat → Option VObj} : vlen Tryz.prog H 25 (.lit (.slice none 0 0)) = some (.lit (.int .i64 0)) := by simp [vlen, Tryz.underlying25, sls]
theorem lenR25 {H : Nat → Option VObj} {β off n w c : Nat} : vlen Tryz.prog H 25 (.ref β off n w c) = (match H β with | some (.cells _ cs) => if off ≤ cs.length then some (.lit (.int .i64 n)) else none | _ => none) := lenR Tryz.underlying25
theorem et25 : elemT Tryz.prog 25 = some 69 := by simp [elemT, Tryz.underlying25]
theorem ao25 : appOk Tryz.prog 25 = some (69, 5, 40) := by kernel_rfl
theorem tk25 {xs : List GSightBlock} : (cellsL cGSightBlock xs).take (xs.length * 5) = cellsL cGSightBlock xs := take_cells (fun _ => rfl)
theorem lf25 : ∀ x : GSightBlock, leafL (cGSightBlock x) = true := fun x => by simp only [eI_eq, eU8_eq, eB_eq, eS_eq, eSl_eq, cGSightBlock_eq, leafL_nil, leafL_cons, leaf_int, leaf_bool, leaf_string, leaf_slice, leaf_sl, Bool.and_self]
theorem bs25_1 {c0 c1 c2 c3 c4 : VV} (h : leafL [c0, c1, c2, c3, c4] = true) : vbuildSlice Tryz.prog 25 1 [(0, .agg [c0, c1, c2, c3, c4])] = some ([c0, c1, c2, c3, c4], 5) := by
 have h2 : szT Tryz.prog 69 = some 5 := by kernel_rfl
 have h3 : vzero Tryz.prog 69 = some #[.int .i64 0, .int .i64 0, .int .i64 0, .int .i64 0, .bool false] := by kernel_rfl
 simp only [leafL_cons, leafL_nil, Bool.and_true, Bool.and_eq_true] at h
 simp [vbuildSlice, Tryz.underlying25, h2, h3, vfill, vcells, h, overwrite, vzeros]
theorem ix25 {H : Nat → Option VObj} {xs : List GSightBlock} {x : GSightBlock} {f : Bool} {k : IntKind} {i : Int} (h : getI xs i = some x) : vindexAddr Tryz.prog H 25 (.sl (cellsL cGSightBlock xs) xs.length f) (.lit (.int k i)) = some (.tp (cGSightBlock x ++ cellsL cGSightBlock (xs.drop (i.toNat + 1)))) :=
 ixG Tryz.underlying25 (by kernel_rfl : szT Tryz.prog 69 = some 5) (by decide) (fun _ => rfl) h
theorem ld27 {c0 c1 c2 c3 c4 c5 c6 c7 : VV} {cs : List VV} : vload Tryz.prog 27 (c0 :: c1 :: c2 :: c3 :: c4 :: c5 :: c6 :: c7 :: cs) = some (.agg [c0, c1, c2, c3, c4, c5, c6, c7]) := by
 have h1 : aggT Tryz.prog 27 = some true := by kernel_rfl
 have h2 : szT Tryz.prog 27 = some 8 := by kernel_rfl
 simp [vload, vpart, h1, h2]
theorem sz27 : szT Tryz.prog 27 = some 8 := by kernel_rfl
theorem vzl27 : vzl Tryz.prog 27 = some [.lit (.int .i64 0), .lit (.int .i64 0), .lit (.int .i64 0), .lit (.int .i64 0), .lit (.int .i64 0), .lit (.int .i64 0), .lit (.slice none 0 0), .lit (.slice none 0 0)] := by kernel_rfl
theorem fa27_0 {H : Nat → Option VObj} {cs : List VV} : vfieldAddr Tryz.prog H 27 (.tp cs) 0 = some (.tp (cs.drop 0)) := by
 have h2 : szT Tryz.prog 3 = some 1 := by kernel_rfl
 simp [vfieldAddr, Tryz.underlying27, h2]
theorem fp27_0 {H : Nat → Option VObj} {β o : Nat} : vfieldAddr Tryz.prog H 27 (.ptr β o) 0 = if (H β).isSome = true then some (.ptr β (o + 0)) else none := by
 have h2 : szT Tryz.prog 3 = some 1 := by kernel_rfl
 simp [vfieldAddr, Tryz.underlying27, h2]
theorem fa27_1 {H : Nat → Option VObj} {cs : List VV} : vfieldAddr Tryz.prog H 27 (.tp cs) 1 = some (.tp (cs.drop 1)) := by
 have h2 : szT Tryz.prog 3 = some 1 := by kernel_rfl
 simp [vfieldAddr, Tryz.underlying27, h2]
theorem fp27_1 {H : Nat → Option VObj} {β o : Nat} : vfieldAddr Tryz.prog H 27 (.ptr β o) 1 = if (H β).isSome = true then some (.ptr β (o + 1)) else none := by
 have h2 : szT Tryz.prog 3 = some 1 := by kernel_rfl
 simp [vfieldAddr, Tryz.underlying27, h2]
theorem fa27_2 {H : Nat → Option VObj} {cs : List VV} : vfieldAddr Tryz.prog H 27 (.tp cs) 2 = some (.tp (cs.drop 2)) := by
 have h2 : szT Tryz.prog 23 = some 2 := by kernel_rfl
 simp [vfieldAddr, Tryz.underlying27, h2]
theorem fp27_2 {H : Nat → Option VObj} {β o : Nat} : vfieldAddr Tryz.prog H 27 (.ptr β o) 2 = if (H β).isSome = true then some (.ptr β (o + 2)) else none := by
 have h2 : szT Tryz.prog 23 = some 2 := by kernel_rfl
 simp [vfieldAddr, Tryz.underlying27, h2]
theorem fa27_3 {H : Nat → Option VObj} {cs : List VV} : vfieldAddr Tryz.prog H 27 (.tp cs) 3 = some (.tp (cs.drop 4)) := by
 have h2 : szT Tryz.prog 23 = some 2 := by kernel_rfl
 simp [vfieldAddr, Tryz.underlying27, h2]
theorem fp27_3 {H : Nat → Option VObj} {β o : Nat} : vfieldAddr Tryz.prog H 27 (.ptr β o) 3 = if (H β).isSome = true then some (.ptr β (o + 4)) else none := by
 have h2 : szT Tryz.prog 23 = some 2 := by kernel_rfl
 simp [vfieldAddr, Tryz.underlying27, h2]
theorem fa27_4 {H : Nat → Option VObj} {cs : List VV} : vfieldAddr Tryz.prog H 27 (.tp cs) 4 = some (.tp (cs.drop 6)) := by
 have h2 : szT Tryz.prog 24 = some 1 := by kernel_rfl
 simp [vfieldAddr, Tryz.underlying27, h2]
theorem fp27_4 {H : Nat → Option VObj} {β o : Nat} : vfieldAddr Tryz.prog H 27 (.ptr β o) 4 = if (H β).isSome = true then some (.ptr β (o + 6)) else none := by
 have h2 : szT Tryz.prog 24 = some 1 := by kernel_rfl
 simp [vfieldAddr, Tryz.underlying27, h2]
theorem fa27_5 {H : Nat → Option VObj} {cs : List VV} : vfieldAddr Tryz.prog H 27 (.tp cs) 5 = some (.tp (cs.drop 7)) := by
 have h2 : szT Tryz.prog 25 = some 1 := by kernel_rfl
 simp [vfieldAddr, Tryz.underlying27, h2]
theorem fp27_5 {H : Nat → Option VObj} {β o : Nat} : vfieldAddr Tryz.prog H 27 (.ptr β o) 5 = if (H β).isSome = true then some (.ptr β (o + 7)) else none := by
 have h2 : szT Tryz.prog 25 = some 1 := by kernel_rfl
 simp [vfieldAddr, Tryz.underlying27, h2]
theorem ld30 {c : VV} {cs : List VV} : vload Tryz.prog 30 (c :: cs) = some c := by
 have h1 : aggT Tryz.prog 30 = some false := by kernel_rfl
 simp [vload, vpart, h1]
theorem sz30 : szT Tryz.prog 30 = some 1 := by kernel_rfl
theorem vzl30 : vzl Tryz.prog 30 = some [.lit (.int .i64 0)] := by kernel_rfl
theorem ld34 {c0 c1 : VV} {cs : List VV} : vload Tryz.prog 34 (c0 :: c1 :: cs) = some (.agg [c0, c1]) := by
 have h1 : aggT Tryz.prog 34 = some true := by kernel_rfl
 have h2 : szT Tryz.prog 34 = some 2 := by kernel_rfl
 simp [vload, vpart, h1, h2]
theorem sz34 : szT Tryz.prog 34 = some 2 := by kernel_rfl
theorem vzl34 : vzl Tryz.prog 34 = some [.lit (.int .i64 0), .lit (.int .i64 0)] := by kernel_rfl
theorem fa34_0 {H : Nat → Option VObj} {cs : List VV} : vfieldAddr Tryz.prog H 34 (.tp cs) 0 = some (.tp (cs.drop 0)) := by
 have h2 : szT Tryz.prog 3 = some 1 := by kernel_rfl
 simp [vfieldAddr, Tryz.underlying34, h2]
theorem fp34_0 {H : Nat → Option VObj} {β o : Nat} : vfieldAddr Tryz.prog H 34 (.ptr β o) 0 = if (H β).isSome = true then some (.ptr β (o + 0)) else none := by
 have h2 : szT Tryz.prog 3 = some 1 := by kernel_rfl
 simp [vfieldAddr, Tryz.underlying34, h2]
theorem fa34_1 {H : Nat → Option VObj} {cs : List VV} : vfieldAddr Tryz.prog H 34 (.tp cs) 1 = some (.tp (cs.drop 1)) := by
 have h2 : szT Tryz.prog 3 = some 1 := by kernel_rfl
 simp [vfieldAddr, Tryz.underlying34, h2]
theorem fp34_1 {H : Nat → Option VObj} {β o : Nat} : vfieldAddr Tryz.prog H 34 (.ptr β o) 1 = if (H β).isSome = true then some (.ptr β (o + 1)) else none := by
 have h2 : szT Tryz.prog 3 = some 1 := by kernel_rfl
 simp [vfieldAddr, Tryz.underlying34, h2]
theorem ld38 {c : VV} {cs : List VV} : vload Tryz.prog 38 (c :: cs) = some c := by
 have h1 : aggT Tryz.prog 38 = some false := by kernel_rfl
 simp [vload, vpart, h1]
theorem sz38 : szT Tryz.prog 38 = some 1 := by kernel_rfl
theorem vzl38 : vzl Tryz.prog 38 = some [.lit (.slice none 0 0)] := by kernel_rfl
theorem len38 {H : Nat → Option VObj} {cs : List VV} {n : Nat} {f : Bool} : vlen Tryz.prog H 38 (.sl cs n f) = some (.lit (.int .i64 n)) := by simp [vlen, Tryz.underlying38, sls]
theorem lenN38 {H : Nat → Option VObj} : vlen Tryz.prog H 38 (.lit (.slice none 0 0)) = some (.lit (.int .i64 0)) := by simp [vlen, Tryz.underlying38, sls]
theorem lenR38 {H : Nat → Option VObj} {β off n w c : Nat} : vlen Tryz.prog H 38 (.ref β off n w c) = (match H β with | some (.cells _ cs) => if off ≤ cs.length then some (.lit (.int .i64 n)) else none | _ => none) := lenR Tryz.underlying38
theorem et38 : elemT Tryz.prog 38 = some 66 := by simp [elemT, Tryz.underlying38]
theorem tk38 {xs : List GSightLetter} : (cellsL cGSightLetter xs).take (xs.length * 4) = cellsL cGSightLetter xs := take_cells (fun _ => rfl)
theorem bs38_1 {c0 c1 c2 c3 : VV} (h : leafL [c0, c1, c2, c3] = true) : vbuildSlice Tryz.prog 38 1 [(0, .agg [c0, c1, c2, c3])] = some ([c0, c1, c2, c3], 4) := by
 have h2 : szT Tryz.prog 66 = some 4 := by kernel_rfl
 have h3 : vzero Tryz.prog 66 = some #[.int .i64 0, .int .i64 0, .int .i64 0, .int .i64 0] := by kernel_rfl
 simp only [leafL_cons, leafL_nil, Bool.and_true, Bool.and_eq_true] at h
 simp [vbuildSlice, Tryz.underlying38, h2, h3, vfill, vcells, h, overwrite, vzeros]
theorem ix38 {H : Nat → Option VObj} {xs : List GSightLetter} {x : GSightLetter} {f : Bool} {k : IntKind} {i : Int} (h : getI xs i = some x) : vindexAddr Tryz.prog H 38 (.sl (cellsL cGSightLetter xs) xs.length f) (.lit (.int k i)) = some (.tp (cGSightLetter x ++ cellsL cGSightLetter (xs.drop (i.toNat + 1)))) :=
 ixG Tryz.underlying38 (by kernel_rfl : szT Tryz.prog 66 = some 4) (by decide) (fun _ => rfl) h
theorem ld40 {c0 c1 : VV} {cs : List VV} : vload Tryz.prog 40 (c0 :: c1 :: cs) = some (.agg [c0, c1]) := by
 have h1 : aggT Tryz.prog 40 = some true := by kernel_rfl
 have h2 : szT Tryz.prog 40 = some 2 := by kernel_rfl
 simp [vload, vpart, h1, h2]
theorem sz40 : szT Tryz.prog 40 = some 2 := by kernel_rfl
theorem vzl40 : vzl Tryz.prog 40 = some [.lit (.int .i64 0), .lit (.slice none 0 0)] := by kernel_rfl
theorem fa40_0 {H : Nat → Option VObj} {cs : List VV} : vfieldAddr Tryz.prog H 40 (.tp cs) 0 = some (.tp (cs.drop 0)) := by
 have h2 : szT Tryz.prog 3 = some 1 := by kernel_rfl
 simp [vfieldAddr, Tryz.underlying40, h2]
theorem fp40_0 {H : Nat → Option VObj} {β o : Nat} : vfieldAddr Tryz.prog H 40 (.ptr β o) 0 = if (H β).isSome = true then some (.ptr β (o + 0)) else none := by
 have h2 : szT Tryz.prog 3 = some 1 := by kernel_rfl
 simp [vfieldAddr, Tryz.underlying40, h2]
theorem fa40_1 {H : Nat → Option VObj} {cs : List VV} : vfieldAddr Tryz.prog H 40 (.tp cs) 1 = some (.tp (cs.drop 1)) := by
 have h2 : szT Tryz.prog 38 = some 1 := by kernel_rfl
 simp [vfieldAddr, Tryz.underlying40, h2]
theorem fp40_1 {H : Nat → Option VObj} {β o : Nat} : vfieldAddr Tryz.prog H 40 (.ptr β o) 1 = if (H β).isSome = true then some (.ptr β (o + 1)) else none := by
 have h2 : szT Tryz.prog 38 = some 1 := by kernel_rfl
 simp [vfieldAddr, Tryz.underlying40, h2]
theorem ld41 {c : VV} {cs : List VV} : vload Tryz.prog 41 (c :: cs) = some c := by
 have h1 : aggT Tryz.prog 41 = some false := by kernel_rfl
 simp [vload, vpart, h1]
theorem sz41 : szT Tryz.prog 41 = some 1 := by kernel_rfl
theorem vzl41 : vzl Tryz.prog 41 = some [.lit (.slice none 0 0)] := by kernel_rfl
theorem len41 {H : Nat → Option VObj} {cs : List VV} {n : Nat} {f : Bool} : vlen Tryz.prog H 41 (.sl cs n f) = some (.lit (.int .i64 n)) := by simp [vlen, Tryz.underlying41, sls]
theorem lenN41 {H : Nat → Option VObj} : vlen Tryz.prog H 41 (.lit (.slice none 0 0)) = some (.lit (.int .i64 0)) := by simp [vlen, Tryz.underlying41, sls]
theorem lenR41 {H : Nat → Option VObj} {β off n w c : Nat} : vlen Tryz.prog H 41 (.ref β off n w c) = (match H β with | some (.cells _ cs) => if off ≤ cs.length then some (.lit (.int .i64 n)) else none | _ => none) := lenR Tryz.underlying41
theorem et41 : elemT Tryz.prog 41 = some 34 := by simp [elemT, Tryz.underlying41]
theorem tk41 {xs : List GSightPlace} : (cellsL cGSightPlace xs).take (xs.length * 2) = cellsL cGSightPlace xs := take_cells (fun _ => rfl)
theorem bs41_1 {c0 c1 : VV} (h : leafL [c0, c1] = true) : vbuildSlice Tryz.prog 41 1 [(0, .agg [c0, c1])] = some ([c0, c1], 2) := by
 have h2 : szT Tryz.prog 34 = some 2 := by kernel_rfl
 have h3 : vzero Tryz.prog 34 = some #[.int .i64 0, .int .i64 0] := by kernel_rfl
 simp only [leafL_cons, leafL_nil, Bool.and_true, Bool.and_eq_true] at h
 simp [vbuildSlice, Tryz.underlying41, h2, h3, vfill, vcells, h, overwrite, vzeros]
theorem ld46 {c : VV} {cs : List VV} : vload Tryz.prog 46 (c :: cs) = some c := by
 have h1 : aggT Tryz.prog 46 = some false := by kernel_rfl
 simp [vload, vpart, h1]
theorem sz46 : szT Tryz.prog 46 = some 1 := by kernel_rfl
theorem vzl46 : vzl Tryz.prog 46 = some [.lit (.int .i64 0)] := by kernel_rfl
theorem ld66 {c0 c1 c2 c3 : VV} {cs : List VV} : vload Tryz.prog 66 (c0 :: c1 :: c2 :: c3 :: cs) = some (.agg [c0, c1, c2, c3]) := by
 have h1 : aggT Tryz.prog 66 = some true := by kernel_rfl
 have h2 : szT Tryz.prog 66 = some 4 := by kernel_rfl
 simp [vload, vpart, h1, h2]
theorem sz66 : szT Tryz.prog 66 = some 4 := by kernel_rfl
theorem vzl66 : vzl Tryz.prog 66 = some [.lit (.int .i64 0), .lit (.int .i64 0), .lit (.int .i64 0), .lit (.int .i64 0)] := by kernel_rfl
theorem fa66_0 {H : Nat → Option VObj} {cs : List VV} : vfieldAddr Tryz.prog H 66 (.tp cs) 0 = some (.tp (cs.drop 0)) := by
 have h2 : szT Tryz.prog 3 = some 1 := by kernel_rfl
 simp [vfieldAddr, Tryz.underlying66, h2]
theorem fp66_0 {H : Nat → Option VObj} {β o : Nat} : vfieldAddr Tryz.prog H 66 (.ptr β o) 0 = if (H β).isSome = true then some (.ptr β (o + 0)) else none := by
 have h2 : szT Tryz.prog 3 = some 1 := by kernel_rfl
 simp [vfieldAddr, Tryz.underlying66, h2]
theorem fa66_1 {H : Nat → Option VObj} {cs : List VV} : vfieldAddr Tryz.prog H 66 (.tp cs) 1 = some (.tp (cs.drop 1)) := by
 have h2 : szT Tryz.prog 3 = some 1 := by kernel_rfl
 simp [vfieldAddr, Tryz.underlying66, h2]
theorem fp66_1 {H : Nat → Option VObj} {β o : Nat} : vfieldAddr Tryz.prog H 66 (.ptr β o) 1 = if (H β).isSome = true then some (.ptr β (o + 1)) else none := by
 have h2 : szT Tryz.prog 3 = some 1 := by kernel_rfl
 simp [vfieldAddr, Tryz.underlying66, h2]
theorem fa66_2 {H : Nat → Option VObj} {cs : List VV} : vfieldAddr Tryz.prog H 66 (.tp cs) 2 = some (.tp (cs.drop 2)) := by
 have h2 : szT Tryz.prog 3 = some 1 := by kernel_rfl
 simp [vfieldAddr, Tryz.underlying66, h2]
theorem fp66_2 {H : Nat → Option VObj} {β o : Nat} : vfieldAddr Tryz.prog H 66 (.ptr β o) 2 = if (H β).isSome = true then some (.ptr β (o + 2)) else none := by
 have h2 : szT Tryz.prog 3 = some 1 := by kernel_rfl
 simp [vfieldAddr, Tryz.underlying66, h2]
theorem fa66_3 {H : Nat → Option VObj} {cs : List VV} : vfieldAddr Tryz.prog H 66 (.tp cs) 3 = some (.tp (cs.drop 3)) := by
 have h2 : szT Tryz.prog 3 = some 1 := by kernel_rfl
 simp [vfieldAddr, Tryz.underlying66, h2]
theorem fp66_3 {H : Nat → Option VObj} {β o : Nat} : vfieldAddr Tryz.prog H 66 (.ptr β o) 3 = if (H β).isSome = true then some (.ptr β (o + 3)) else none := by
 have h2 : szT Tryz.prog 3 = some 1 := by kernel_rfl
 simp [vfieldAddr, Tryz.underlying66, h2]
theorem ld69 {c0 c1 c2 c3 c4 : VV} {cs : List VV} : vload Tryz.prog 69 (c0 :: c1 :: c2 :: c3 :: c4 :: cs) = some (.agg [c0, c1, c2, c3, c4]) := by
 have h1 : aggT Tryz.prog 69 = some true := by kernel_rfl
 have h2 : szT Tryz.prog 69 = some 5 := by kernel_rfl
 simp [vload, vpart, h1, h2]
theorem sz69 : szT Tryz.prog 69 = some 5 := by kernel_rfl
theorem vzl69 : vzl Tryz.prog 69 = some [.lit (.int .i64 0), .lit (.int .i64 0), .lit (.int .i64 0), .lit (.int .i64 0), .lit (.bool false)] := by kernel_rfl
theorem fa69_0 {H : Nat → Option VObj} {cs : List VV} : vfieldAddr Tryz.prog H 69 (.tp cs) 0 = some (.tp (cs.drop 0)) := by
 have h2 : szT Tryz.prog 23 = some 2 := by kernel_rfl
 simp [vfieldAddr, Tryz.underlying69, h2]
theorem fp69_0 {H : Nat → Option VObj} {β o : Nat} : vfieldAddr Tryz.prog H 69 (.ptr β o) 0 = if (H β).isSome = true then some (.ptr β (o + 0)) else none := by
 have h2 : szT Tryz.prog 23 = some 2 := by kernel_rfl
 simp [vfieldAddr, Tryz.underlying69, h2]
theorem fa69_1 {H : Nat → Option VObj} {cs : List VV} : vfieldAddr Tryz.prog H 69 (.tp cs) 1 = some (.tp (cs.drop 2)) := by
 have h2 : szT Tryz.prog 23 = some 2 := by kernel_rfl
 simp [vfieldAddr, Tryz.underlying69, h2]
theorem fp69_1 {H : Nat → Option VObj} {β o : Nat} : vfieldAddr Tryz.prog H 69 (.ptr β o) 1 = if (H β).isSome = true then some (.ptr β (o + 2)) else none := by
 have h2 : szT Tryz.prog 23 = some 2 := by kernel_rfl
 simp [vfieldAddr, Tryz.underlying69, h2]
theorem fa69_2 {H : Nat → Option VObj} {cs : List VV} : vfieldAddr Tryz.prog H 69 (.tp cs) 2 = some (.tp (cs.drop 4)) := by
 have h2 : szT Tryz.prog 4 = some 1 := by kernel_rfl
 simp [vfieldAddr, Tryz.underlying69, h2]
theorem fp69_2 {H : Nat → Option VObj} {β o : Nat} : vfieldAddr Tryz.prog H 69 (.ptr β o) 2 = if (H β).isSome = true then some (.ptr β (o + 4)) else none := by
 have h2 : szT Tryz.prog 4 = some 1 := by kernel_rfl
 simp [vfieldAddr, Tryz.underlying69, h2]
theorem ld73 {c : VV} {cs : List VV} : vload Tryz.prog 73 (c :: cs) = some c := by
 have h1 : aggT Tryz.prog 73 = some false := by kernel_rfl
 simp [vload, vpart, h1]
theorem sz73 : szT Tryz.prog 73 = some 1 := by kernel_rfl
theorem vzl73 : vzl Tryz.prog 73 = some [.lit (.int .i64 0)] := by kernel_rfl
theorem ld75 {c0 c1 : VV} {cs : List VV} : vload Tryz.prog 75 (c0 :: c1 :: cs) = some (.agg [c0, c1]) := by
 have h1 : aggT Tryz.prog 75 = some true := by kernel_rfl
 have h2 : szT Tryz.prog 75 = some 2 := by kernel_rfl
 simp [vload, vpart, h1, h2]
theorem sz75 : szT Tryz.prog 75 = some 2 := by kernel_rfl
theorem vzl75 : vzl Tryz.prog 75 = some [.lit (.int .i64 0), .lit (.int .i64 0)] := by kernel_rfl
theorem fa75_0 {H : Nat → Option VObj} {cs : List VV} : vfieldAddr Tryz.prog H 75 (.tp cs) 0 = some (.tp (cs.drop 0)) := by
 have h2 : szT Tryz.prog 73 = some 1 := by kernel_rfl
 simp [vfieldAddr, Tryz.underlying75, h2]
theorem fp75_0 {H : Nat → Option VObj} {β o : Nat} : vfieldAddr Tryz.prog H 75 (.ptr β o) 0 = if (H β).isSome = true then some (.ptr β (o + 0)) else none := by
 have h2 : szT Tryz.prog 73 = some 1 := by kernel_rfl
 simp [vfieldAddr, Tryz.underlying75, h2]
theorem fa75_1 {H : Nat → Option VObj} {cs : List VV} : vfieldAddr Tryz.prog H 75 (.tp cs) 1 = some (.tp (cs.drop 1)) := by
 have h2 : szT Tryz.prog 3 = some 1 := by kernel_rfl
 simp [vfieldAddr, Tryz.underlying75, h2]
theorem fp75_1 {H : Nat → Option VObj} {β o : Nat} : vfieldAddr Tryz.prog H 75 (.ptr β o) 1 = if (H β).isSome = true then some (.ptr β (o + 1)) else none := by
 have h2 : szT Tryz.prog 3 = some 1 := by kernel_rfl
 simp [vfieldAddr, Tryz.underlying75, h2]
theorem ld78 {c : VV} {cs : List VV} : vload Tryz.prog 78 (c :: cs) = some c := by
 have h1 : aggT Tryz.prog 78 = some false := by kernel_rfl
 simp [vload, vpart, h1]
theorem sz78 : szT Tryz.prog 78 = some 1 := by kernel_rfl
theorem vzl78 : vzl Tryz.prog 78 = some [.lit (.slice none 0 0)] := by kernel_rfl
theorem len78 {H : Nat → Option VObj} {cs : List VV} {n : Nat} {f : Bool} : vlen Tryz.prog H 78 (.sl cs n f) = some (.lit (.int .i64 n)) := by simp [vlen, Tryz.underlying78, sls]
theorem lenN78 {H : Nat → Option VObj} : vlen Tryz.prog H 78 (.lit (.slice none 0 0)) = some (.lit (.int .i64 0)) := by simp [vlen, Tryz.underlying78, sls]
theorem lenR78 {H : Nat → Option VObj} {β off n w c : Nat} : vlen Tryz.prog H 78 (.ref β off n w c) = (match H β with | some (.cells _ cs) => if off ≤ cs.length then some (.lit (.int .i64 n)) else none | _ => none) := lenR Tryz.underlying78
theorem et78 : elemT Tryz.prog 78 = some 3 := by simp [elemT, Tryz.underlying78]
theorem tk78 {xs : List Int} : (cellsL eI xs).take (xs.length * 1) = cellsL eI xs := take_cells (fun _ => rfl)
theorem bs78_1 {a0 : VV} (h : leafL [a0] = true) : vbuildSlice Tryz.prog 78 1 [(0, a0)] = some ([a0], 1) := by
 have h2 : szT Tryz.prog 3 = some 1 := by kernel_rfl
 have h3 : vzero Tryz.prog 3 = some #[.int .i64 0] := by kernel_rfl
 simp only [leafL_cons, leafL_nil, Bool.and_true, Bool.and_eq_true] at h
 simp [vbuildSlice, Tryz.underlying78, h2, h3, vfill, vcells1, h, overwrite, vzeros, List.range_succ]
theorem bs78_2 {a0 a1 : VV} (h : leafL [a0, a1] = true) : vbuildSlice Tryz.prog 78 2 [(0, a0), (1, a1)] = some ([a0, a1], 1) := by
 have h2 : szT Tryz.prog 3 = some 1 := by kernel_rfl
 have h3 : vzero Tryz.prog 3 = some #[.int .i64 0] := by kernel_rfl
 simp only [leafL_cons, leafL_nil, Bool.and_true, Bool.and_eq_true] at h
 simp [vbuildSlice, Tryz.underlying78, h2, h3, vfill, vcells1, h, overwrite, vzeros, List.range_succ]
theorem bs78_3 {a0 a1 a2 : VV} (h : leafL [a0, a1, a2] = true) : vbuildSlice Tryz.prog 78 3 [(0, a0), (1, a1), (2, a2)] = some ([a0, a1, a2], 1) := by
 have h2 : szT Tryz.prog 3 = some 1 := by kernel_rfl
 have h3 : vzero Tryz.prog 3 = some #[.int .i64 0] := by kernel_rfl
 simp only [leafL_cons, leafL_nil, Bool.and_true, Bool.and_eq_true] at h
 simp [vbuildSlice, Tryz.underlying78, h2, h3, vfill, vcells1, h, overwrite, vzeros, List.range_succ]
theorem ix78 {H : Nat → Option VObj} {xs : List Int} {x : Int} {f : Bool} {k : IntKind} {i : Int} (h : getI xs i = some x) : vindexAddr Tryz.prog H 78 (.sl (cellsL eI xs) xs.length f) (.lit (.int k i)) = some (.tp (eI x ++ cellsL eI (xs.drop (i.toNat + 1)))) :=
 ixG Tryz.underlying78 (by kernel_rfl : szT Tryz.prog 3 = some 1) (by decide) (fun _ => rfl) h
theorem ld93 {c : VV} {cs : List VV} : vload Tryz.prog 93 (c :: cs) = some c := by
 have h1 : aggT Tryz.prog 93 = some false := by kernel_rfl
 simp [vload, vpart, h1]
theorem sz93 : szT Tryz.prog 93 = some 1 := by kernel_rfl
theorem vzl93 : vzl Tryz.prog 93 = some [.lit (.slice none 0 0)] := by kernel_rfl
theorem len93 {H : Nat → Option VObj} {cs : List VV} {n : Nat} {f : Bool} : vlen Tryz.prog H 93 (.sl cs n f) = some (.lit (.int .i64 n)) := by simp [vlen, Tryz.underlying93, sls]
theorem lenN93 {H : Nat → Option VObj} : vlen Tryz.prog H 93 (.lit (.slice none 0 0)) = some (.lit (.int .i64 0)) := by simp [vlen, Tryz.underlying93, sls]
theorem lenR93 {H : Nat → Option VObj} {β off n w c : Nat} : vlen Tryz.prog H 93 (.ref β off n w c) = (match H β with | some (.cells _ cs) => if off ≤ cs.length then some (.lit (.int .i64 n)) else none | _ => none) := lenR Tryz.underlying93
theorem et93 : elemT Tryz.prog 93 = some 46 := by simp [elemT, Tryz.underlying93]
theorem tk93 {xs : List Int} : (cellsL eI xs).take (xs.length * 1) = cellsL eI xs := take_cells (fun _ => rfl)
theorem bs93_1 {a0 : VV} (h : leafL [a0] = true) : vbuildSlice Tryz.prog 93 1 [(0, a0)] = some ([a0], 1) := by
 have h2 : szT Tryz.prog 46 = some 1 := by kernel_rfl
 have h3 : vzero Tryz.prog 46 = some #[.int .i64 0] := by kernel_rfl
 simp only [leafL_cons, leafL_nil, Bool.and_true, Bool.and_eq_true] at h
 simp [vbuildSlice, Tryz.underlying93, h2, h3, vfill, vcells1, h, overwrite, vzeros, List.range_succ]
theorem bs93_2 {a0 a1 : VV} (h : leafL [a0, a1] = true) : vbuildSlice Tryz.prog 93 2 [(0, a0), (1, a1)] = some ([a0, a1], 1) := by
 have h2 : szT Tryz.prog 46 = some 1 := by kernel_rfl
 have h3 : vzero Tryz.prog 46 = some #[.int .i64 0] := by kernel_rfl
 simp only [leafL_cons, leafL_nil, Bool.and_true, Bool.and_eq_true] at h
 simp [vbuildSlice, Tryz.underlying93, h2, h3, vfill, vcells1, h, overwrite, vzeros, List.range_succ]
theorem bs93_3 {a0 a1 a2 : VV} (h : leafL [a0, a1, a2] = true) : vbuildSlice Tryz.prog 93 3 [(0, a0), (1, a1), (2, a2)] = some ([a0, a1, a2], 1) := by
 have h2 : szT Tryz.prog 46 = some 1 := by kernel_rfl
 have h3 : vzero Tryz.prog 46 = some #[.int .i64 0] := by kernel_rfl
 simp only [leafL_cons, leafL_nil, Bool.and_true, Bool.and_eq_true] at h
 simp [vbuildSlice, Tryz.underlying93, h2, h3, vfill, vcells1, h, overwrite, vzeros, List.range_succ]
theorem ld102 {c0 c1 c2 c3 c4 c5 c6 c7 c8 c9 c10 c11 c12 : VV} {cs : List VV} : vload Tryz.prog 102 (c0 :: c1 :: c2 :: c3 :: c4 :: c5 :: c6 :: c7 :: c8 :: c9 :: c10 :: c11 :: c12 :: cs) = some (.agg [c0, c1, c2, c3, c4, c5, c6, c7, c8, c9, c10, c11, c12]) := by
 have h1 : aggT Tryz.prog 102 = some true := by kernel_rfl
 have h2 : szT Tryz.prog 102 = some 13 := by kernel_rfl
 simp [vload, vpart, h1, h2]
theorem sz102 : szT Tryz.prog 102 = some 13 := by kernel_rfl
theorem vzl102 : vzl Tryz.prog 102 = some [.lit (.int .i64 0), .lit (.int .i64 0), .lit (.int .i64 0), .lit (.int .i64 0), .lit (.int .i64 0), .lit (.int .i64 0), .lit (.slice none 0 0), .lit (.slice none 0 0), .lit (.int .i64 0), .lit (.int .i64 0), .lit (.int .i64 0), .lit (.slice none 0 0), .lit (.int .i64 0)] := by kernel_rfl
theorem fa102_0 {H : Nat → Option VObj} {cs : List VV} : vfieldAddr Tryz.prog H 102 (.tp cs) 0 = some (.tp (cs.drop 0)) := by
 have h2 : szT Tryz.prog 27 = some 8 := by kernel_rfl
 simp [vfieldAddr, Tryz.underlying102, h2]
theorem fp102_0 {H : Nat → Option VObj} {β o : Nat} : vfieldAddr Tryz.prog H 102 (.ptr β o) 0 = if (H β).isSome = true then some (.ptr β (o + 0)) else none := by
 have h2 : szT Tryz.prog 27 = some 8 := by kernel_rfl
 simp [vfieldAddr, Tryz.underlying102, h2]
theorem fa102_1 {H : Nat → Option VObj} {cs : List VV} : vfieldAddr Tryz.prog H 102 (.tp cs) 1 = some (.tp (cs.drop 8)) := by
 have h2 : szT Tryz.prog 34 = some 2 := by kernel_rfl
 simp [vfieldAddr, Tryz.underlying102, h2]
theorem fp102_1 {H : Nat → Option VObj} {β o : Nat} : vfieldAddr Tryz.prog H 102 (.ptr β o) 1 = if (H β).isSome = true then some (.ptr β (o + 8)) else none := by
 have h2 : szT Tryz.prog 34 = some 2 := by kernel_rfl
 simp [vfieldAddr, Tryz.underlying102, h2]
theorem fa102_2 {H : Nat → Option VObj} {cs : List VV} : vfieldAddr Tryz.prog H 102 (.tp cs) 2 = some (.tp (cs.drop 10)) := by
 have h2 : szT Tryz.prog 40 = some 2 := by kernel_rfl
 simp [vfieldAddr, Tryz.underlying102, h2]
theorem fp102_2 {H : Nat → Option VObj} {β o : Nat} : vfieldAddr Tryz.prog H 102 (.ptr β o) 2 = if (H β).isSome = true then some (.ptr β (o + 10)) else none := by
 have h2 : szT Tryz.prog 40 = some 2 := by kernel_rfl
 simp [vfieldAddr, Tryz.underlying102, h2]
theorem fa102_3 {H : Nat → Option VObj} {cs : List VV} : vfieldAddr Tryz.prog H 102 (.tp cs) 3 = some (.tp (cs.drop 12)) := by
 have h2 : szT Tryz.prog 3 = some 1 := by kernel_rfl
 simp [vfieldAddr, Tryz.underlying102, h2]
theorem fp102_3 {H : Nat → Option VObj} {β o : Nat} : vfieldAddr Tryz.prog H 102 (.ptr β o) 3 = if (H β).isSome = true then some (.ptr β (o + 12)) else none := by
 have h2 : szT Tryz.prog 3 = some 1 := by kernel_rfl
 simp [vfieldAddr, Tryz.underlying102, h2]
theorem ld117 {c0 c1 : VV} {cs : List VV} : vload Tryz.prog 117 (c0 :: c1 :: cs) = some (.agg [c0, c1]) := by
 have h1 : aggT Tryz.prog 117 = some true := by kernel_rfl
 have h2 : szT Tryz.prog 117 = some 2 := by kernel_rfl
 simp [vload, vpart, h1, h2]
theorem sz117 : szT Tryz.prog 117 = some 2 := by kernel_rfl
theorem vzl117 : vzl Tryz.prog 117 = some [.lit (.int .i64 0), .lit (.int .i64 0)] := by kernel_rfl
theorem fa117_0 {H : Nat → Option VObj} {cs : List VV} : vfieldAddr Tryz.prog H 117 (.tp cs) 0 = some (.tp (cs.drop 0)) := by
 have h2 : szT Tryz.prog 3 = some 1 := by kernel_rfl
 simp [vfieldAddr, Tryz.underlying117, h2]
theorem fp117_0 {H : Nat → Option VObj} {β o : Nat} : vfieldAddr Tryz.prog H 117 (.ptr β o) 0 = if (H β).isSome = true then some (.ptr β (o + 0)) else none := by
 have h2 : szT Tryz.prog 3 = some 1 := by kernel_rfl
 simp [vfieldAddr, Tryz.underlying117, h2]
theorem fa117_1 {H : Nat → Option VObj} {cs : List VV} : vfieldAddr Tryz.prog H 117 (.tp cs) 1 = some (.tp (cs.drop 1)) := by
 have h2 : szT Tryz.prog 3 = some 1 := by kernel_rfl
 simp [vfieldAddr, Tryz.underlying117, h2]
theorem fp117_1 {H : Nat → Option VObj} {β o : Nat} : vfieldAddr Tryz.prog H 117 (.ptr β o) 1 = if (H β).isSome = true then some (.ptr β (o + 1)) else none := by
 have h2 : szT Tryz.prog 3 = some 1 := by kernel_rfl
 simp [vfieldAddr, Tryz.underlying117, h2]
theorem ld148 {c0 c1 : VV} {cs : List VV} : vload Tryz.prog 148 (c0 :: c1 :: cs) = some (.agg [c0, c1]) := by
 have h1 : aggT Tryz.prog 148 = some true := by kernel_rfl
 have h2 : szT Tryz.prog 148 = some 2 := by kernel_rfl
 simp [vload, vpart, h1, h2]
theorem sz148 : szT Tryz.prog 148 = some 2 := by kernel_rfl
theorem vzl148 : vzl Tryz.prog 148 = some [.lit (.int .i64 0), .lit (.int .i64 0)] := by kernel_rfl
theorem fa148_0 {H : Nat → Option VObj} {cs : List VV} : vfieldAddr Tryz.prog H 148 (.tp cs) 0 = some (.tp (cs.drop 0)) := by
 have h2 : szT Tryz.prog 75 = some 2 := by kernel_rfl
 simp [vfieldAddr, Tryz.underlying148, h2]
theorem fp148_0 {H : Nat → Option VObj} {β o : Nat} : vfieldAddr Tryz.prog H 148 (.ptr β o) 0 = if (H β).isSome = true then some (.ptr β (o + 0)) else none := by
 have h2 : szT Tryz.prog 75 = some 2 := by kernel_rfl
 simp [vfieldAddr, Tryz.underlying148, h2]
theorem sz1 : szT Tryz.prog 1 = some 1 := by kernel_rfl
theorem ld1 {c : VV} {cs : List VV} : vload Tryz.prog 1 (c :: cs) = some c := by
 have h1 : aggT Tryz.prog 1 = some false := by kernel_rfl
 simp [vload, vpart, h1]
theorem vzl1 : vzl Tryz.prog 1 = some [.lit .nilFunc] := by kernel_rfl
theorem sz52 : szT Tryz.prog 52 = some 1 := by kernel_rfl
theorem ld52 {c : VV} {cs : List VV} : vload Tryz.prog 52 (c :: cs) = some c := by
 have h1 : aggT Tryz.prog 52 = some false := by kernel_rfl
 simp [vload, vpart, h1]
theorem vzl52 : vzl Tryz.prog 52 = some [.lit .nilFunc] := by kernel_rfl
theorem sz100 : szT Tryz.prog 100 = some 1 := by kernel_rfl
theorem ld100 {c : VV} {cs : List VV} : vload Tryz.prog 100 (c :: cs) = some c := by
 have h1 : aggT Tryz.prog 100 = some false := by kernel_rfl
 simp [vload, vpart, h1]
theorem vzl100 : vzl Tryz.prog 100 = some [.lit .nilFunc] := by kernel_rfl
theorem sz107 : szT Tryz.prog 107 = some 1 := by kernel_rfl
theorem ld107 {c : VV} {cs : List VV} : vload Tryz.prog 107 (c :: cs) = some c := by
 have h1 : aggT Tryz.prog 107 = some false := by kernel_rfl
 simp [vload, vpart, h1]
theorem vzl107 : vzl Tryz.prog 107 = some [.lit .nilFunc] := by kernel_rfl
theorem sz108 : szT Tryz.prog 108 = some 1 := by kernel_rfl
theorem ld108 {c : VV} {cs : List VV} : vload Tryz.prog 108 (c :: cs) = some c := by
 have h1 : aggT Tryz.prog 108 = some false := by kernel_rfl
 simp [vload, vpart, h1]
theorem vzl108 : vzl Tryz.prog 108 = some [.lit .nilFunc] := by kernel_rfl
theorem sz120 : szT Tryz.prog 120 = some 1 := by kernel_rfl
theorem ld120 {c : VV} {cs : List VV} : vload Tryz.prog 120 (c :: cs) = some c := by
 have h1 : aggT Tryz.prog 120 = some false := by kernel_rfl
 simp [vload, vpart, h1]
theorem vzl120 : vzl Tryz.prog 120 = some [.lit .nilFunc] := by kernel_rfl
theorem sz121 : szT Tryz.prog 121 = some 1 := by kernel_rfl
theorem ld121 {c : VV} {cs : List VV} : vload Tryz.prog 121 (c :: cs) = some c := by
 have h1 : aggT Tryz.prog 121 = some false := by kernel_rfl
 simp [vload, vpart, h1]
theorem vzl121 : vzl Tryz.prog 121 = some [.lit .nilFunc] := by kernel_rfl
theorem sz123 : szT Tryz.prog 123 = some 1 := by kernel_rfl
theorem ld123 {c : VV} {cs : List VV} : vload Tryz.prog 123 (c :: cs) = some c := by
 have h1 : aggT Tryz.prog 123 = some false := by kernel_rfl
 simp [vload, vpart, h1]
theorem vzl123 : vzl Tryz.prog 123 = some [.lit .nilFunc] := by kernel_rfl
theorem sz136 : szT Tryz.prog 136 = some 1 := by kernel_rfl
theorem ld136 {c : VV} {cs : List VV} : vload Tryz.prog 136 (c :: cs) = some c := by
 have h1 : aggT Tryz.prog 136 = some false := by kernel_rfl
 simp [vload, vpart, h1]
theorem vzl136 : vzl Tryz.prog 136 = some [.lit .nilFunc] := by kernel_rfl
theorem sz146 : szT Tryz.prog 146 = some 1 := by kernel_rfl
theorem ld146 {c : VV} {cs : List VV} : vload Tryz.prog 146 (c :: cs) = some c := by
 have h1 : aggT Tryz.prog 146 = some false := by kernel_rfl
 simp [vload, vpart, h1]
theorem vzl146 : vzl Tryz.prog 146 = some [.lit .nilFunc] := by kernel_rfl
theorem sz151 : szT Tryz.prog 151 = some 1 := by kernel_rfl
theorem ld151 {c : VV} {cs : List VV} : vload Tryz.prog 151 (c :: cs) = some c := by
 have h1 : aggT Tryz.prog 151 = some false := by kernel_rfl
 simp [vload, vpart, h1]
theorem vzl151 : vzl Tryz.prog 151 = some [.lit .nilFunc] := by kernel_rfl
theorem sz152 : szT Tryz.prog 152 = some 3 := by kernel_rfl
theorem vzl152 : vzl Tryz.prog 152 = some [.lit .nilFunc, .lit .nilFunc, .lit .nilFunc] := by kernel_rfl
theorem ld152 {c0 c1 c2 : VV} {cs : List VV} : vload Tryz.prog 152 (c0 :: c1 :: c2 :: cs) = some (.agg [c0, c1, c2]) := by
 have h1 : aggT Tryz.prog 152 = some true := by kernel_rfl
 have h2 : szT Tryz.prog 152 = some 3 := by kernel_rfl
 simp [vload, vpart, h1, h2]
theorem vi152_0 {c0 c1 c2 : VV} {k : IntKind} : vindex Tryz.prog 152 (.agg [c0, c1, c2]) (.lit (.int k 0)) = some c0 := by
 have h1 : aggT Tryz.prog 151 = some false := by kernel_rfl
 have h2 : szT Tryz.prog 151 = some 1 := by kernel_rfl
 simp [vindex, Tryz.underlying152, vpart, h1, h2]
theorem va152_0 {H : Nat → Option VObj} {β o : Nat} {k : IntKind} : vindexAddr Tryz.prog H 152 (.ptr β o) (.lit (.int k 0)) = if (H β).isSome = true then some (.ptr β (o + 0)) else none := by
 have h2 : szT Tryz.prog 151 = some 1 := by kernel_rfl
 simp [vindexAddr, Tryz.underlying152, h2]
theorem vi152_1 {c0 c1 c2 : VV} {k : IntKind} : vindex Tryz.prog 152 (.agg [c0, c1, c2]) (.lit (.int k 1)) = some c1 := by
 have h1 : aggT Tryz.prog 151 = some false := by kernel_rfl
 have h2 : szT Tryz.prog 151 = some 1 := by kernel_rfl
 simp [vindex, Tryz.underlying152, vpart, h1, h2]
theorem va152_1 {H : Nat → Option VObj} {β o : Nat} {k : IntKind} : vindexAddr Tryz.prog H 152 (.ptr β o) (.lit (.int k 1)) = if (H β).isSome = true then some (.ptr β (o + 1)) else none := by
 have h2 : szT Tryz.prog 151 = some 1 := by kernel_rfl
 simp [vindexAddr, Tryz.underlying152, h2]
theorem vi152_2 {c0 c1 c2 : VV} {k : IntKind} : vindex Tryz.prog 152 (.agg [c0, c1, c2]) (.lit (.int k 2)) = some c2 := by
 have h1 : aggT Tryz.prog 151 = some false := by kernel_rfl
 have h2 : szT Tryz.prog 151 = some 1 := by kernel_rfl
 simp [vindex, Tryz.underlying152, vpart, h1, h2]
theorem va152_2 {H : Nat → Option VObj} {β o : Nat} {k : IntKind} : vindexAddr Tryz.prog H 152 (.ptr β o) (.lit (.int k 2)) = if (H β).isSome = true then some (.ptr β (o + 2)) else none := by
 have h2 : szT Tryz.prog 151 = some 1 := by kernel_rfl
 simp [vindexAddr, Tryz.underlying152, h2]
theorem vb23_0_1 {x0_0 x1_0 : VV} (h : leafL [x0_0, x1_0] = true) : vbuild Tryz.prog 23 [(0, x0_0), (1, x1_0)] = some (.agg [x0_0, x1_0]) := by
 have p0 : placeT Tryz.prog 23 0 = some (0, 1) := by kernel_rfl
 have p1 : placeT Tryz.prog 23 1 = some (1, 1) := by kernel_rfl
 simp only [leafL_cons, leafL_nil, Bool.and_true, Bool.and_eq_true] at h
 rw [vbuild_eq vzl23 (by kernel_rfl)]
 simp [vfill, p0, p1, vcells1, h, overwrite]
theorem vb34 : vbuild Tryz.prog 34 [] = some (.agg [.lit (.int .i64 0), .lit (.int .i64 0)]) := by
 rw [vbuild_eq vzl34 (by kernel_rfl)]
 rfl
theorem vb34_0_1 {x0_0 x1_0 : VV} (h : leafL [x0_0, x1_0] = true) : vbuild Tryz.prog 34 [(0, x0_0), (1, x1_0)] = some (.agg [x0_0, x1_0]) := by
 have p0 : placeT Tryz.prog 34 0 = some (0, 1) := by kernel_rfl
 have p1 : placeT Tryz.prog 34 1 = some (1, 1) := by kernel_rfl
 simp only [leafL_cons, leafL_nil, Bool.and_true, Bool.and_eq_true] at h
 rw [vbuild_eq vzl34 (by kernel_rfl)]
 simp [vfill, p0, p1, vcells1, h, overwrite]
theorem vb66_0_1_2_3 {x0_0 x1_0 x2_0 x3_0 : VV} (h : leafL [x0_0, x1_0, x2_0, x3_0] = true) : vbuild Tryz.prog 66 [(0, x0_0), (1, x1_0), (2, x2_0), (3, x3_0)] = some (.agg [x0_0, x1_0, x2_0, x3_0]) := by
 have p0 : placeT Tryz.prog 66 0 = some (0, 1) := by kernel_rfl
 have p1 : placeT Tryz.prog 66 1 = some (1, 1) := by kernel_rfl
 have p2 : placeT Tryz.prog 66 2 = some (2, 1) := by kernel_rfl
 have p3 : placeT Tryz.prog 66 3 = some (3, 1) := by kernel_rfl
 simp only [leafL_cons, leafL_nil, Bool.and_true, Bool.and_eq_true] at h
 rw [vbuild_eq vzl66 (by kernel_rfl)]
 simp [vfill, p0, p1, p2, p3, vcells1, h, overwrite]
theorem vb75 : vbuild Tryz.prog 75 [] = some (.agg [.lit (.int .i64 0), .lit (.int .i64 0)]) := by
 rw [vbuild_eq vzl75 (by kernel_rfl)]
 rfl
theorem vb75_0 {x0_0 : VV} (h : leafL [x0_0] = true) : vbuild Tryz.prog 75 [(0, x0_0)] = some (.agg [x0_0, .lit (.int .i64 0)]) := by
 have p0 : placeT Tryz.prog 75 0 = some (0, 1) := by kernel_rfl
 simp only [leafL_cons, leafL_nil, Bool.and_true, Bool.and_eq_true] at h
 rw [vbuild_eq vzl75 (by kernel_rfl)]
 simp [vfill, p0, vcells1, h, overwrite]
theorem vb75_0_1 {x0_0 x1_0 : VV} (h : leafL [x0_0, x1_0] = true) : vbuild Tryz.prog 75 [(0, x0_0), (1, x1_0)] = some (.agg [x0_0, x1_0]) := by
 have p0 : placeT Tryz.prog 75 0 = some (0, 1) := by kernel_rfl
 have p1 : placeT Tryz.prog 75 1 = some (1, 1) := by kernel_rfl
 simp only [leafL_cons, leafL_nil, Bool.and_true, Bool.and_eq_true] at h
 rw [vbuild_eq vzl75 (by kernel_rfl)]
 simp [vfill, p0, p1, vcells1, h, overwrite]
theorem vb102_0_1_2_3 {x0_0 x0_1 x0_2 x0_3 x0_4 x0_5 x0_6 x0_7 x1_0 x1_1 x2_0 x2_1 x3_0 : VV} (h : leafL [x0_0, x0_1, x0_2, x0_3, x0_4, x0_5, x0_6, x0_7, x1_0, x1_1, x2_0, x2_1, x3_0] = true) : vbuild Tryz.prog 102 [(0, .agg [x0_0, x0_1, x0_2, x0_3, x0_4, x0_5, x0_6, x0_7]), (1, .agg [x1_0, x1_1]), (2, .agg [x2_0, x2_1]), (3, x3_0)] = some (.agg [x0_0, x0_1, x0_2, x0_3, x0_4, x0_5, x0_6, x0_7, x1_0, x1_1, x2_0, x2_1, x3_0]) := by
 have p0 : placeT Tryz.prog 102 0 = some (0, 8) := by kernel_rfl
 have p1 : placeT Tryz.prog 102 1 = some (8, 2) := by kernel_rfl
 have p2 : placeT Tryz.prog 102 2 = some (10, 2) := by kernel_rfl
 have p3 : placeT Tryz.prog 102 3 = some (12, 1) := by kernel_rfl
 simp only [leafL_cons, leafL_nil, Bool.and_true, Bool.and_eq_true] at h
 have q0 : vcells (.agg [x0_0, x0_1, x0_2, x0_3, x0_4, x0_5, x0_6, x0_7]) = some [x0_0, x0_1, x0_2, x0_3, x0_4, x0_5, x0_6, x0_7] := by rw [vcells_agg]; simp [leafL_cons, leafL_nil, h]
 have q1 : vcells (.agg [x1_0, x1_1]) = some [x1_0, x1_1] := by rw [vcells_agg]; simp [leafL_cons, leafL_nil, h]
 have q2 : vcells (.agg [x2_0, x2_1]) = some [x2_0, x2_1] := by rw [vcells_agg]; simp [leafL_cons, leafL_nil, h]
 rw [vbuild_eq vzl102 (by kernel_rfl)]
 simp [vfill, p0, p1, p2, p3, vcells1, h, overwrite, q0, q1, q2]
theorem vb117_0_1 {x0_0 x1_0 : VV} (h : leafL [x0_0, x1_0] = true) : vbuild Tryz.prog 117 [(0, x0_0), (1, x1_0)] = some (.agg [x0_0, x1_0]) := by
 have p0 : placeT Tryz.prog 117 0 = some (0, 1) := by kernel_rfl
 have p1 : placeT Tryz.prog 117 1 = some (1, 1) := by kernel_rfl
 simp only [leafL_cons, leafL_nil, Bool.and_true, Bool.and_eq_true] at h
 rw [vbuild_eq vzl117 (by kernel_rfl)]
 simp [vfill, p0, p1, vcells1, h, overwrite]
theorem vb148_0 {x0_0 x0_1 : VV} (h : leafL [x0_0, x0_1] = true) : vbuild Tryz.prog 148 [(0, .agg [x0_0, x0_1])] = some (.agg [x0_0, x0_1]) := by
 have p0 : placeT Tryz.prog 148 0 = some (0, 2) := by kernel_rfl
 simp only [leafL_cons, leafL_nil, Bool.and_true, Bool.and_eq_true] at h
 have q0 : vcells (.agg [x0_0, x0_1]) = some [x0_0, x0_1] := by rw [vcells_agg]; simp [leafL_cons, leafL_nil, h]
 rw [vbuild_eq vzl148 (by kernel_rfl)]
 simp [vfill, p0, vcells1, h, overwrite, q0]
theorem vb152_0_1_2 {x0_0 x1_0 x2_0 : VV} (h : leafL [x0_0, x1_0, x2_0] = true) : vbuild Tryz.prog 152 [(0, x0_0), (1, x1_0), (2, x2_0)] = some (.agg [x0_0, x1_0, x2_0]) := by
 have p0 : placeT Tryz.prog 152 0 = some (0, 1) := by kernel_rfl
 have p1 : placeT Tryz.prog 152 1 = some (1, 1) := by kernel_rfl
 have p2 : placeT Tryz.prog 152 2 = some (2, 1) := by kernel_rfl
 simp only [leafL_cons, leafL_nil, Bool.and_true, Bool.and_eq_true] at h
 rw [vbuild_eq vzl152 (by kernel_rfl)]
 simp [vfill, p0, p1, p2, vcells1, h, overwrite]
theorem mi148 {x : VV} : mkIfcV Tryz.prog 148 x = some (.ifc 148 x) := by simp [mkIfcV, Tryz.underlying148]
theorem tz148 : ((Tryz.prog.info? 148).bind (·.zero)).map (fun z => VV.tup [ofVal2 z, .lit (.bool false)]) = some (.tup [.agg [.lit (.int .i64 0), .lit (.int .i64 0)], .lit (.bool false)]) := by kernel_rfl
theorem tn148 : vtypeAssert Tryz.prog (.lit .nilIface) 148 true = some (.tup [.agg [.lit (.int .i64 0), .lit (.int .i64 0)], .lit (.bool false)]) := by
 simp only [vtypeAssert, Tryz.underlying148, if_true]
 exact tz148
theorem tt148 {x : VV} : vtypeAssert Tryz.prog (.ifc 148 x) 148 true = some (.tup [x, .lit (.bool true)]) := by
 simp [vtypeAssert, Tryz.underlying148]
theorem be4 {H : Nat → Option VObj} {x y : Operand} {a b : Bool} : binV Tryz.prog H .eql 4 x y (.lit (.bool a)) (.lit (.bool b)) = some (.lit (.bool (a == b))) := bin_eqB Tryz.underlying4
theorem bn4 {H : Nat → Option VObj} {x y : Operand} {a b : Bool} : binV Tryz.prog H .neq 4 x y (.lit (.bool a)) (.lit (.bool b)) = some (.lit (.bool (a != b))) := bin_neB Tryz.underlying4
theorem sq34 {H : Nat → Option VObj} {x y : Operand} {a0 b0 : Int} {a1 b1 : Int} : binV Tryz.prog H .eql 34 x y (.agg [.lit (.int .i64 a0), .lit (.int .i64 a1)]) (.agg [.lit (.int .i64 b0), .lit (.int .i64 b1)]) = some (.lit (.bool (a0 == b0 && (a1 == b1)))) ∧ binV Tryz.prog H .neq 34 x y (.agg [.lit (.int .i64 a0), .lit (.int .i64 a1)]) (.agg [.lit (.int .i64 b0), .lit (.int .i64 b1)]) = some (.lit (.bool (!(a0 == b0 && (a1 == b1))))) := by
 refine binS (xs := [.int .i64 a0, .int .i64 a1]) (ys := [.int .i64 b0, .int .i64 b1]) (by simp [VV.val?, valL?]) (by simp [VV.val?, valL?]) Tryz.underlying34 (by kernel_rfl) (by kernel_rfl) ?_
 simp [eqF, ok1, eq1, Tryz.underlying3]
theorem se34 {H : Nat → Option VObj} {x y : Operand} {a0 b0 : Int} {a1 b1 : Int} : binV Tryz.prog H .eql 34 x y (.agg [.lit (.int .i64 a0), .lit (.int .i64 a1)]) (.agg [.lit (.int .i64 b0), .lit (.int .i64 b1)]) = some (.lit (.bool (a0 == b0 && (a1 == b1)))) := sq34.1
theorem sn34 {H : Nat → Option VObj} {x y : Operand} {a0 b0 : Int} {a1 b1 : Int} : binV Tryz.prog H .neq 34 x y (.agg [.lit (.int .i64 a0), .lit (.int .i64 a1)]) (.agg [.lit (.int .i64 b0), .lit (.int .i64 b1)]) = some (.lit (.bool (!(a0 == b0 && (a1 == b1))))) := sq34.2
theorem sq75 {H : Nat → Option VObj} {x y : Operand} {a0 b0 : Int} {a1 b1 : Int} : binV Tryz.prog H .eql 75 x y (.agg [.lit (.int .i64 a0), .lit (.int .i64 a1)]) (.agg [.lit (.int .i64 b0), .lit (.int .i64 b1)]) = some (.lit (.bool (a0 == b0 && (a1 == b1)))) ∧ binV Tryz.prog H .neq 75 x y (.agg [.lit (.int .i64 a0), .lit (.int .i64 a1)]) (.agg [.lit (.int .i64 b0), .lit (.int .i64 b1)]) = some (.lit (.bool (!(a0 == b0 && (a1 == b1))))) := by
 refine binS (xs := [.int .i64 a0, .int .i64 a1]) (ys := [.int .i64 b0, .int .i64 b1]) (by simp [VV.val?, valL?]) (by simp [VV.val?, valL?]) Tryz.underlying75 (by kernel_rfl) (by kernel_rfl) ?_
 simp [eqF, ok1, eq1, Tryz.underlying3, Tryz.underlying73]
theorem se75 {H : Nat → Option VObj} {x y : Operand} {a0 b0 : Int} {a1 b1 : Int} : binV Tryz.prog H .eql 75 x y (.agg [.lit (.int .i64 a0), .lit (.int .i64 a1)]) (.agg [.lit (.int .i64 b0), .lit (.int .i64 b1)]) = some (.lit (.bool (a0 == b0 && (a1 == b1)))) := sq75.1
theorem sn75 {H : Nat → Option VObj} {x y : Operand} {a0 b0 : Int} {a1 b1 : Int} : binV Tryz.prog H .neq 75 x y (.agg [.lit (.int .i64 a0), .lit (.int .i64 a1)]) (.agg [.lit (.int .i64 b0), .lit (.int .i64 b1)]) = some (.lit (.bool (!(a0 == b0 && (a1 == b1))))) := sq75.2
theorem leaf_nf : (VV.lit Value.nilFunc).leaf = true := rfl
theorem leaf_ni : (VV.lit Value.nilIface).leaf = true := rfl
def tyf := (And.intro (And.intro (And.intro (And.intro (And.intro (And.intro (And.intro @cGSpan_eq (And.intro @cGSightLetter_eq @cGSightBoard_eq)) (And.intro (And.intro @cGSightBlock_eq @cGSightStreet_eq) (And.intro @cGSightPlace_eq @cGSightFault_eq))) (And.intro (And.intro (And.intro @cGsightview_eq @cGsighthanging_eq) (And.intro @cGsightfault_eq @ld2)) (And.intro (And.intro @sz2 @vzl2) (And.intro @ld3 @sz3)))) (And.intro (And.intro (And.intro @vzl3 (And.intro @ld4 @sz4)) (And.intro (And.intro @vzl4 @ld9) (And.intro @sz9 @vzl9))) (And.intro (And.intro (And.intro @ld23 @sz23) (And.intro @vzl23 @fa23_0)) (And.intro (And.intro @fp23_0 @fa23_1) (And.intro @fp23_1 @ld24))))) (And.intro (And.intro (And.intro (And.intro @sz24 (And.intro @vzl24 @len24)) (And.intro (And.intro @lenN24 @lenR24) (And.intro @et24 @tk24))) (And.intro (And.intro (And.intro @bs24_1 @ld25) (And.intro @sz25 @vzl25)) (And.intro (And.intro @len25 @lenN25) (And.intro @lenR25 @et25)))) (And.intro (And.intro (And.intro (And.intro @tk25 @bs25_1) (And.intro @ld27 @sz27)) (And.intro (And.intro @vzl27 @fa27_0) (And.intro @fp27_0 @fa27_1))) (And.intro (And.intro (And.intro @fp27_1 @fa27_2) (And.intro @fp27_2 @fa27_3)) (And.intro (And.intro @fp27_3 @fa27_4) (And.intro @fp27_4 @fa27_5)))))) (And.intro (And.intro (And.intro (And.intro (And.intro @fp27_5 (And.intro @ld30 @sz30)) (And.intro (And.intro @vzl30 @ld34) (And.intro @sz34 @vzl34))) (And.intro (And.intro (And.intro @fa34_0 @fp34_0) (And.intro @fa34_1 @fp34_1)) (And.intro (And.intro @ld38 @sz38) (And.intro @vzl38 @len38)))) (And.intro (And.intro (And.intro @lenN38 (And.intro @lenR38 @et38)) (And.intro (And.intro @tk38 @bs38_1) (And.intro @ld40 @sz40))) (And.intro (And.intro (And.intro @vzl40 @fa40_0) (And.intro @fp40_0 @fa40_1)) (And.intro (And.intro @fp40_1 @ld41) (And.intro @sz41 @vzl41))))) (And.intro (And.intro (And.intro (And.intro @len41 (And.intro @lenN41 @lenR41)) (And.intro (And.intro @et41 @tk41) (And.intro @bs41_1 @ld46))) (And.intro (And.intro (And.intro @sz46 @vzl46) (And.intro @ld66 @sz66)) (And.intro (And.intro @vzl66 @fa66_0) (And.intro @fp66_0 @fa66_1)))) (And.intro (And.intro (And.intro (And.intro @fp66_1 @fa66_2) (And.intro @fp66_2 @fa66_3)) (And.intro (And.intro @fp66_3 @ld69) (And.intro @sz69 @vzl69))) (And.intro (And.intro (And.intro @fa69_0 @fp69_0) (And.intro @fa69_1 @fp69_1)) (And.intro (And.intro @fa69_2 @fp69_2) (And.intro @ld73 @sz73))))))) (And.intro (And.intro (And.intro (And.intro (And.intro (And.intro @vzl73 (And.intro @ld75 @sz75)) (And.intro (And.intro @vzl75 @fa75_0) (And.intro @fp75_0 @fa75_1))) (And.intro (And.intro (And.intro @fp75_1 @ld78) (And.intro @sz78 @vzl78)) (And.intro (And.intro @len78 @lenN78) (And.intro @lenR78 @et78)))) (And.intro (And.intro (And.intro @tk78 (And.intro @bs78_1 @bs78_2)) (And.intro (And.intro @bs78_3 @ld93) (And.intro @sz93 @vzl93))) (And.intro (And.intro (And.intro @len93 @lenN93) (And.intro @lenR93 @et93)) (And.intro (And.intro @tk93 @bs93_1) (And.intro @bs93_2 @bs93_3))))) (And.intro (And.intro (And.intro (And.intro @ld102 (And.intro @sz102 @vzl102)) (And.intro (And.intro @fa102_0 @fp102_0) (And.intro @fa102_1 @fp102_1))) (And.intro (And.intro (And.intro @fa102_2 @fp102_2) (And.intro @fa102_3 @fp102_3)) (And.intro (And.intro @ld117 @sz117) (And.intro @vzl117 @fa117_0)))) (And.intro (And.intro (And.intro (And.intro @fp117_0 @fa117_1) (And.intro @fp117_1 @ld148)) (And.intro (And.intro @sz148 @vzl148) (And.intro @fa148_0 @fp148_0))) (And.intro (And.intro (And.intro @sz1 @ld1) (And.intro @vzl1 @sz52)) (And.intro (And.intro @ld52 @vzl52) (And.intro @sz100 @ld100)))))) (And.intro (And.intro (And.intro (And.intro (And.intro @vzl100 (And.intro @sz107 @ld107)) (And.intro (And.intro @vzl107 @sz108) (And.intro @ld108 @vzl108))) (And.intro (And.intro (And.intro @sz120 @ld120) (And.intro @vzl120 @sz121)) (And.intro (And.intro @ld121 @vzl121) (And.intro @sz123 @ld123)))) (And.intro (And.intro (And.intro (And.intro @vzl123 @sz136) (And.intro @ld136 @vzl136)) (And.intro (And.intro @sz146 @ld146) (And.intro @vzl146 @sz151))) (And.intro (And.intro (And.intro @ld151 @vzl151) (And.intro @sz152 @vzl152)) (And.intro (And.intro @ld152 @vi152_0) (And.intro @va152_0 @vi152_1))))) (And.intro (And.intro (And.intro (And.intro @va152_1 (And.intro @vi152_2 @va152_2)) (And.intro (And.intro @vb23_0_1 @vb34) (And.intro @vb34_0_1 @vb66_0_1_2_3))) (And.intro (And.intro (And.intro @vb75 @vb75_0) (And.intro @vb75_0_1 @vb102_0_1_2_3)) (And.intro (And.intro @vb117_0_1 @vb148_0) (And.intro @vb152_0_1_2 @mi148)))) (And.intro (And.intro (And.intro (And.intro @tn148 @tt148) (And.intro @be4 @bn4)) (And.intro (And.intro @se34 @sn34) (And.intro @se75 @sn75))) (And.intro (And.intro (And.intro @leaf_nf @leaf_ni) (And.intro @midG_normal @eI_eq)) (And.intro (And.intro @eU8_eq @eB_eq) (And.intro @eS_eq @eSl_eq))))))))
def tynrm := (And.intro (And.intro (And.intro (And.intro (And.intro @cGSpan_ok.norm @cGSpan_ok.normL) (And.intro @cGSpan_ok.shown (And.intro @cGSpan_ok.showL @cGSightLetter_ok.norm))) (And.intro (And.intro @cGSightLetter_ok.normL @cGSightLetter_ok.shown) (And.intro @cGSightLetter_ok.showL (And.intro @cGSightBoard_ok.norm @cGSightBoard_ok.normL)))) (And.intro (And.intro (And.intro @cGSightBoard_ok.shown @cGSightBoard_ok.showL) (And.intro @cGSightBlock_ok.norm (And.intro @cGSightBlock_ok.normL @cGSightBlock_ok.shown))) (And.intro (And.intro @cGSightBlock_ok.showL @cGSightStreet_ok.norm) (And.intro @cGSightStreet_ok.normL (And.intro @cGSightStreet_ok.shown @cGSightStreet_ok.showL))))) (And.intro (And.intro (And.intro (And.intro @cGSightPlace_ok.norm @cGSightPlace_ok.normL) (And.intro @cGSightPlace_ok.shown (And.intro @cGSightPlace_ok.showL @cGSightFault_ok.norm))) (And.intro (And.intro @cGSightFault_ok.normL @cGSightFault_ok.shown) (And.intro @cGSightFault_ok.showL (And.intro @cGsightview_ok.norm @cGsightview_ok.normL)))) (And.intro (And.intro (And.intro @cGsightview_ok.shown @cGsightview_ok.showL) (And.intro @cGsighthanging_ok.norm (And.intro @cGsighthanging_ok.normL @cGsighthanging_ok.shown))) (And.intro (And.intro @cGsighthanging_ok.showL @cGsightfault_ok.norm) (And.intro @cGsightfault_ok.normL (And.intro @cGsightfault_ok.shown @cGsightfault_ok.showL))))))
def tytre := (And.intro (And.intro (And.intro (And.intro @cGSpan_ok.tree @cGSpan_ok.treeL) (And.intro @cGSightLetter_ok.tree (And.intro @cGSightLetter_ok.treeL @cGSightBoard_ok.tree))) (And.intro (And.intro @cGSightBoard_ok.treeL @cGSightBlock_ok.tree) (And.intro @cGSightBlock_ok.treeL (And.intro @cGSightStreet_ok.tree @cGSightStreet_ok.treeL)))) (And.intro (And.intro (And.intro @cGSightPlace_ok.tree @cGSightPlace_ok.treeL) (And.intro @cGSightFault_ok.tree (And.intro @cGSightFault_ok.treeL @cGsightview_ok.tree))) (And.intro (And.intro @cGsightview_ok.treeL @cGsighthanging_ok.tree) (And.intro @cGsighthanging_ok.treeL (And.intro @cGsightfault_ok.tree @cGsightfault_ok.treeL)))))
end Go.V
end
