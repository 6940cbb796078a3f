/- Part of a proof: a logic of values by content, lifted functions, what follows. -/
import Derived.Test.YtbpeickbdiihcaaGreatDoorZbe
import Derived.Test.YtbpeickbdiihcaaGreatDoorProg
set_option linter.all false
set_option maxRecDepth 4000
set_option maxHeartbeats 4000000
section
namespace Go.V
open Go Go.Proofs
def G0 : Glob := ⟨fun _ => none, some none⟩
theorem mixed : Tryz.prog.follows .mixedOrders = true := by kernel_rfl
structure GSpan where
 Low : Int
 High : Int
 deriving Inhabited, DecidableEq
def cGSpan (x : GSpan) : List VV := [.lit (.int .i64 x.Low), .lit (.int .i64 x.High)]
theorem cGSpan_eq {x : GSpan} : cGSpan x = [.lit (.int .i64 x.Low), .lit (.int .i64 x.High)] := rfl
theorem cGSpan_ok : EncOk cGSpan := EncOk.of (fun x => by simp only [cGSpan_eq, tre, Bool.and_self]) (fun x => by simp only [cGSpan_eq, nrm]) (fun x H d => by simp only [cGSpan_eq, nrm, List.map_cons, List.map_nil])
structure GSightLetter where
 Height : Int
 Width : Int
 Stroke : Int
 Space : Int
 deriving Inhabited, DecidableEq
def cGSightLetter (x : GSightLetter) : List VV := [.lit (.int .i64 x.Height), .lit (.int .i64 x.Width), .lit (.int .i64 x.Stroke), .lit (.int .i64 x.Space)]
theorem cGSightLetter_eq {x : GSightLetter} : cGSightLetter x = [.lit (.int .i64 x.Height), .lit (.int .i64 x.Width), .lit (.int .i64 x.Stroke), .lit (.int .i64 x.Space)] := rfl
theorem cGSightLetter_ok : EncOk cGSightLetter := EncOk.of (fun x => by simp only [cGSightLetter_eq, tre, cGSpan_ok.tree, cGSpan_ok.treeL, Bool.and_self]) (fun x => by simp only [cGSightLetter_eq, nrm, cGSpan_ok.norm, cGSpan_ok.normL, cGSpan_ok.shown, cGSpan_ok.showL]) (fun x H d => by simp only [cGSightLetter_eq, nrm, List.map_cons, List.map_nil])
structure GSightBoard where
 At : Int
 Letters : List GSightLetter
 deriving Inhabited, DecidableEq
def cGSightBoard (x : GSightBoard) : List VV := [.lit (.int .i64 x.At), .sl (cellsL cGSightLetter x.Letters) (List.length x.Letters) false]
theorem cGSightBoard_eq {x : GSightBoard} : cGSightBoard x = [.lit (.int .i64 x.At), .sl (cellsL cGSightLetter x.Letters) (List.length x.Letters) false] := rfl
theorem cGSightBoard_ok : EncOk cGSightBoard := EncOk.of (fun x => by simp only [cGSightBoard_eq, tre, cGSpan_ok.tree, cGSpan_ok.treeL, cGSightLetter_ok.tree, cGSightLetter_ok.treeL, Bool.and_self]) (fun x => by simp only [cGSightBoard_eq, nrm, cGSpan_ok.norm, cGSpan_ok.normL, cGSpan_ok.shown, cGSpan_ok.showL, cGSightLetter_ok.norm, cGSightLetter_ok.normL, cGSightLetter_ok.shown, cGSightLetter_ok.showL]) (fun x H d => by simp only [cGSightBoard_eq, nrm, List.map_cons, List.map_nil])
structure GSightBlock where
 Along : GSpan
 Across : GSpan
 Sure : Bool
 deriving Inhabited, DecidableEq
def cGSightBlock (x : GSightBlock) : List VV := [.lit (.int .i64 x.Along.Low), .lit (.int .i64 x.Along.High), .lit (.int .i64 x.Across.Low), .lit (.int .i64 x.Across.High), .lit (.bool x.Sure)]
theorem cGSightBlock_eq {x : GSightBlock} : cGSightBlock x = [.lit (.int .i64 x.Along.Low), .lit (.int .i64 x.Along.High), .lit (.int .i64 x.Across.Low), .lit (.int .i64 x.Across.High), .lit (.bool x.Sure)] := rfl
theorem cGSightBlock_ok : EncOk cGSightBlock := EncOk.of (fun x => by simp only [cGSightBlock_eq, tre, cGSpan_ok.tree, cGSpan_ok.treeL, cGSightLetter_ok.tree, cGSightLetter_ok.treeL, cGSightBoard_ok.tree, cGSightBoard_ok.treeL, Bool.and_self]) (fun x => by simp only [cGSightBlock_eq, nrm, cGSpan_ok.norm, cGSpan_ok.normL, cGSpan_ok.shown, cGSpan_ok.showL, cGSightLetter_ok.norm, cGSightLetter_ok.normL, cGSightLetter_ok.shown, cGSightLetter_ok.showL, cGSightBoard_ok.norm, cGSightBoard_ok.normL, cGSightBoard_ok.shown, cGSightBoard_ok.showL]) (fun x H d => by simp only [cGSightBlock_eq, nrm, List.map_cons, List.map_nil])
structure GSightStreet where
 Length : Int
 Width : Int
 Eye : GSpan
 Light : GSpan
 Boards : List GSightBoard
 Blocks : List GSightBlock
 deriving Inhabited, DecidableEq
def cGSightStreet (x : GSightStreet) : List VV := [.lit (.int .i64 x.Length), .lit (.int .i64 x.Width), .lit (.int .i64 x.Eye.Low), .lit (.int .i64 x.Eye.High), .lit (.int .i64 x.Light.Low), .lit (.int .i64 x.Light.High), .sl (cellsL cGSightBoard x.Boards) (List.length x.Boards) false, .sl (cellsL cGSightBlock x.Blocks) (List.length x.Blocks) false]
theorem cGSightStreet_eq {x : GSightStreet} : cGSightStreet x = [.lit (.int .i64 x.Length), .lit (.int .i64 x.Width), .lit (.int .i64 x.Eye.Low), .lit (.int .i64 x.Eye.High), .lit (.int .i64 x.Light.Low), .lit (.int .i64 x.Light.High), .sl (cellsL cGSightBoard x.Boards) (List.length x.Boards) false, .sl (cellsL cGSightBlock x.Blocks) (List.length x.Blocks) false] := rfl
theorem cGSightStreet_ok : EncOk cGSightStreet := EncOk.of (fun x => by simp only [cGSightStreet_eq, tre, cGSpan_ok.tree, cGSpan_ok.treeL, cGSightLetter_ok.tree, cGSightLetter_ok.treeL, cGSightBoard_ok.tree, cGSightBoard_ok.treeL, cGSightBlock_ok.tree, cGSightBlock_ok.treeL, Bool.and_self]) (fun x => by simp only [cGSightStreet_eq, nrm, cGSpan_ok.norm, cGSpan_ok.normL, cGSpan_ok.shown, cGSpan_ok.showL, cGSightLetter_ok.norm, cGSightLetter_ok.normL, cGSightLetter_ok.shown, cGSightLetter_ok.showL, cGSightBoard_ok.norm, cGSightBoard_ok.normL, cGSightBoard_ok.shown, cGSightBoard_ok.showL, cGSightBlock_ok.norm, cGSightBlock_ok.normL, cGSightBlock_ok.shown, cGSightBlock_ok.showL]) (fun x H d => by simp only [cGSightStreet_eq, nrm, List.map_cons, List.map_nil])
structure GSightPlace where
 Along : Int
 Across : Int
 deriving Inhabited, DecidableEq
def cGSightPlace (x : GSightPlace) : List VV := [.lit (.int .i64 x.Along), .lit (.int .i64 x.Across)]
theorem cGSightPlace_eq {x : GSightPlace} : cGSightPlace x = [.lit (.int .i64 x.Along), .lit (.int .i64 x.Across)] := rfl
theorem cGSightPlace_ok : EncOk cGSightPlace := EncOk.of (fun x => by simp only [cGSightPlace_eq, tre, cGSpan_ok.tree, cGSpan_ok.treeL, cGSightLetter_ok.tree, cGSightLetter_ok.treeL, cGSightBoard_ok.tree, cGSightBoard_ok.treeL, cGSightBlock_ok.tree, cGSightBlock_ok.treeL, cGSightStreet_ok.tree, cGSightStreet_ok.treeL, Bool.and_self]) (fun x => by simp only [cGSightPlace_eq, nrm, cGSpan_ok.norm, cGSpan_ok.normL, cGSpan_ok.shown, cGSpan_ok.showL, cGSightLetter_ok.norm, cGSightLetter_ok.normL, cGSightLetter_ok.shown, cGSightLetter_ok.showL, cGSightBoard_ok.norm, cGSightBoard_ok.normL, cGSightBoard_ok.shown, cGSightBoard_ok.showL, cGSightBlock_ok.norm, cGSightBlock_ok.normL, cGSightBlock_ok.shown, cGSightBlock_ok.showL, cGSightStreet_ok.norm, cGSightStreet_ok.normL, cGSightStreet_ok.shown, cGSightStreet_ok.showL]) (fun x H d => by simp only [cGSightPlace_eq, nrm, List.map_cons, List.map_nil])
structure GSightFault where
 Kind : Int
 Number : Int
 deriving Inhabited, DecidableEq
def cGSightFault (x : GSightFault) : List VV := [.lit (.int .i64 x.Kind), .lit (.int .i64 x.Number)]
theorem cGSightFault_eq {x : GSightFault} : cGSightFault x = [.lit (.int .i64 x.Kind), .lit (.int .i64 x.Number)] := rfl
theorem cGSightFault_ok : EncOk cGSightFault := EncOk.of (fun x => by simp only [cGSightFault_eq, tre, cGSpan_ok.tree, cGSpan_ok.treeL, cGSightLetter_ok.tree, cGSightLetter_ok.treeL, cGSightBoard_ok.tree, cGSightBoard_ok.treeL, cGSightBlock_ok.tree, cGSightBlock_ok.treeL, cGSightStreet_ok.tree, cGSightStreet_ok.treeL, cGSightPlace_ok.tree, cGSightPlace_ok.treeL, Bool.and_self]) (fun x => by simp only [cGSightFault_eq, nrm, cGSpan_ok.norm, cGSpan_ok.normL, cGSpan_ok.shown, cGSpan_ok.showL, cGSightLetter_ok.norm, cGSightLetter_ok.normL, cGSightLetter_ok.shown, cGSightLetter_ok.showL, cGSightBoard_ok.norm, cGSightBoard_ok.normL, cGSightBoard_ok.shown, cGSightBoard_ok.showL, cGSightBlock_ok.norm, cGSightBlock_ok.normL, cGSightBlock_ok.shown, cGSightBlock_ok.showL, cGSightStreet_ok.norm, cGSightStreet_ok.normL, cGSightStreet_ok.shown, cGSightStreet_ok.showL, cGSightPlace_ok.norm, cGSightPlace_ok.normL, cGSightPlace_ok.shown, cGSightPlace_ok.showL]) (fun x H d => by simp only [cGSightFault_eq, nrm, List.map_cons, List.map_nil])
structure Gsightview where
 SightStreet : GSightStreet
 SightPlace : GSightPlace
 board : GSightBoard
 power : Int
 deriving Inhabited, DecidableEq
def cGsightview (x : Gsightview) : List VV := [.lit (.int .i64 x.SightStreet.Length), .lit (.int .i64 x.SightStreet.Width), .lit (.int .i64 x.SightStreet.Eye.Low), .lit (.int .i64 x.SightStreet.Eye.High), .lit (.int .i64 x.SightStreet.Light.Low), .lit (.int .i64 x.SightStreet.Light.High), .sl (cellsL cGSightBoard x.SightStreet.Boards) (List.length x.SightStreet.Boards) false, .sl (cellsL cGSightBlock x.SightStreet.Blocks) (List.length x.SightStreet.Blocks) false, .lit (.int .i64 x.SightPlace.Along), .lit (.int .i64 x.SightPlace.Across), .lit (.int .i64 x.board.At), .sl (cellsL cGSightLetter x.board.Letters) (List.length x.board.Letters) false, .lit (.int .i64 x.power)]
theorem cGsightview_eq {x : Gsightview} : cGsightview x = [.lit (.int .i64 x.SightStreet.Length), .lit (.int .i64 x.SightStreet.Width), .lit (.int .i64 x.SightStreet.Eye.Low), .lit (.int .i64 x.SightStreet.Eye.High), .lit (.int .i64 x.SightStreet.Light.Low), .lit (.int .i64 x.SightStreet.Light.High), .sl (cellsL cGSightBoard x.SightStreet.Boards) (List.length x.SightStreet.Boards) false, .sl (cellsL cGSightBlock x.SightStreet.Blocks) (List.length x.SightStreet.Blocks) false, .lit (.int .i64 x.SightPlace.Along), .lit (.int .i64 x.SightPlace.Across), .lit (.int .i64 x.board.At), .sl (cellsL cGSightLetter x.board.Letters) (List.length x.board.Letters) false, .lit (.int .i64 x.power)] := rfl
theorem cGsightview_ok : EncOk cGsightview := EncOk.of (fun x => by simp only [cGsightview_eq, tre, cGSpan_ok.tree, cGSpan_ok.treeL, cGSightLetter_ok.tree, cGSightLetter_ok.treeL, cGSightBoard_ok.tree, cGSightBoard_ok.treeL, cGSightBlock_ok.tree, cGSightBlock_ok.treeL, cGSightStreet_ok.tree, cGSightStreet_ok.treeL, cGSightPlace_ok.tree, cGSightPlace_ok.treeL, cGSightFault_ok.tree, cGSightFault_ok.treeL, Bool.and_self]) (fun x => by simp only [cGsightview_eq, nrm, cGSpan_ok.norm, cGSpan_ok.normL, cGSpan_ok.shown, cGSpan_ok.showL, cGSightLetter_ok.norm, cGSightLetter_ok.normL, cGSightLetter_ok.shown, cGSightLetter_ok.showL, cGSightBoard_ok.norm, cGSightBoard_ok.normL, cGSightBoard_ok.shown, cGSightBoard_ok.showL, cGSightBlock_ok.norm, cGSightBlock_ok.normL, cGSightBlock_ok.shown, cGSightBlock_ok.showL, cGSightStreet_ok.norm, cGSightStreet_ok.normL, cGSightStreet_ok.shown, cGSightStreet_ok.showL, cGSightPlace_ok.norm, cGSightPlace_ok.normL, cGSightPlace_ok.shown, cGSightPlace_ok.showL, cGSightFault_ok.norm, cGSightFault_ok.normL, cGSightFault_ok.shown, cGSightFault_ok.showL]) (fun x H d => by simp only [cGsightview_eq, nrm, List.map_cons, List.map_nil])
structure Gsightfault where
 SightFault : GSightFault
 deriving Inhabited, DecidableEq
def cGsightfault (x : Gsightfault) : List VV := [.lit (.int .i64 x.SightFault.Kind), .lit (.int .i64 x.SightFault.Number)]
theorem cGsightfault_eq {x : Gsightfault} : cGsightfault x = [.lit (.int .i64 x.SightFault.Kind), .lit (.int .i64 x.SightFault.Number)] := rfl
theorem cGsightfault_ok : EncOk cGsightfault := EncOk.of (fun x => by simp only [cGsightfault_eq, tre, cGSpan_ok.tree, cGSpan_ok.treeL, cGSightLetter_ok.tree, cGSightLetter_ok.treeL, cGSightBoard_ok.tree, cGSightBoard_ok.treeL, cGSightBlock_ok.tree, cGSightBlock_ok.treeL, cGSightStreet_ok.tree, cGSightStreet_ok.treeL, cGSightPlace_ok.tree, cGSightPlace_ok.treeL, cGSightFault_ok.tree, cGSightFault_ok.treeL, cGsightview_ok.tree, cGsightview_ok.treeL, Bool.and_self]) (fun x => by simp only [cGsightfault_eq, nrm, cGSpan_ok.norm, cGSpan_ok.normL, cGSpan_ok.shown, cGSpan_ok.showL, cGSightLetter_ok.norm, cGSightLetter_ok.normL, cGSightLetter_ok.shown, cGSightLetter_ok.showL, cGSightBoard_ok.norm, cGSightBoard_ok.normL, cGSightBoard_ok.shown, cGSightBoard_ok.showL, cGSightBlock_ok.norm, cGSightBlock_ok.normL, cGSightBlock_ok.shown, cGSightBlock_ok.showL, cGSightStreet_ok.norm, cGSightStreet_ok.normL, cGSightStreet_ok.shown, cGSightStreet_ok.showL, cGSightPlace_ok.norm, cGSightPlace_ok.normL, cGSightPlace_ok.shown, cGSightPlace_ok.showL, cGSightFault_ok.norm, cGSightFault_ok.normL, cGSightFault_ok.shown, cGSightFault_ok.showL, cGsightview_ok.norm, cGsightview_ok.normL, cGsightview_ok.shown, cGsightview_ok.showL]) (fun x H d => by simp only [cGsightfault_eq, nrm, List.map_cons, List.map_nil])
theorem ld2 {c : VV} {cs : List VV} : vload Tryz.prog 2 (c :: cs) = some c := by
 have h1 : aggT Tryz.prog 2 = some false := by kernel_rfl
 simp [vload, vpart, h1]
theorem sz2 : szT Tryz.prog 2 = some 1 := by kernel_rfl
theorem vzl2 : vzl Tryz.prog 2 = some [.lit (.int .i64 0)] := by kernel_rfl
theorem ld3 {c : VV} {cs : List VV} : vload Tryz.prog 3 (c :: cs) = some c := by
 have h1 : aggT Tryz.prog 3 = some false := by kernel_rfl
 simp [vload, vpart, h1]
theorem sz3 : szT Tryz.prog 3 = some 1 := by kernel_rfl
theorem vzl3 : vzl Tryz.prog 3 = some [.lit (.int .i64 0)] := by kernel_rfl
theorem ld4 {c : VV} {cs : List VV} : vload Tryz.prog 4 (c :: cs) = some c := by
 have h1 : aggT Tryz.prog 4 = some false := by kernel_rfl
 simp [vload, vpart, h1]
theorem sz4 : szT Tryz.prog 4 = some 1 := by kernel_rfl
theorem vzl4 : vzl Tryz.prog 4 = some [.lit (.bool false)] := by kernel_rfl
theorem ld9 {c : VV} {cs : List VV} : vload Tryz.prog 9 (c :: cs) = some c := by
 have h1 : aggT Tryz.prog 9 = some false := by kernel_rfl
 simp [vload, vpart, h1]
theorem sz9 : szT Tryz.prog 9 = some 1 := by kernel_rfl
theorem vzl9 : vzl Tryz.prog 9 = some [.lit (.string ⟨#[]⟩)] := by kernel_rfl
theorem ld23 {c0 c1 : VV} {cs : List VV} : vload Tryz.prog 23 (c0 :: c1 :: cs) = some (.agg [c0, c1]) := by
 have h1 : aggT Tryz.prog 23 = some true := by kernel_rfl
 have h2 : szT Tryz.prog 23 = some 2 := by kernel_rfl
 simp [vload, vpart, h1, h2]
theorem sz23 : szT Tryz.prog 23 = some 2 := by kernel_rfl
theorem vzl23 : vzl Tryz.prog 23 = some [.lit (.int .i64 0), .lit (.int .i64 0)] := by kernel_rfl
theorem fa23_0 {H : Nat → Option VObj} {cs : List VV} : vfieldAddr Tryz.prog H 23 (.tp cs) 0 = some (.tp (cs.drop 0)) := by
 have h2 : szT Tryz.prog 3 = some 1 := by kernel_rfl
 simp [vfieldAddr, Tryz.underlying23, h2]
theorem fp23_0 {H : Nat → Option VObj} {β o : Nat} : vfieldAddr Tryz.prog H 23 (.ptr β o) 0 = if (H β).isSome = true then some (.ptr β (o + 0)) else none := by
 have h2 : szT Tryz.prog 3 = some 1 := by kernel_rfl
 simp [vfieldAddr, Tryz.underlying23, h2]
theorem fa23_1 {H : Nat → Option VObj} {cs : List VV} : vfieldAddr Tryz.prog H 23 (.tp cs) 1 = some (.tp (cs.drop 1)) := by
 have h2 : szT Tryz.prog 3 = some 1 := by kernel_rfl
 simp [vfieldAddr, Tryz.underlying23, h2]
theorem fp23_1 {H : Nat → Option VObj} {β o : Nat} : vfieldAddr Tryz.prog H 23 (.ptr β o) 1 = if (H β).isSome = true then some (.ptr β (o + 1)) else none := by
 have h2 : szT Tryz.prog 3 = some 1 := by kernel_rfl
 simp [vfieldAddr, Tryz.underlying23, h2]
theorem ld24 {c : VV} {cs : List VV} : vload Tryz.prog 24 (c :: cs) = some c := by
 have h1 : aggT Tryz.prog 24 = some false := by kernel_rfl
 simp [vload, vpart, h1]
theorem sz24 : szT Tryz.prog 24 = some 1 := by kernel_rfl
theorem vzl24 : vzl Tryz.prog 24 = some [.lit (.slice none 0 0)] := by kernel_rfl
theorem len24 {H : Nat → Option VObj} {cs : List VV} {n : Nat} {f : Bool} : vlen Tryz.prog H 24 (.sl cs n f) = some (.lit (.int .i64 n)) := by simp [vlen, Tryz.underlying24, sls]
theorem lenN24 {H : Nat → Option VObj} : vlen Tryz.prog H 24 (.lit (.slice none 0 0)) = some (.lit (.int .i64 0)) := by simp [vlen, Tryz.underlying24, sls]
theorem lenR24 {H : Nat → Option VObj} {β off n w c : Nat} : vlen Tryz.prog H 24 (.ref β off n w c) = (match H β with | some (.cells _ cs) => if off ≤ cs.length then some (.lit (.int .i64 n)) else none | _ => none) := lenR Tryz.underlying24
theorem et24 : elemT Tryz.prog 24 = some 42 := by simp [elemT, Tryz.underlying24]
theorem ao24 : appOk Tryz.prog 24 = some (42, 2, 32) := by kernel_rfl
theorem tk24 {xs : List GSightBoard} : (cellsL cGSightBoard xs).take (xs.length * 2) = cellsL cGSightBoard xs := take_cells (fun _ => rfl)
theorem lf24 : ∀ x : GSightBoard, leafL (cGSightBoard x) = true := fun x => by simp only [eI_eq, eU8_eq, eB_eq, eS_eq, eSl_eq, cGSightBoard_eq, leafL_nil, leafL_cons, leaf_int, leaf_bool, leaf_string, leaf_slice, leaf_sl, Bool.and_self]
theorem bs24_1 {c0 c1 : VV} (h : leafL [c0, c1] = true) : vbuildSlice Tryz.prog 24 1 [(0, .agg [c0, c1])] = some ([c0, c1], 2) := by
 have h2 : szT Tryz.prog 42 = some 2 := by kernel_rfl
 have h3 : vzero Tryz.prog 42 = some #[.int .i64 0, .slice none 0 0] := by kernel_rfl
 simp only [leafL_cons, leafL_nil, Bool.and_true, Bool.and_eq_true] at h
 simp [vbuildSlice, Tryz.underlying24, h2, h3, vfill, vcells, h, overwrite, vzeros]
theorem ix24 {H : Nat → Option VObj} {xs : List GSightBoard} {x : GSightBoard} {f : Bool} {k : IntKind} {i : Int} (h : getI xs i = some x) : vindexAddr Tryz.prog H 24 (.sl (cellsL cGSightBoard xs) xs.length f) (.lit (.int k i)) = some (.tp (cGSightBoard x ++ cellsL cGSightBoard (xs.drop (i.toNat + 1)))) :=
 ixG Tryz.underlying24 (by kernel_rfl : szT Tryz.prog 42 = some 2) (by decide) (fun _ => rfl) h
theorem ld25 {c : VV} {cs : List VV} : vload Tryz.prog 25 (c :: cs) = some c := by
 have h1 : aggT Tryz.prog 25 = some false := by kernel_rfl
 simp [vload, vpart, h1]
theorem sz25 : szT Tryz.prog 25 = some 1 := by kernel_rfl
theorem vzl25 : vzl Tryz.prog 25 = some [.lit (.slice none 0 0)] := by kernel_rfl
theorem len25 {H : Nat → Option VObj} {cs : List VV} {n : Nat} {f : Bool} : vlen Tryz.prog H 25 (.sl cs n f) = some (.lit (.int .i64 n)) := by simp [vlen, Tryz.underlying25, sls]
theorem lenN25 {H : Nat → Option VObj} : vlen Tryz.prog H 25 (.lit (.slice none 0 0)) = some (.lit (.int .i64 0)) := by simp [vlen, Tryz.underlying25, sls]
theorem lenR25 {H : Nat → Option VObj} {β off n w c : Nat} : vlen Tryz.prog H 25 (.ref β off n w c) = (match H β with | some (.cells _ cs) => if off ≤ cs.length then some (.lit (.int .i64 n)) else none | _ => none) := lenR Tryz.underlying25
theorem et25 : elemT Tryz.prog 25 = some 68 := by simp [elemT, Tryz.underlying25]
theorem ao25 : appOk Tryz.prog 25 = some (68, 5, 40) := by kernel_rfl
theorem tk25 {xs : List GSightBlock} : (cellsL cGSightBlock xs).take (xs.length * 5) = cellsL cGSightBlock xs := take_cells (fun _ => rfl)
theorem lf25 : ∀ x : GSightBlock, leafL (cGSightBlock x) = true := fun x => by simp only [eI_eq, eU8_eq, eB_eq, eS_eq, eSl_eq, cGSightBlock_eq, leafL_nil, leafL_cons, leaf_int, leaf_bool, leaf_string, leaf_slice, leaf_sl, Bool.and_self]
theorem bs25_1 {c0 c1 c2 c3 c4 : VV} (h : leafL [c0, c1, c2, c3, c4] = true) : vbuildSlice Tryz.prog 25 1 [(0, .agg [c0, c1, c2, c3, c4])] = some ([c0, c1, c2, c3, c4], 5) := by
 have h2 : szT Tryz.prog 68 = some 5 := by kernel_rfl
 have h3 : vzero Tryz.prog 68 = some #[.int .i64 0, .int .i64 0, .int .i64 0, .int .i64 0, .bool false] := by kernel_rfl
 simp only [leafL_cons, leafL_nil, Bool.and_true, Bool.and_eq_true] at h
 simp [vbuildSlice, Tryz.underlying25, h2, h3, vfill, vcells, h, overwrite, vzeros]
theorem ix25 {H : Nat → Option VObj} {xs : List GSightBlock} {x : GSightBlock} {f : Bool} {k : IntKind} {i : Int} (h : getI xs i = some x) : vindexAddr Tryz.prog H 25 (.sl (cellsL cGSightBlock xs) xs.length f) (.lit (.int k i)) = some (.tp (cGSightBlock x ++ cellsL cGSightBlock (xs.drop (i.toNat + 1)))) :=
 ixG Tryz.underlying25 (by kernel_rfl : szT Tryz.prog 68 = some 5) (by decide) (fun _ => rfl) h
theorem ld27 {c0 c1 c2 c3 c4 c5 c6 c7 : VV} {cs : List VV} : vload Tryz.prog 27 (c0 :: c1 :: c2 :: c3 :: c4 :: c5 :: c6 :: c7 :: cs) = some (.agg [c0, c1, c2, c3, c4, c5, c6, c7]) := by
 have h1 : aggT Tryz.prog 27 = some true := by kernel_rfl
 have h2 : szT Tryz.prog 27 = some 8 := by kernel_rfl
 simp [vload, vpart, h1, h2]
theorem sz27 : szT Tryz.prog 27 = some 8 := by kernel_rfl
theorem vzl27 : vzl Tryz.prog 27 = some [.lit (.int .i64 0), .lit (.int .i64 0), .lit (.int .i64 0), .lit (.int .i64 0), .lit (.int .i64 0), .lit (.int .i64 0), .lit (.slice none 0 0), .lit (.slice none 0 0)] := by kernel_rfl
theorem fa27_0 {H : Nat → Option VObj} {cs : List VV} : vfieldAddr Tryz.prog H 27 (.tp cs) 0 = some (.tp (cs.drop 0)) := by
 have h2 : szT Tryz.prog 3 = some 1 := by kernel_rfl
 simp [vfieldAddr, Tryz.underlying27, h2]
theorem fp27_0 {H : Nat → Option VObj} {β o : Nat} : vfieldAddr Tryz.prog H 27 (.ptr β o) 0 = if (H β).isSome = true then some (.ptr β (o + 0)) else none := by
 have h2 : szT Tryz.prog 3 = some 1 := by kernel_rfl
 simp [vfieldAddr, Tryz.underlying27, h2]
theorem fa27_1 {H : Nat → Option VObj} {cs : List VV} : vfieldAddr Tryz.prog H 27 (.tp cs) 1 = some (.tp (cs.drop 1)) := by
 have h2 : szT Tryz.prog 3 = some 1 := by kernel_rfl
 simp [vfieldAddr, Tryz.underlying27, h2]
theorem fp27_1 {H : Nat → Option VObj} {β o : Nat} : vfieldAddr Tryz.prog H 27 (.ptr β o) 1 = if (H β).isSome = true then some (.ptr β (o + 1)) else none := by
 have h2 : szT Tryz.prog 3 = some 1 := by kernel_rfl
 simp [vfieldAddr, Tryz.underlying27, h2]
theorem fa27_2 {H : Nat → Option VObj} {cs : List VV} : vfieldAddr Tryz.prog H 27 (.tp cs) 2 = some (.tp (cs.drop 2)) := by
 have h2 : szT Tryz.prog 23 = some 2 := by kernel_rfl
 simp [vfieldAddr, Tryz.underlying27, h2]
theorem fp27_2 {H : Nat → Option VObj} {β o : Nat} : vfieldAddr Tryz.prog H 27 (.ptr β o) 2 = if (H β).isSome = true then some (.ptr β (o + 2)) else none := by
 have h2 : szT Tryz.prog 23 = some 2 := by kernel_rfl
 simp [vfieldAddr, Tryz.underlying27, h2]
theorem fa27_3 {H : Nat → Option VObj} {cs : List VV} : vfieldAddr Tryz.prog H 27 (.tp cs) 3 = some (.tp (cs.drop 4)) := by
 have h2 : szT Tryz.prog 23 = some 2 := by kernel_rfl
 simp [vfieldAddr, Tryz.underlying27, h2]
theorem fp27_3 {H : Nat → Option VObj} {β o : Nat} : vfieldAddr Tryz.prog H 27 (.ptr β o) 3 = if (H β).isSome = true then some (.ptr β (o + 4)) else none := by
 have h2 : szT Tryz.prog 23 = some 2 := by kernel_rfl
 simp [vfieldAddr, Tryz.underlying27, h2]
theorem fa27_4 {H : Nat → Option VObj} {cs : List VV} : vfieldAddr Tryz.prog H 27 (.tp cs) 4 = some (.tp (cs.drop 6)) := by
 have h2 : szT Tryz.prog 24 = some 1 := by kernel_rfl
 simp [vfieldAddr, Tryz.underlying27, h2]
theorem fp27_4 {H : Nat → Option VObj} {β o : Nat} : vfieldAddr Tryz.prog H 27 (.ptr β o) 4 = if (H β).isSome = true then some (.ptr β (o + 6)) else none := by
 have h2 : szT Tryz.prog 24 = some 1 := by kernel_rfl
 simp [vfieldAddr, Tryz.underlying27, h2]
theorem fa27_5 {H : Nat → Option VObj} {cs : List VV} : vfieldAddr Tryz.prog H 27 (.tp cs) 5 = some (.tp (cs.drop 7)) := by
 have h2 : szT Tryz.prog 25 = some 1 := by kernel_rfl
 simp [vfieldAddr, Tryz.underlying27, h2]
theorem fp27_5 {H : Nat → Option VObj} {β o : Nat} : vfieldAddr Tryz.prog H 27 (.ptr β o) 5 = if (H β).isSome = true then some (.ptr β (o + 7)) else none := by
 have h2 : szT Tryz.prog 25 = some 1 := by kernel_rfl
 simp [vfieldAddr, Tryz.underlying27, h2]
theorem ld29 {c0 c1 : VV} {cs : List VV} : vload Tryz.prog 29 (c0 :: c1 :: cs) = some (.agg [c0, c1]) := by
 have h1 : aggT Tryz.prog 29 = some true := by kernel_rfl
 have h2 : szT Tryz.prog 29 = some 2 := by kernel_rfl
 simp [vload, vpart, h1, h2]
theorem sz29 : szT Tryz.prog 29 = some 2 := by kernel_rfl
theorem vzl29 : vzl Tryz.prog 29 = some [.lit (.int .i64 0), .lit (.int .i64 0)] := by kernel_rfl
theorem fa29_0 {H : Nat → Option VObj} {cs : List VV} : vfieldAddr Tryz.prog H 29 (.tp cs) 0 = some (.tp (cs.drop 0)) := by
 have h2 : szT Tryz.prog 3 = some 1 := by kernel_rfl
 simp [vfieldAddr, Tryz.underlying29, h2]
theorem fp29_0 {H : Nat → Option VObj} {β o : Nat} : vfieldAddr Tryz.prog H 29 (.ptr β o) 0 = if (H β).isSome = true then some (.ptr β (o + 0)) else none := by
 have h2 : szT Tryz.prog 3 = some 1 := by kernel_rfl
 simp [vfieldAddr, Tryz.underlying29, h2]
theorem fa29_1 {H : Nat → Option VObj} {cs : List VV} : vfieldAddr Tryz.prog H 29 (.tp cs) 1 = some (.tp (cs.drop 1)) := by
 have h2 : szT Tryz.prog 3 = some 1 := by kernel_rfl
 simp [vfieldAddr, Tryz.underlying29, h2]
theorem fp29_1 {H : Nat → Option VObj} {β o : Nat} : vfieldAddr Tryz.prog H 29 (.ptr β o) 1 = if (H β).isSome = true then some (.ptr β (o + 1)) else none := by
 have h2 : szT Tryz.prog 3 = some 1 := by kernel_rfl
 simp [vfieldAddr, Tryz.underlying29, h2]
theorem ld32 {c : VV} {cs : List VV} : vload Tryz.prog 32 (c :: cs) = some c := by
 have h1 : aggT Tryz.prog 32 = some false := by kernel_rfl
 simp [vload, vpart, h1]
theorem sz32 : szT Tryz.prog 32 = some 1 := by kernel_rfl
theorem vzl32 : vzl Tryz.prog 32 = some [.lit (.int .i64 0)] := by kernel_rfl
theorem ld34 {c : VV} {cs : List VV} : vload Tryz.prog 34 (c :: cs) = some c := by
 have h1 : aggT Tryz.prog 34 = some false := by kernel_rfl
 simp [vload, vpart, h1]
theorem sz34 : szT Tryz.prog 34 = some 1 := by kernel_rfl
theorem vzl34 : vzl Tryz.prog 34 = some [.lit (.int .i64 0)] := by kernel_rfl
theorem ld40 {c : VV} {cs : List VV} : vload Tryz.prog 40 (c :: cs) = some c := by
 have h1 : aggT Tryz.prog 40 = some false := by kernel_rfl
 simp [vload, vpart, h1]
theorem sz40 : szT Tryz.prog 40 = some 1 := by kernel_rfl
theorem vzl40 : vzl Tryz.prog 40 = some [.lit (.slice none 0 0)] := by kernel_rfl
theorem len40 {H : Nat → Option VObj} {cs : List VV} {n : Nat} {f : Bool} : vlen Tryz.prog H 40 (.sl cs n f) = some (.lit (.int .i64 n)) := by simp [vlen, Tryz.underlying40, sls]
theorem lenN40 {H : Nat → Option VObj} : vlen Tryz.prog H 40 (.lit (.slice none 0 0)) = some (.lit (.int .i64 0)) := by simp [vlen, Tryz.underlying40, sls]
theorem lenR40 {H : Nat → Option VObj} {β off n w c : Nat} : vlen Tryz.prog H 40 (.ref β off n w c) = (match H β with | some (.cells _ cs) => if off ≤ cs.length then some (.lit (.int .i64 n)) else none | _ => none) := lenR Tryz.underlying40
theorem et40 : elemT Tryz.prog 40 = some 61 := by simp [elemT, Tryz.underlying40]
theorem tk40 {xs : List GSightLetter} : (cellsL cGSightLetter xs).take (xs.length * 4) = cellsL cGSightLetter xs := take_cells (fun _ => rfl)
theorem bs40_1 {c0 c1 c2 c3 : VV} (h : leafL [c0, c1, c2, c3] = true) : vbuildSlice Tryz.prog 40 1 [(0, .agg [c0, c1, c2, c3])] = some ([c0, c1, c2, c3], 4) := by
 have h2 : szT Tryz.prog 61 = some 4 := by kernel_rfl
 have h3 : vzero Tryz.prog 61 = some #[.int .i64 0, .int .i64 0, .int .i64 0, .int .i64 0] := by kernel_rfl
 simp only [leafL_cons, leafL_nil, Bool.and_true, Bool.and_eq_true] at h
 simp [vbuildSlice, Tryz.underlying40, h2, h3, vfill, vcells, h, overwrite, vzeros]
theorem ix40 {H : Nat → Option VObj} {xs : List GSightLetter} {x : GSightLetter} {f : Bool} {k : IntKind} {i : Int} (h : getI xs i = some x) : vindexAddr Tryz.prog H 40 (.sl (cellsL cGSightLetter xs) xs.length f) (.lit (.int k i)) = some (.tp (cGSightLetter x ++ cellsL cGSightLetter (xs.drop (i.toNat + 1)))) :=
 ixG Tryz.underlying40 (by kernel_rfl : szT Tryz.prog 61 = some 4) (by decide) (fun _ => rfl) h
theorem ld42 {c0 c1 : VV} {cs : List VV} : vload Tryz.prog 42 (c0 :: c1 :: cs) = some (.agg [c0, c1]) := by
 have h1 : aggT Tryz.prog 42 = some true := by kernel_rfl
 have h2 : szT Tryz.prog 42 = some 2 := by kernel_rfl
 simp [vload, vpart, h1, h2]
theorem sz42 : szT Tryz.prog 42 = some 2 := by kernel_rfl
theorem vzl42 : vzl Tryz.prog 42 = some [.lit (.int .i64 0), .lit (.slice none 0 0)] := by kernel_rfl
theorem fa42_0 {H : Nat → Option VObj} {cs : List VV} : vfieldAddr Tryz.prog H 42 (.tp cs) 0 = some (.tp (cs.drop 0)) := by
 have h2 : szT Tryz.prog 3 = some 1 := by kernel_rfl
 simp [vfieldAddr, Tryz.underlying42, h2]
theorem fp42_0 {H : Nat → Option VObj} {β o : Nat} : vfieldAddr Tryz.prog H 42 (.ptr β o) 0 = if (H β).isSome = true then some (.ptr β (o + 0)) else none := by
 have h2 : szT Tryz.prog 3 = some 1 := by kernel_rfl
 simp [vfieldAddr, Tryz.underlying42, h2]
theorem fa42_1 {H : Nat → Option VObj} {cs : List VV} : vfieldAddr Tryz.prog H 42 (.tp cs) 1 = some (.tp (cs.drop 1)) := by
 have h2 : szT Tryz.prog 40 = some 1 := by kernel_rfl
 simp [vfieldAddr, Tryz.underlying42, h2]
theorem fp42_1 {H : Nat → Option VObj} {β o : Nat} : vfieldAddr Tryz.prog H 42 (.ptr β o) 1 = if (H β).isSome = true then some (.ptr β (o + 1)) else none := by
 have h2 : szT Tryz.prog 40 = some 1 := by kernel_rfl
 simp [vfieldAddr, Tryz.underlying42, h2]
theorem ld47 {c : VV} {cs : List VV} : vload Tryz.prog 47 (c :: cs) = some c := by
 have h1 : aggT Tryz.prog 47 = some false := by kernel_rfl
 simp [vload, vpart, h1]
theorem sz47 : szT Tryz.prog 47 = some 1 := by kernel_rfl
theorem vzl47 : vzl Tryz.prog 47 = some [.lit (.int .i64 0)] := by kernel_rfl
theorem ld49 {c0 c1 : VV} {cs : List VV} : vload Tryz.prog 49 (c0 :: c1 :: cs) = some (.agg [c0, c1]) := by
 have h1 : aggT Tryz.prog 49 = some true := by kernel_rfl
 have h2 : szT Tryz.prog 49 = some 2 := by kernel_rfl
 simp [vload, vpart, h1, h2]
theorem sz49 : szT Tryz.prog 49 = some 2 := by kernel_rfl
theorem vzl49 : vzl Tryz.prog 49 = some [.lit (.int .i64 0), .lit (.int .i64 0)] := by kernel_rfl
theorem fa49_0 {H : Nat → Option VObj} {cs : List VV} : vfieldAddr Tryz.prog H 49 (.tp cs) 0 = some (.tp (cs.drop 0)) := by
 have h2 : szT Tryz.prog 47 = some 1 := by kernel_rfl
 simp [vfieldAddr, Tryz.underlying49, h2]
theorem fp49_0 {H : Nat → Option VObj} {β o : Nat} : vfieldAddr Tryz.prog H 49 (.ptr β o) 0 = if (H β).isSome = true then some (.ptr β (o + 0)) else none := by
 have h2 : szT Tryz.prog 47 = some 1 := by kernel_rfl
 simp [vfieldAddr, Tryz.underlying49, h2]
theorem fa49_1 {H : Nat → Option VObj} {cs : List VV} : vfieldAddr Tryz.prog H 49 (.tp cs) 1 = some (.tp (cs.drop 1)) := by
 have h2 : szT Tryz.prog 3 = some 1 := by kernel_rfl
 simp [vfieldAddr, Tryz.underlying49, h2]
theorem fp49_1 {H : Nat → Option VObj} {β o : Nat} : vfieldAddr Tryz.prog H 49 (.ptr β o) 1 = if (H β).isSome = true then some (.ptr β (o + 1)) else none := by
 have h2 : szT Tryz.prog 3 = some 1 := by kernel_rfl
 simp [vfieldAddr, Tryz.underlying49, h2]
theorem ld54 {c : VV} {cs : List VV} : vload Tryz.prog 54 (c :: cs) = some c := by
 have h1 : aggT Tryz.prog 54 = some false := by kernel_rfl
 simp [vload, vpart, h1]
theorem sz54 : szT Tryz.prog 54 = some 1 := by kernel_rfl
theorem vzl54 : vzl Tryz.prog 54 = some [.lit (.slice none 0 0)] := by kernel_rfl
theorem len54 {H : Nat → Option VObj} {cs : List VV} {n : Nat} {f : Bool} : vlen Tryz.prog H 54 (.sl cs n f) = some (.lit (.int .i64 n)) := by simp [vlen, Tryz.underlying54, sls]
theorem lenN54 {H : Nat → Option VObj} : vlen Tryz.prog H 54 (.lit (.slice none 0 0)) = some (.lit (.int .i64 0)) := by simp [vlen, Tryz.underlying54, sls]
theorem lenR54 {H : Nat → Option VObj} {β off n w c : Nat} : vlen Tryz.prog H 54 (.ref β off n w c) = (match H β with | some (.cells _ cs) => if off ≤ cs.length then some (.lit (.int .i64 n)) else none | _ => none) := lenR Tryz.underlying54
theorem et54 : elemT Tryz.prog 54 = some 34 := by simp [elemT, Tryz.underlying54]
theorem tk54 {xs : List Int} : (cellsL eI xs).take (xs.length * 1) = cellsL eI xs := take_cells (fun _ => rfl)
theorem bs54_1 {a0 : VV} (h : leafL [a0] = true) : vbuildSlice Tryz.prog 54 1 [(0, a0)] = some ([a0], 1) := by
 have h2 : szT Tryz.prog 34 = some 1 := by kernel_rfl
 have h3 : vzero Tryz.prog 34 = some #[.int .i64 0] := by kernel_rfl
 simp only [leafL_cons, leafL_nil, Bool.and_true, Bool.and_eq_true] at h
 simp [vbuildSlice, Tryz.underlying54, h2, h3, vfill, vcells1, h, overwrite, vzeros, List.range_succ]
theorem bs54_2 {a0 a1 : VV} (h : leafL [a0, a1] = true) : vbuildSlice Tryz.prog 54 2 [(0, a0), (1, a1)] = some ([a0, a1], 1) := by
 have h2 : szT Tryz.prog 34 = some 1 := by kernel_rfl
 have h3 : vzero Tryz.prog 34 = some #[.int .i64 0] := by kernel_rfl
 simp only [leafL_cons, leafL_nil, Bool.and_true, Bool.and_eq_true] at h
 simp [vbuildSlice, Tryz.underlying54, h2, h3, vfill, vcells1, h, overwrite, vzeros, List.range_succ]
theorem bs54_3 {a0 a1 a2 : VV} (h : leafL [a0, a1, a2] = true) : vbuildSlice Tryz.prog 54 3 [(0, a0), (1, a1), (2, a2)] = some ([a0, a1, a2], 1) := by
 have h2 : szT Tryz.prog 34 = some 1 := by kernel_rfl
 have h3 : vzero Tryz.prog 34 = some #[.int .i64 0] := by kernel_rfl
 simp only [leafL_cons, leafL_nil, Bool.and_true, Bool.and_eq_true] at h
 simp [vbuildSlice, Tryz.underlying54, h2, h3, vfill, vcells1, h, overwrite, vzeros, List.range_succ]
theorem ld57 {c : VV} {cs : List VV} : vload Tryz.prog 57 (c :: cs) = some c := by
 have h1 : aggT Tryz.prog 57 = some false := by kernel_rfl
 simp [vload, vpart, h1]
theorem sz57 : szT Tryz.prog 57 = some 1 := by kernel_rfl
theorem vzl57 : vzl Tryz.prog 57 = some [.lit (.slice none 0 0)] := by kernel_rfl
theorem len57 {H : Nat → Option VObj} {cs : List VV} {n : Nat} {f : Bool} : vlen Tryz.prog H 57 (.sl cs n f) = some (.lit (.int .i64 n)) := by simp [vlen, Tryz.underlying57, sls]
theorem lenN57 {H : Nat → Option VObj} : vlen Tryz.prog H 57 (.lit (.slice none 0 0)) = some (.lit (.int .i64 0)) := by simp [vlen, Tryz.underlying57, sls]
theorem lenR57 {H : Nat → Option VObj} {β off n w c : Nat} : vlen Tryz.prog H 57 (.ref β off n w c) = (match H β with | some (.cells _ cs) => if off ≤ cs.length then some (.lit (.int .i64 n)) else none | _ => none) := lenR Tryz.underlying57
theorem et57 : elemT Tryz.prog 57 = some 3 := by simp [elemT, Tryz.underlying57]
theorem ao57 : appOk Tryz.prog 57 = some (3, 1, 8) := by kernel_rfl
theorem tk57 {xs : List Int} : (cellsL eI xs).take (xs.length * 1) = cellsL eI xs := take_cells (fun _ => rfl)
theorem lf57 : ∀ x : Int, leafL (eI x) = true := fun x => by simp only [eI_eq, eU8_eq, eB_eq, eS_eq, eSl_eq, leafL_nil, leafL_cons, leaf_int, leaf_bool, leaf_string, leaf_slice, leaf_sl, Bool.and_self]
theorem bs57_1 {a0 : VV} (h : leafL [a0] = true) : vbuildSlice Tryz.prog 57 1 [(0, a0)] = some ([a0], 1) := by
 have h2 : szT Tryz.prog 3 = some 1 := by kernel_rfl
 have h3 : vzero Tryz.prog 3 = some #[.int .i64 0] := by kernel_rfl
 simp only [leafL_cons, leafL_nil, Bool.and_true, Bool.and_eq_true] at h
 simp [vbuildSlice, Tryz.underlying57, h2, h3, vfill, vcells1, h, overwrite, vzeros, List.range_succ]
theorem bs57_2 {a0 a1 : VV} (h : leafL [a0, a1] = true) : vbuildSlice Tryz.prog 57 2 [(0, a0), (1, a1)] = some ([a0, a1], 1) := by
 have h2 : szT Tryz.prog 3 = some 1 := by kernel_rfl
 have h3 : vzero Tryz.prog 3 = some #[.int .i64 0] := by kernel_rfl
 simp only [leafL_cons, leafL_nil, Bool.and_true, Bool.and_eq_true] at h
 simp [vbuildSlice, Tryz.underlying57, h2, h3, vfill, vcells1, h, overwrite, vzeros, List.range_succ]
theorem bs57_3 {a0 a1 a2 : VV} (h : leafL [a0, a1, a2] = true) : vbuildSlice Tryz.prog 57 3 [(0, a0), (1, a1), (2, a2)] = some ([a0, a1, a2], 1) := by
 have h2 : szT Tryz.prog 3 = some 1 := by kernel_rfl
 have h3 : vzero Tryz.prog 3 = some #[.int .i64 0] := by kernel_rfl
 simp only [leafL_cons, leafL_nil, Bool.and_true, Bool.and_eq_true] at h
 simp [vbuildSlice, Tryz.underlying57, h2, h3, vfill, vcells1, h, overwrite, vzeros, List.range_succ]
theorem ix57 {H : Nat → Option VObj} {xs : List Int} {x : Int} {f : Bool} {k : IntKind} {i : Int} (h : getI xs i = some x) : vindexAddr Tryz.prog H 57 (.sl (cellsL eI xs) xs.length f) (.lit (.int k i)) = some (.tp (eI x ++ cellsL eI (xs.drop (i.toNat + 1)))) :=
 ixG Tryz.underlying57 (by kernel_rfl : szT Tryz.prog 3 = some 1) (by decide) (fun _ => rfl) h
theorem ld61 {c0 c1 c2 c3 : VV} {cs : List VV} : vload Tryz.prog 61 (c0 :: c1 :: c2 :: c3 :: cs) = some (.agg [c0, c1, c2, c3]) := by
 have h1 : aggT Tryz.prog 61 = some true := by kernel_rfl
 have h2 : szT Tryz.prog 61 = some 4 := by kernel_rfl
 simp [vload, vpart, h1, h2]
theorem sz61 : szT Tryz.prog 61 = some 4 := by kernel_rfl
theorem vzl61 : vzl Tryz.prog 61 = some [.lit (.int .i64 0), .lit (.int .i64 0), .lit (.int .i64 0), .lit (.int .i64 0)] := by kernel_rfl
theorem fa61_0 {H : Nat → Option VObj} {cs : List VV} : vfieldAddr Tryz.prog H 61 (.tp cs) 0 = some (.tp (cs.drop 0)) := by
 have h2 : szT Tryz.prog 3 = some 1 := by kernel_rfl
 simp [vfieldAddr, Tryz.underlying61, h2]
theorem fp61_0 {H : Nat → Option VObj} {β o : Nat} : vfieldAddr Tryz.prog H 61 (.ptr β o) 0 = if (H β).isSome = true then some (.ptr β (o + 0)) else none := by
 have h2 : szT Tryz.prog 3 = some 1 := by kernel_rfl
 simp [vfieldAddr, Tryz.underlying61, h2]
theorem fa61_1 {H : Nat → Option VObj} {cs : List VV} : vfieldAddr Tryz.prog H 61 (.tp cs) 1 = some (.tp (cs.drop 1)) := by
 have h2 : szT Tryz.prog 3 = some 1 := by kernel_rfl
 simp [vfieldAddr, Tryz.underlying61, h2]
theorem fp61_1 {H : Nat → Option VObj} {β o : Nat} : vfieldAddr Tryz.prog H 61 (.ptr β o) 1 = if (H β).isSome = true then some (.ptr β (o + 1)) else none := by
 have h2 : szT Tryz.prog 3 = some 1 := by kernel_rfl
 simp [vfieldAddr, Tryz.underlying61, h2]
theorem fa61_2 {H : Nat → Option VObj} {cs : List VV} : vfieldAddr Tryz.prog H 61 (.tp cs) 2 = some (.tp (cs.drop 2)) := by
 have h2 : szT Tryz.prog 3 = some 1 := by kernel_rfl
 simp [vfieldAddr, Tryz.underlying61, h2]
theorem fp61_2 {H : Nat → Option VObj} {β o : Nat} : vfieldAddr Tryz.prog H 61 (.ptr β o) 2 = if (H β).isSome = true then some (.ptr β (o + 2)) else none := by
 have h2 : szT Tryz.prog 3 = some 1 := by kernel_rfl
 simp [vfieldAddr, Tryz.underlying61, h2]
theorem fa61_3 {H : Nat → Option VObj} {cs : List VV} : vfieldAddr Tryz.prog H 61 (.tp cs) 3 = some (.tp (cs.drop 3)) := by
 have h2 : szT Tryz.prog 3 = some 1 := by kernel_rfl
 simp [vfieldAddr, Tryz.underlying61, h2]
theorem fp61_3 {H : Nat → Option VObj} {β o : Nat} : vfieldAddr Tryz.prog H 61 (.ptr β o) 3 = if (H β).isSome = true then some (.ptr β (o + 3)) else none := by
 have h2 : szT Tryz.prog 3 = some 1 := by kernel_rfl
 simp [vfieldAddr, Tryz.underlying61, h2]
theorem ld68 {c0 c1 c2 c3 c4 : VV} {cs : List VV} : vload Tryz.prog 68 (c0 :: c1 :: c2 :: c3 :: c4 :: cs) = some (.agg [c0, c1, c2, c3, c4]) := by
 have h1 : aggT Tryz.prog 68 = some true := by kernel_rfl
 have h2 : szT Tryz.prog 68 = some 5 := by kernel_rfl
 simp [vload, vpart, h1, h2]
theorem sz68 : szT Tryz.prog 68 = some 5 := by kernel_rfl
theorem vzl68 : vzl Tryz.prog 68 = some [.lit (.int .i64 0), .lit (.int .i64 0), .lit (.int .i64 0), .lit (.int .i64 0), .lit (.bool false)] := by kernel_rfl
theorem fa68_0 {H : Nat → Option VObj} {cs : List VV} : vfieldAddr Tryz.prog H 68 (.tp cs) 0 = some (.tp (cs.drop 0)) := by
 have h2 : szT Tryz.prog 23 = some 2 := by kernel_rfl
 simp [vfieldAddr, Tryz.underlying68, h2]
theorem fp68_0 {H : Nat → Option VObj} {β o : Nat} : vfieldAddr Tryz.prog H 68 (.ptr β o) 0 = if (H β).isSome = true then some (.ptr β (o + 0)) else none := by
 have h2 : szT Tryz.prog 23 = some 2 := by kernel_rfl
 simp [vfieldAddr, Tryz.underlying68, h2]
theorem fa68_1 {H : Nat → Option VObj} {cs : List VV} : vfieldAddr Tryz.prog H 68 (.tp cs) 1 = some (.tp (cs.drop 2)) := by
 have h2 : szT Tryz.prog 23 = some 2 := by kernel_rfl
 simp [vfieldAddr, Tryz.underlying68, h2]
theorem fp68_1 {H : Nat → Option VObj} {β o : Nat} : vfieldAddr Tryz.prog H 68 (.ptr β o) 1 = if (H β).isSome = true then some (.ptr β (o + 2)) else none := by
 have h2 : szT Tryz.prog 23 = some 2 := by kernel_rfl
 simp [vfieldAddr, Tryz.underlying68, h2]
theorem fa68_2 {H : Nat → Option VObj} {cs : List VV} : vfieldAddr Tryz.prog H 68 (.tp cs) 2 = some (.tp (cs.drop 4)) := by
 have h2 : szT Tryz.prog 4 = some 1 := by kernel_rfl
 simp [vfieldAddr, Tryz.underlying68, h2]
theorem fp68_2 {H : Nat → Option VObj} {β o : Nat} : vfieldAddr Tryz.prog H 68 (.ptr β o) 2 = if (H β).isSome = true then some (.ptr β (o + 4)) else none := by
 have h2 : szT Tryz.prog 4 = some 1 := by kernel_rfl
 simp [vfieldAddr, Tryz.underlying68, h2]
theorem ld97 {c0 c1 c2 c3 c4 c5 c6 c7 c8 c9 c10 c11 c12 : VV} {cs : List VV} : vload Tryz.prog 97 (c0 :: c1 :: c2 :: c3 :: c4 :: c5 :: c6 :: c7 :: c8 :: c9 :: c10 :: c11 :: c12 :: cs) = some (.agg [c0, c1, c2, c3, c4, c5, c6, c7, c8, c9, c10, c11, c12]) := by
 have h1 : aggT Tryz.prog 97 = some true := by kernel_rfl
 have h2 : szT Tryz.prog 97 = some 13 := by kernel_rfl
 simp [vload, vpart, h1, h2]
theorem sz97 : szT Tryz.prog 97 = some 13 := by kernel_rfl
theorem vzl97 : vzl Tryz.prog 97 = some [.lit (.int .i64 0), .lit (.int .i64 0), .lit (.int .i64 0), .lit (.int .i64 0), .lit (.int .i64 0), .lit (.int .i64 0), .lit (.slice none 0 0), .lit (.slice none 0 0), .lit (.int .i64 0), .lit (.int .i64 0), .lit (.int .i64 0), .lit (.slice none 0 0), .lit (.int .i64 0)] := by kernel_rfl
theorem fa97_0 {H : Nat → Option VObj} {cs : List VV} : vfieldAddr Tryz.prog H 97 (.tp cs) 0 = some (.tp (cs.drop 0)) := by
 have h2 : szT Tryz.prog 27 = some 8 := by kernel_rfl
 simp [vfieldAddr, Tryz.underlying97, h2]
theorem fp97_0 {H : Nat → Option VObj} {β o : Nat} : vfieldAddr Tryz.prog H 97 (.ptr β o) 0 = if (H β).isSome = true then some (.ptr β (o + 0)) else none := by
 have h2 : szT Tryz.prog 27 = some 8 := by kernel_rfl
 simp [vfieldAddr, Tryz.underlying97, h2]
theorem fa97_1 {H : Nat → Option VObj} {cs : List VV} : vfieldAddr Tryz.prog H 97 (.tp cs) 1 = some (.tp (cs.drop 8)) := by
 have h2 : szT Tryz.prog 29 = some 2 := by kernel_rfl
 simp [vfieldAddr, Tryz.underlying97, h2]
theorem fp97_1 {H : Nat → Option VObj} {β o : Nat} : vfieldAddr Tryz.prog H 97 (.ptr β o) 1 = if (H β).isSome = true then some (.ptr β (o + 8)) else none := by
 have h2 : szT Tryz.prog 29 = some 2 := by kernel_rfl
 simp [vfieldAddr, Tryz.underlying97, h2]
theorem fa97_2 {H : Nat → Option VObj} {cs : List VV} : vfieldAddr Tryz.prog H 97 (.tp cs) 2 = some (.tp (cs.drop 10)) := by
 have h2 : szT Tryz.prog 42 = some 2 := by kernel_rfl
 simp [vfieldAddr, Tryz.underlying97, h2]
theorem fp97_2 {H : Nat → Option VObj} {β o : Nat} : vfieldAddr Tryz.prog H 97 (.ptr β o) 2 = if (H β).isSome = true then some (.ptr β (o + 10)) else none := by
 have h2 : szT Tryz.prog 42 = some 2 := by kernel_rfl
 simp [vfieldAddr, Tryz.underlying97, h2]
theorem fa97_3 {H : Nat → Option VObj} {cs : List VV} : vfieldAddr Tryz.prog H 97 (.tp cs) 3 = some (.tp (cs.drop 12)) := by
 have h2 : szT Tryz.prog 3 = some 1 := by kernel_rfl
 simp [vfieldAddr, Tryz.underlying97, h2]
theorem fp97_3 {H : Nat → Option VObj} {β o : Nat} : vfieldAddr Tryz.prog H 97 (.ptr β o) 3 = if (H β).isSome = true then some (.ptr β (o + 12)) else none := by
 have h2 : szT Tryz.prog 3 = some 1 := by kernel_rfl
 simp [vfieldAddr, Tryz.underlying97, h2]
theorem ld100 {c : VV} {cs : List VV} : vload Tryz.prog 100 (c :: cs) = some c := by
 have h1 : aggT Tryz.prog 100 = some false := by kernel_rfl
 simp [vload, vpart, h1]
theorem sz100 : szT Tryz.prog 100 = some 1 := by kernel_rfl
theorem vzl100 : vzl Tryz.prog 100 = some [.lit (.slice none 0 0)] := by kernel_rfl
theorem len100 {H : Nat → Option VObj} {cs : List VV} {n : Nat} {f : Bool} : vlen Tryz.prog H 100 (.sl cs n f) = some (.lit (.int .i64 n)) := by simp [vlen, Tryz.underlying100, sls]
theorem lenN100 {H : Nat → Option VObj} : vlen Tryz.prog H 100 (.lit (.slice none 0 0)) = some (.lit (.int .i64 0)) := by simp [vlen, Tryz.underlying100, sls]
theorem lenR100 {H : Nat → Option VObj} {β off n w c : Nat} : vlen Tryz.prog H 100 (.ref β off n w c) = (match H β with | some (.cells _ cs) => if off ≤ cs.length then some (.lit (.int .i64 n)) else none | _ => none) := lenR Tryz.underlying100
theorem et100 : elemT Tryz.prog 100 = some 4 := by simp [elemT, Tryz.underlying100]
theorem tk100 {xs : List Bool} : (cellsL eB xs).take (xs.length * 1) = cellsL eB xs := take_cells (fun _ => rfl)
theorem bs100_1 {a0 : VV} (h : leafL [a0] = true) : vbuildSlice Tryz.prog 100 1 [(0, a0)] = some ([a0], 1) := by
 have h2 : szT Tryz.prog 4 = some 1 := by kernel_rfl
 have h3 : vzero Tryz.prog 4 = some #[.bool false] := by kernel_rfl
 simp only [leafL_cons, leafL_nil, Bool.and_true, Bool.and_eq_true] at h
 simp [vbuildSlice, Tryz.underlying100, h2, h3, vfill, vcells1, h, overwrite, vzeros, List.range_succ]
theorem bs100_2 {a0 a1 : VV} (h : leafL [a0, a1] = true) : vbuildSlice Tryz.prog 100 2 [(0, a0), (1, a1)] = some ([a0, a1], 1) := by
 have h2 : szT Tryz.prog 4 = some 1 := by kernel_rfl
 have h3 : vzero Tryz.prog 4 = some #[.bool false] := by kernel_rfl
 simp only [leafL_cons, leafL_nil, Bool.and_true, Bool.and_eq_true] at h
 simp [vbuildSlice, Tryz.underlying100, h2, h3, vfill, vcells1, h, overwrite, vzeros, List.range_succ]
theorem bs100_3 {a0 a1 a2 : VV} (h : leafL [a0, a1, a2] = true) : vbuildSlice Tryz.prog 100 3 [(0, a0), (1, a1), (2, a2)] = some ([a0, a1, a2], 1) := by
 have h2 : szT Tryz.prog 4 = some 1 := by kernel_rfl
 have h3 : vzero Tryz.prog 4 = some #[.bool false] := by kernel_rfl
 simp only [leafL_cons, leafL_nil, Bool.and_true, Bool.and_eq_true] at h
 simp [vbuildSlice, Tryz.underlying100, h2, h3, vfill, vcells1, h, overwrite, vzeros, List.range_succ]
theorem ld140 {c0 c1 : VV} {cs : List VV} : vload Tryz.prog 140 (c0 :: c1 :: cs) = some (.agg [c0, c1]) := by
 have h1 : aggT Tryz.prog 140 = some true := by kernel_rfl
 have h2 : szT Tryz.prog 140 = some 2 := by kernel_rfl
 simp [vload, vpart, h1, h2]
theorem sz140 : szT Tryz.prog 140 = some 2 := by kernel_rfl
theorem vzl140 : vzl Tryz.prog 140 = some [.lit (.int .i64 0), .lit (.int .i64 0)] := by kernel_rfl
theorem fa140_0 {H : Nat → Option VObj} {cs : List VV} : vfieldAddr Tryz.prog H 140 (.tp cs) 0 = some (.tp (cs.drop 0)) := by
 have h2 : szT Tryz.prog 49 = some 2 := by kernel_rfl
 simp [vfieldAddr, Tryz.underlying140, h2]
theorem fp140_0 {H : Nat → Option VObj} {β o : Nat} : vfieldAddr Tryz.prog H 140 (.ptr β o) 0 = if (H β).isSome = true then some (.ptr β (o + 0)) else none := by
 have h2 : szT Tryz.prog 49 = some 2 := by kernel_rfl
 simp [vfieldAddr, Tryz.underlying140, h2]
theorem sz143 : szT Tryz.prog 143 = some 1 := by kernel_rfl
theorem ld143 {c : VV} {cs : List VV} : vload Tryz.prog 143 (c :: cs) = some c := by
 have h1 : aggT Tryz.prog 143 = some false := by kernel_rfl
 simp [vload, vpart, h1]
theorem vzl143 : vzl Tryz.prog 143 = some [.lit .nilFunc] := by kernel_rfl
theorem sz144 : szT Tryz.prog 144 = some 3 := by kernel_rfl
theorem vzl144 : vzl Tryz.prog 144 = some [.lit .nilFunc, .lit .nilFunc, .lit .nilFunc] := by kernel_rfl
theorem ld144 {c0 c1 c2 : VV} {cs : List VV} : vload Tryz.prog 144 (c0 :: c1 :: c2 :: cs) = some (.agg [c0, c1, c2]) := by
 have h1 : aggT Tryz.prog 144 = some true := by kernel_rfl
 have h2 : szT Tryz.prog 144 = some 3 := by kernel_rfl
 simp [vload, vpart, h1, h2]
theorem vi144_0 {c0 c1 c2 : VV} {k : IntKind} : vindex Tryz.prog 144 (.agg [c0, c1, c2]) (.lit (.int k 0)) = some c0 := by
 have h1 : aggT Tryz.prog 143 = some false := by kernel_rfl
 have h2 : szT Tryz.prog 143 = some 1 := by kernel_rfl
 simp [vindex, Tryz.underlying144, vpart, h1, h2]
theorem va144_0 {H : Nat → Option VObj} {β o : Nat} {k : IntKind} : vindexAddr Tryz.prog H 144 (.ptr β o) (.lit (.int k 0)) = if (H β).isSome = true then some (.ptr β (o + 0)) else none := by
 have h2 : szT Tryz.prog 143 = some 1 := by kernel_rfl
 simp [vindexAddr, Tryz.underlying144, h2]
theorem vi144_1 {c0 c1 c2 : VV} {k : IntKind} : vindex Tryz.prog 144 (.agg [c0, c1, c2]) (.lit (.int k 1)) = some c1 := by
 have h1 : aggT Tryz.prog 143 = some false := by kernel_rfl
 have h2 : szT Tryz.prog 143 = some 1 := by kernel_rfl
 simp [vindex, Tryz.underlying144, vpart, h1, h2]
theorem va144_1 {H : Nat → Option VObj} {β o : Nat} {k : IntKind} : vindexAddr Tryz.prog H 144 (.ptr β o) (.lit (.int k 1)) = if (H β).isSome = true then some (.ptr β (o + 1)) else none := by
 have h2 : szT Tryz.prog 143 = some 1 := by kernel_rfl
 simp [vindexAddr, Tryz.underlying144, h2]
theorem vi144_2 {c0 c1 c2 : VV} {k : IntKind} : vindex Tryz.prog 144 (.agg [c0, c1, c2]) (.lit (.int k 2)) = some c2 := by
 have h1 : aggT Tryz.prog 143 = some false := by kernel_rfl
 have h2 : szT Tryz.prog 143 = some 1 := by kernel_rfl
 simp [vindex, Tryz.underlying144, vpart, h1, h2]
theorem va144_2 {H : Nat → Option VObj} {β o : Nat} {k : IntKind} : vindexAddr Tryz.prog H 144 (.ptr β o) (.lit (.int k 2)) = if (H β).isSome = true then some (.ptr β (o + 2)) else none := by
 have h2 : szT Tryz.prog 143 = some 1 := by kernel_rfl
 simp [vindexAddr, Tryz.underlying144, h2]
theorem vb23_0_1 {x0_0 x1_0 : VV} (h : leafL [x0_0, x1_0] = true) : vbuild Tryz.prog 23 [(0, x0_0), (1, x1_0)] = some (.agg [x0_0, x1_0]) := by
 have p0 : placeT Tryz.prog 23 0 = some (0, 1) := by kernel_rfl
 have p1 : placeT Tryz.prog 23 1 = some (1, 1) := by kernel_rfl
 simp only [leafL_cons, leafL_nil, Bool.and_true, Bool.and_eq_true] at h
 rw [vbuild_eq vzl23 (by kernel_rfl)]
 simp [vfill, p0, p1, vcells1, h, overwrite]
theorem vb29 : vbuild Tryz.prog 29 [] = some (.agg [.lit (.int .i64 0), .lit (.int .i64 0)]) := by
 rw [vbuild_eq vzl29 (by kernel_rfl)]
 rfl
theorem vb29_0_1 {x0_0 x1_0 : VV} (h : leafL [x0_0, x1_0] = true) : vbuild Tryz.prog 29 [(0, x0_0), (1, x1_0)] = some (.agg [x0_0, x1_0]) := by
 have p0 : placeT Tryz.prog 29 0 = some (0, 1) := by kernel_rfl
 have p1 : placeT Tryz.prog 29 1 = some (1, 1) := by kernel_rfl
 simp only [leafL_cons, leafL_nil, Bool.and_true, Bool.and_eq_true] at h
 rw [vbuild_eq vzl29 (by kernel_rfl)]
 simp [vfill, p0, p1, vcells1, h, overwrite]
theorem vb42_0 {x0_0 : VV} (h : leafL [x0_0] = true) : vbuild Tryz.prog 42 [(0, x0_0)] = some (.agg [x0_0, .lit (.slice none 0 0)]) := by
 have p0 : placeT Tryz.prog 42 0 = some (0, 1) := by kernel_rfl
 simp only [leafL_cons, leafL_nil, Bool.and_true, Bool.and_eq_true] at h
 rw [vbuild_eq vzl42 (by kernel_rfl)]
 simp [vfill, p0, vcells1, h, overwrite]
theorem vb42_0_1 {x0_0 x1_0 : VV} (h : leafL [x0_0, x1_0] = true) : vbuild Tryz.prog 42 [(0, x0_0), (1, x1_0)] = some (.agg [x0_0, x1_0]) := by
 have p0 : placeT Tryz.prog 42 0 = some (0, 1) := by kernel_rfl
 have p1 : placeT Tryz.prog 42 1 = some (1, 1) := by kernel_rfl
 simp only [leafL_cons, leafL_nil, Bool.and_true, Bool.and_eq_true] at h
 rw [vbuild_eq vzl42 (by kernel_rfl)]
 simp [vfill, p0, p1, vcells1, h, overwrite]
theorem vb49 : vbuild Tryz.prog 49 [] = some (.agg [.lit (.int .i64 0), .lit (.int .i64 0)]) := by
 rw [vbuild_eq vzl49 (by kernel_rfl)]
 rfl
theorem vb49_0 {x0_0 : VV} (h : leafL [x0_0] = true) : vbuild Tryz.prog 49 [(0, x0_0)] = some (.agg [x0_0, .lit (.int .i64 0)]) := by
 have p0 : placeT Tryz.prog 49 0 = some (0, 1) := by kernel_rfl
 simp only [leafL_cons, leafL_nil, Bool.and_true, Bool.and_eq_true] at h
 rw [vbuild_eq vzl49 (by kernel_rfl)]
 simp [vfill, p0, vcells1, h, overwrite]
theorem vb49_0_1 {x0_0 x1_0 : VV} (h : leafL [x0_0, x1_0] = true) : vbuild Tryz.prog 49 [(0, x0_0), (1, x1_0)] = some (.agg [x0_0, x1_0]) := by
 have p0 : placeT Tryz.prog 49 0 = some (0, 1) := by kernel_rfl
 have p1 : placeT Tryz.prog 49 1 = some (1, 1) := by kernel_rfl
 simp only [leafL_cons, leafL_nil, Bool.and_true, Bool.and_eq_true] at h
 rw [vbuild_eq vzl49 (by kernel_rfl)]
 simp [vfill, p0, p1, vcells1, h, overwrite]
theorem vb61_0_1_2_3 {x0_0 x1_0 x2_0 x3_0 : VV} (h : leafL [x0_0, x1_0, x2_0, x3_0] = true) : vbuild Tryz.prog 61 [(0, x0_0), (1, x1_0), (2, x2_0), (3, x3_0)] = some (.agg [x0_0, x1_0, x2_0, x3_0]) := by
 have p0 : placeT Tryz.prog 61 0 = some (0, 1) := by kernel_rfl
 have p1 : placeT Tryz.prog 61 1 = some (1, 1) := by kernel_rfl
 have p2 : placeT Tryz.prog 61 2 = some (2, 1) := by kernel_rfl
 have p3 : placeT Tryz.prog 61 3 = some (3, 1) := by kernel_rfl
 simp only [leafL_cons, leafL_nil, Bool.and_true, Bool.and_eq_true] at h
 rw [vbuild_eq vzl61 (by kernel_rfl)]
 simp [vfill, p0, p1, p2, p3, vcells1, h, overwrite]
theorem vb97_0_1_2_3 {x0_0 x0_1 x0_2 x0_3 x0_4 x0_5 x0_6 x0_7 x1_0 x1_1 x2_0 x2_1 x3_0 : VV} (h : leafL [x0_0, x0_1, x0_2, x0_3, x0_4, x0_5, x0_6, x0_7, x1_0, x1_1, x2_0, x2_1, x3_0] = true) : vbuild Tryz.prog 97 [(0, .agg [x0_0, x0_1, x0_2, x0_3, x0_4, x0_5, x0_6, x0_7]), (1, .agg [x1_0, x1_1]), (2, .agg [x2_0, x2_1]), (3, x3_0)] = some (.agg [x0_0, x0_1, x0_2, x0_3, x0_4, x0_5, x0_6, x0_7, x1_0, x1_1, x2_0, x2_1, x3_0]) := by
 have p0 : placeT Tryz.prog 97 0 = some (0, 8) := by kernel_rfl
 have p1 : placeT Tryz.prog 97 1 = some (8, 2) := by kernel_rfl
 have p2 : placeT Tryz.prog 97 2 = some (10, 2) := by kernel_rfl
 have p3 : placeT Tryz.prog 97 3 = some (12, 1) := by kernel_rfl
 simp only [leafL_cons, leafL_nil, Bool.and_true, Bool.and_eq_true] at h
 have q0 : vcells (.agg [x0_0, x0_1, x0_2, x0_3, x0_4, x0_5, x0_6, x0_7]) = some [x0_0, x0_1, x0_2, x0_3, x0_4, x0_5, x0_6, x0_7] := by rw [vcells_agg]; simp [leafL_cons, leafL_nil, h]
 have q1 : vcells (.agg [x1_0, x1_1]) = some [x1_0, x1_1] := by rw [vcells_agg]; simp [leafL_cons, leafL_nil, h]
 have q2 : vcells (.agg [x2_0, x2_1]) = some [x2_0, x2_1] := by rw [vcells_agg]; simp [leafL_cons, leafL_nil, h]
 rw [vbuild_eq vzl97 (by kernel_rfl)]
 simp [vfill, p0, p1, p2, p3, vcells1, h, overwrite, q0, q1, q2]
theorem vb140_0 {x0_0 x0_1 : VV} (h : leafL [x0_0, x0_1] = true) : vbuild Tryz.prog 140 [(0, .agg [x0_0, x0_1])] = some (.agg [x0_0, x0_1]) := by
 have p0 : placeT Tryz.prog 140 0 = some (0, 2) := by kernel_rfl
 simp only [leafL_cons, leafL_nil, Bool.and_true, Bool.and_eq_true] at h
 have q0 : vcells (.agg [x0_0, x0_1]) = some [x0_0, x0_1] := by rw [vcells_agg]; simp [leafL_cons, leafL_nil, h]
 rw [vbuild_eq vzl140 (by kernel_rfl)]
 simp [vfill, p0, vcells1, h, overwrite, q0]
theorem vb144_0_1_2 {x0_0 x1_0 x2_0 : VV} (h : leafL [x0_0, x1_0, x2_0] = true) : vbuild Tryz.prog 144 [(0, x0_0), (1, x1_0), (2, x2_0)] = some (.agg [x0_0, x1_0, x2_0]) := by
 have p0 : placeT Tryz.prog 144 0 = some (0, 1) := by kernel_rfl
 have p1 : placeT Tryz.prog 144 1 = some (1, 1) := by kernel_rfl
 have p2 : placeT Tryz.prog 144 2 = some (2, 1) := by kernel_rfl
 simp only [leafL_cons, leafL_nil, Bool.and_true, Bool.and_eq_true] at h
 rw [vbuild_eq vzl144 (by kernel_rfl)]
 simp [vfill, p0, p1, p2, vcells1, h, overwrite]
theorem mi140 {x : VV} : mkIfcV Tryz.prog 140 x = some (.ifc 140 x) := by simp [mkIfcV, Tryz.underlying140]
theorem tz140 : ((Tryz.prog.info? 140).bind (·.zero)).map (fun z => VV.tup [ofVal2 z, .lit (.bool false)]) = some (.tup [.agg [.lit (.int .i64 0), .lit (.int .i64 0)], .lit (.bool false)]) := by kernel_rfl
theorem tn140 : vtypeAssert Tryz.prog (.lit .nilIface) 140 true = some (.tup [.agg [.lit (.int .i64 0), .lit (.int .i64 0)], .lit (.bool false)]) := by
 simp only [vtypeAssert, Tryz.underlying140, if_true]
 exact tz140
theorem tt140 {x : VV} : vtypeAssert Tryz.prog (.ifc 140 x) 140 true = some (.tup [x, .lit (.bool true)]) := by
 simp [vtypeAssert, Tryz.underlying140]
theorem be4 {H : Nat → Option VObj} {x y : Operand} {a b : Bool} : binV Tryz.prog H .eql 4 x y (.lit (.bool a)) (.lit (.bool b)) = some (.lit (.bool (a == b))) := bin_eqB Tryz.underlying4
theorem bn4 {H : Nat → Option VObj} {x y : Operand} {a b : Bool} : binV Tryz.prog H .neq 4 x y (.lit (.bool a)) (.lit (.bool b)) = some (.lit (.bool (a != b))) := bin_neB Tryz.underlying4
theorem sq29 {H : Nat → Option VObj} {x y : Operand} {a0 b0 : Int} {a1 b1 : Int} : binV Tryz.prog H .eql 29 x y (.agg [.lit (.int .i64 a0), .lit (.int .i64 a1)]) (.agg [.lit (.int .i64 b0), .lit (.int .i64 b1)]) = some (.lit (.bool (a0 == b0 && (a1 == b1)))) ∧ binV Tryz.prog H .neq 29 x y (.agg [.lit (.int .i64 a0), .lit (.int .i64 a1)]) (.agg [.lit (.int .i64 b0), .lit (.int .i64 b1)]) = some (.lit (.bool (!(a0 == b0 && (a1 == b1))))) := by
 refine binS (xs := [.int .i64 a0, .int .i64 a1]) (ys := [.int .i64 b0, .int .i64 b1]) (by simp [VV.val?, valL?]) (by simp [VV.val?, valL?]) Tryz.underlying29 (by kernel_rfl) (by kernel_rfl) ?_
 simp [eqF, ok1, eq1, Tryz.underlying3]
theorem se29 {H : Nat → Option VObj} {x y : Operand} {a0 b0 : Int} {a1 b1 : Int} : binV Tryz.prog H .eql 29 x y (.agg [.lit (.int .i64 a0), .lit (.int .i64 a1)]) (.agg [.lit (.int .i64 b0), .lit (.int .i64 b1)]) = some (.lit (.bool (a0 == b0 && (a1 == b1)))) := sq29.1
theorem sn29 {H : Nat → Option VObj} {x y : Operand} {a0 b0 : Int} {a1 b1 : Int} : binV Tryz.prog H .neq 29 x y (.agg [.lit (.int .i64 a0), .lit (.int .i64 a1)]) (.agg [.lit (.int .i64 b0), .lit (.int .i64 b1)]) = some (.lit (.bool (!(a0 == b0 && (a1 == b1))))) := sq29.2
theorem sq49 {H : Nat → Option VObj} {x y : Operand} {a0 b0 : Int} {a1 b1 : Int} : binV Tryz.prog H .eql 49 x y (.agg [.lit (.int .i64 a0), .lit (.int .i64 a1)]) (.agg [.lit (.int .i64 b0), .lit (.int .i64 b1)]) = some (.lit (.bool (a0 == b0 && (a1 == b1)))) ∧ binV Tryz.prog H .neq 49 x y (.agg [.lit (.int .i64 a0), .lit (.int .i64 a1)]) (.agg [.lit (.int .i64 b0), .lit (.int .i64 b1)]) = some (.lit (.bool (!(a0 == b0 && (a1 == b1))))) := by
 refine binS (xs := [.int .i64 a0, .int .i64 a1]) (ys := [.int .i64 b0, .int .i64 b1]) (by simp [VV.val?, valL?]) (by simp [VV.val?, valL?]) Tryz.underlying49 (by kernel_rfl) (by kernel_rfl) ?_
 simp [eqF, ok1, eq1, Tryz.underlying3, Tryz.underlying47]
theorem se49 {H : Nat → Option VObj} {x y : Operand} {a0 b0 : Int} {a1 b1 : Int} : binV Tryz.prog H .eql 49 x y (.agg [.lit (.int .i64 a0), .lit (.int .i64 a1)]) (.agg [.lit (.int .i64 b0), .lit (.int .i64 b1)]) = some (.lit (.bool (a0 == b0 && (a1 == b1)))) := sq49.1
theorem sn49 {H : Nat → Option VObj} {x y : Operand} {a0 b0 : Int} {a1 b1 : Int} : binV Tryz.prog H .neq 49 x y (.agg [.lit (.int .i64 a0), .lit (.int .i64 a1)]) (.agg [.lit (.int .i64 b0), .lit (.int .i64 b1)]) = some (.lit (.bool (!(a0 == b0 && (a1 == b1))))) := sq49.2
def tyf := (And.intro (And.intro (And.intro (And.intro (And.intro (And.intro (And.intro @cGSpan_eq (And.intro @cGSightLetter_eq @cGSightBoard_eq)) (And.intro @cGSightBlock_eq (And.intro @cGSightStreet_eq @cGSightPlace_eq))) (And.intro (And.intro @cGSightFault_eq (And.intro @cGsightview_eq @cGsightfault_eq)) (And.intro @ld2 (And.intro @sz2 @vzl2)))) (And.intro (And.intro (And.intro @ld3 (And.intro @sz3 @vzl3)) (And.intro @ld4 (And.intro @sz4 @vzl4))) (And.intro (And.intro @ld9 (And.intro @sz9 @vzl9)) (And.intro (And.intro @ld23 @sz23) (And.intro @vzl23 @fa23_0))))) (And.intro (And.intro (And.intro (And.intro @fp23_0 (And.intro @fa23_1 @fp23_1)) (And.intro @ld24 (And.intro @sz24 @vzl24))) (And.intro (And.intro @len24 (And.intro @lenN24 @lenR24)) (And.intro (And.intro @et24 @tk24) (And.intro @bs24_1 @ld25)))) (And.intro (And.intro (And.intro @sz25 (And.intro @vzl25 @len25)) (And.intro @lenN25 (And.intro @lenR25 @et25))) (And.intro (And.intro @tk25 (And.intro @bs25_1 @ld27)) (And.intro (And.intro @sz27 @vzl27) (And.intro @fa27_0 @fp27_0)))))) (And.intro (And.intro (And.intro (And.intro (And.intro @fa27_1 (And.intro @fp27_1 @fa27_2)) (And.intro @fp27_2 (And.intro @fa27_3 @fp27_3))) (And.intro (And.intro @fa27_4 (And.intro @fp27_4 @fa27_5)) (And.intro (And.intro @fp27_5 @ld29) (And.intro @sz29 @vzl29)))) (And.intro (And.intro (And.intro @fa29_0 (And.intro @fp29_0 @fa29_1)) (And.intro @fp29_1 (And.intro @ld32 @sz32))) (And.intro (And.intro @vzl32 (And.intro @ld34 @sz34)) (And.intro (And.intro @vzl34 @ld40) (And.intro @sz40 @vzl40))))) (And.intro (And.intro (And.intro (And.intro @len40 (And.intro @lenN40 @lenR40)) (And.intro @et40 (And.intro @tk40 @bs40_1))) (And.intro (And.intro @ld42 (And.intro @sz42 @vzl42)) (And.intro (And.intro @fa42_0 @fp42_0) (And.intro @fa42_1 @fp42_1)))) (And.intro (And.intro (And.intro @ld47 (And.intro @sz47 @vzl47)) (And.intro @ld49 (And.intro @sz49 @vzl49))) (And.intro (And.intro @fa49_0 (And.intro @fp49_0 @fa49_1)) (And.intro (And.intro @fp49_1 @ld54) (And.intro @sz54 @vzl54))))))) (And.intro (And.intro (And.intro (And.intro (And.intro (And.intro @len54 (And.intro @lenN54 @lenR54)) (And.intro @et54 (And.intro @tk54 @bs54_1))) (And.intro (And.intro @bs54_2 (And.intro @bs54_3 @ld57)) (And.intro (And.intro @sz57 @vzl57) (And.intro @len57 @lenN57)))) (And.intro (And.intro (And.intro @lenR57 (And.intro @et57 @tk57)) (And.intro @bs57_1 (And.intro @bs57_2 @bs57_3))) (And.intro (And.intro @ld61 (And.intro @sz61 @vzl61)) (And.intro (And.intro @fa61_0 @fp61_0) (And.intro @fa61_1 @fp61_1))))) (And.intro (And.intro (And.intro (And.intro @fa61_2 (And.intro @fp61_2 @fa61_3)) (And.intro @fp61_3 (And.intro @ld68 @sz68))) (And.intro (And.intro @vzl68 (And.intro @fa68_0 @fp68_0)) (And.intro (And.intro @fa68_1 @fp68_1) (And.intro @fa68_2 @fp68_2)))) (And.intro (And.intro (And.intro @ld97 (And.intro @sz97 @vzl97)) (And.intro @fa97_0 (And.intro @fp97_0 @fa97_1))) (And.intro (And.intro @fp97_1 (And.intro @fa97_2 @fp97_2)) (And.intro (And.intro @fa97_3 @fp97_3) (And.intro @ld100 @sz100)))))) (And.intro (And.intro (And.intro (And.intro (And.intro @vzl100 (And.intro @len100 @lenN100)) (And.intro @lenR100 (And.intro @et100 @tk100))) (And.intro (And.intro @bs100_1 (And.intro @bs100_2 @bs100_3)) (And.intro (And.intro @ld140 @sz140) (And.intro @vzl140 @fa140_0)))) (And.intro (And.intro (And.intro @fp140_0 (And.intro @sz143 @ld143)) (And.intro @vzl143 (And.intro @sz144 @vzl144))) (And.intro (And.intro @ld144 (And.intro @vi144_0 @va144_0)) (And.intro (And.intro @vi144_1 @va144_1) (And.intro @vi144_2 @va144_2))))) (And.intro (And.intro (And.intro (And.intro @vb23_0_1 (And.intro @vb29 @vb29_0_1)) (And.intro @vb42_0 (And.intro @vb42_0_1 @vb49))) (And.intro (And.intro @vb49_0 (And.intro @vb49_0_1 @vb61_0_1_2_3)) (And.intro (And.intro @vb97_0_1_2_3 @vb140_0) (And.intro @vb144_0_1_2 @mi140)))) (And.intro (And.intro (And.intro @tn140 (And.intro @tt140 @be4)) (And.intro @bn4 (And.intro @se29 @sn29))) (And.intro (And.intro @se49 (And.intro @sn49 @eI_eq)) (And.intro (And.intro @eU8_eq @eB_eq) (And.intro @eS_eq @eSl_eq))))))))
def tynrm := (And.intro (And.intro (And.intro (And.intro (And.intro @cGSpan_ok.norm @cGSpan_ok.normL) (And.intro @cGSpan_ok.shown @cGSpan_ok.showL)) (And.intro (And.intro @cGSightLetter_ok.norm @cGSightLetter_ok.normL) (And.intro @cGSightLetter_ok.shown (And.intro @cGSightLetter_ok.showL @cGSightBoard_ok.norm)))) (And.intro (And.intro (And.intro @cGSightBoard_ok.normL @cGSightBoard_ok.shown) (And.intro @cGSightBoard_ok.showL @cGSightBlock_ok.norm)) (And.intro (And.intro @cGSightBlock_ok.normL @cGSightBlock_ok.shown) (And.intro @cGSightBlock_ok.showL (And.intro @cGSightStreet_ok.norm @cGSightStreet_ok.normL))))) (And.intro (And.intro (And.intro (And.intro @cGSightStreet_ok.shown @cGSightStreet_ok.showL) (And.intro @cGSightPlace_ok.norm @cGSightPlace_ok.normL)) (And.intro (And.intro @cGSightPlace_ok.shown @cGSightPlace_ok.showL) (And.intro @cGSightFault_ok.norm (And.intro @cGSightFault_ok.normL @cGSightFault_ok.shown)))) (And.intro (And.intro (And.intro @cGSightFault_ok.showL @cGsightview_ok.norm) (And.intro @cGsightview_ok.normL @cGsightview_ok.shown)) (And.intro (And.intro @cGsightview_ok.showL @cGsightfault_ok.norm) (And.intro @cGsightfault_ok.normL (And.intro @cGsightfault_ok.shown @cGsightfault_ok.showL))))))
def tytre := (And.intro (And.intro (And.intro (And.intro @cGSpan_ok.tree @cGSpan_ok.treeL) (And.intro @cGSightLetter_ok.tree @cGSightLetter_ok.treeL)) (And.intro (And.intro @cGSightBoard_ok.tree @cGSightBoard_ok.treeL) (And.intro @cGSightBlock_ok.tree (And.intro @cGSightBlock_ok.treeL @cGSightStreet_ok.tree)))) (And.intro (And.intro (And.intro @cGSightStreet_ok.treeL @cGSightPlace_ok.tree) (And.intro @cGSightPlace_ok.treeL @cGSightFault_ok.tree)) (And.intro (And.intro @cGSightFault_ok.treeL @cGsightview_ok.tree) (And.intro @cGsightview_ok.treeL (And.intro @cGsightfault_ok.tree @cGsightfault_ok.treeL)))))
end Go.V
end
