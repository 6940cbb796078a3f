/- Part of a proof: a logic of values by content, lifted functions, what follows. -/
import Derived.Test.YtnelojhchenkhaaGreatDoorRbe
import Derived.Test.YtnelojhchenkhaaGreatDoorRay
import Derived.Test.YtnelojhchenkhaaGreatDoorProg
import Derived.Test.YtnelojhchenkhaaGreatDoorRbd
set_option linter.all false
set_option maxRecDepth 4000
set_option maxHeartbeats 4000000
section
namespace Go.V
open Go Go.Proofs
theorem mixed : Tryz.prog.follows .mixedOrders = true := by kernel_rfl
structure GSpan where
 Low : Int
 High : Int
 deriving Inhabited, DecidableEq
def cGSpan (x : GSpan) : List VV := [.lit (.int .i64 x.Low), .lit (.int .i64 x.High)]
theorem cGSpan_eq {x : GSpan} : cGSpan x = [.lit (.int .i64 x.Low), .lit (.int .i64 x.High)] := rfl
theorem cGSpan_ok : EncOk cGSpan := EncOk.of (fun x => by simp only [cGSpan_eq, tre, Bool.and_self]) (fun x => by simp only [cGSpan_eq, nrm]) (fun x H d => by simp only [cGSpan_eq, nrm, List.map_cons, List.map_nil])
structure GCoatCoat where
 Need : Int
 Peel : Int
 deriving Inhabited, DecidableEq
def cGCoatCoat (x : GCoatCoat) : List VV := [.lit (.int .i64 x.Need), .lit (.int .i64 x.Peel)]
theorem cGCoatCoat_eq {x : GCoatCoat} : cGCoatCoat x = [.lit (.int .i64 x.Need), .lit (.int .i64 x.Peel)] := rfl
theorem cGCoatCoat_ok : EncOk cGCoatCoat := EncOk.of (fun x => by simp only [cGCoatCoat_eq, tre, cGSpan_ok.tree, cGSpan_ok.treeL, Bool.and_self]) (fun x => by simp only [cGCoatCoat_eq, nrm, cGSpan_ok.norm, cGSpan_ok.normL, cGSpan_ok.shown, cGSpan_ok.showL]) (fun x H d => by simp only [cGCoatCoat_eq, nrm, List.map_cons, List.map_nil])
structure GCoatSheet where
 Dry : List GSpan
 Work : List Int
 Coats : List GCoatCoat
 deriving Inhabited, DecidableEq
def cGCoatSheet (x : GCoatSheet) : List VV := [.sl (cellsL cGSpan x.Dry) (List.length x.Dry) false, .sl (cellsL eI x.Work) (List.length x.Work) false, .sl (cellsL cGCoatCoat x.Coats) (List.length x.Coats) false]
theorem cGCoatSheet_eq {x : GCoatSheet} : cGCoatSheet x = [.sl (cellsL cGSpan x.Dry) (List.length x.Dry) false, .sl (cellsL eI x.Work) (List.length x.Work) false, .sl (cellsL cGCoatCoat x.Coats) (List.length x.Coats) false] := rfl
theorem cGCoatSheet_ok : EncOk cGCoatSheet := EncOk.of (fun x => by simp only [cGCoatSheet_eq, tre, cGSpan_ok.tree, cGSpan_ok.treeL, cGCoatCoat_ok.tree, cGCoatCoat_ok.treeL, Bool.and_self]) (fun x => by simp only [cGCoatSheet_eq, nrm, cGSpan_ok.norm, cGSpan_ok.normL, cGSpan_ok.shown, cGSpan_ok.showL, cGCoatCoat_ok.norm, cGCoatCoat_ok.normL, cGCoatCoat_ok.shown, cGCoatCoat_ok.showL]) (fun x H d => by simp only [cGCoatSheet_eq, nrm, List.map_cons, List.map_nil])
structure Gcoatsums where
 CoatSheet : GCoatSheet
 lows : List Int
 highs : List Int
 deriving Inhabited, DecidableEq
def cGcoatsums (x : Gcoatsums) : List VV := [.sl (cellsL cGSpan x.CoatSheet.Dry) (List.length x.CoatSheet.Dry) false, .sl (cellsL eI x.CoatSheet.Work) (List.length x.CoatSheet.Work) false, .sl (cellsL cGCoatCoat x.CoatSheet.Coats) (List.length x.CoatSheet.Coats) false, .sl (cellsL eI x.lows) (List.length x.lows) false, .sl (cellsL eI x.highs) (List.length x.highs) false]
theorem cGcoatsums_eq {x : Gcoatsums} : cGcoatsums x = [.sl (cellsL cGSpan x.CoatSheet.Dry) (List.length x.CoatSheet.Dry) false, .sl (cellsL eI x.CoatSheet.Work) (List.length x.CoatSheet.Work) false, .sl (cellsL cGCoatCoat x.CoatSheet.Coats) (List.length x.CoatSheet.Coats) false, .sl (cellsL eI x.lows) (List.length x.lows) false, .sl (cellsL eI x.highs) (List.length x.highs) false] := rfl
theorem cGcoatsums_ok : EncOk cGcoatsums := EncOk.of (fun x => by simp only [cGcoatsums_eq, tre, cGSpan_ok.tree, cGSpan_ok.treeL, cGCoatCoat_ok.tree, cGCoatCoat_ok.treeL, cGCoatSheet_ok.tree, cGCoatSheet_ok.treeL, Bool.and_self]) (fun x => by simp only [cGcoatsums_eq, nrm, cGSpan_ok.norm, cGSpan_ok.normL, cGSpan_ok.shown, cGSpan_ok.showL, cGCoatCoat_ok.norm, cGCoatCoat_ok.normL, cGCoatCoat_ok.shown, cGCoatCoat_ok.showL, cGCoatSheet_ok.norm, cGCoatSheet_ok.normL, cGCoatSheet_ok.shown, cGCoatSheet_ok.showL]) (fun x H d => by simp only [cGcoatsums_eq, nrm, List.map_cons, List.map_nil])
structure Gcoatfailure where
 coat : Int
 reason : Int
 deriving Inhabited, DecidableEq
def cGcoatfailure (x : Gcoatfailure) : List VV := [.lit (.int .i64 x.coat), .lit (.int .i64 x.reason)]
theorem cGcoatfailure_eq {x : Gcoatfailure} : cGcoatfailure x = [.lit (.int .i64 x.coat), .lit (.int .i64 x.reason)] := rfl
theorem cGcoatfailure_ok : EncOk cGcoatfailure := EncOk.of (fun x => by simp only [cGcoatfailure_eq, tre, cGSpan_ok.tree, cGSpan_ok.treeL, cGCoatCoat_ok.tree, cGCoatCoat_ok.treeL, cGCoatSheet_ok.tree, cGCoatSheet_ok.treeL, cGcoatsums_ok.tree, cGcoatsums_ok.treeL, Bool.and_self]) (fun x => by simp only [cGcoatfailure_eq, nrm, cGSpan_ok.norm, cGSpan_ok.normL, cGSpan_ok.shown, cGSpan_ok.showL, cGCoatCoat_ok.norm, cGCoatCoat_ok.normL, cGCoatCoat_ok.shown, cGCoatCoat_ok.showL, cGCoatSheet_ok.norm, cGCoatSheet_ok.normL, cGCoatSheet_ok.shown, cGCoatSheet_ok.showL, cGcoatsums_ok.norm, cGcoatsums_ok.normL, cGcoatsums_ok.shown, cGcoatsums_ok.showL]) (fun x H d => by simp only [cGcoatfailure_eq, nrm, List.map_cons, List.map_nil])
theorem ld2 {c : VV} {cs : List VV} : vload Tryz.prog 2 (c :: cs) = some c := by
 have h1 : aggT Tryz.prog 2 = some false := by kernel_rfl
 simp [vload, vpart, h1]
theorem sz2 : szT Tryz.prog 2 = some 1 := by kernel_rfl
theorem vzl2 : vzl Tryz.prog 2 = some [.lit (.int .i64 0)] := by kernel_rfl
theorem ld3 {c : VV} {cs : List VV} : vload Tryz.prog 3 (c :: cs) = some c := by
 have h1 : aggT Tryz.prog 3 = some false := by kernel_rfl
 simp [vload, vpart, h1]
theorem sz3 : szT Tryz.prog 3 = some 1 := by kernel_rfl
theorem vzl3 : vzl Tryz.prog 3 = some [.lit (.int .i64 0)] := by kernel_rfl
theorem ld4 {c : VV} {cs : List VV} : vload Tryz.prog 4 (c :: cs) = some c := by
 have h1 : aggT Tryz.prog 4 = some false := by kernel_rfl
 simp [vload, vpart, h1]
theorem sz4 : szT Tryz.prog 4 = some 1 := by kernel_rfl
theorem vzl4 : vzl Tryz.prog 4 = some [.lit (.bool false)] := by kernel_rfl
theorem ld9 {c : VV} {cs : List VV} : vload Tryz.prog 9 (c :: cs) = some c := by
 have h1 : aggT Tryz.prog 9 = some false := by kernel_rfl
 simp [vload, vpart, h1]
theorem sz9 : szT Tryz.prog 9 = some 1 := by kernel_rfl
theorem vzl9 : vzl Tryz.prog 9 = some [.lit (.string ⟨#[]⟩)] := by kernel_rfl
theorem ld22 {c : VV} {cs : List VV} : vload Tryz.prog 22 (c :: cs) = some c := by
 have h1 : aggT Tryz.prog 22 = some false := by kernel_rfl
 simp [vload, vpart, h1]
theorem sz22 : szT Tryz.prog 22 = some 1 := by kernel_rfl
theorem vzl22 : vzl Tryz.prog 22 = some [.lit (.slice none 0 0)] := by kernel_rfl
theorem len22 {H : Nat → Option VObj} {cs : List VV} {n : Nat} {f : Bool} : vlen Tryz.prog H 22 (.sl cs n f) = some (.lit (.int .i64 n)) := by simp [vlen, Tryz.underlying22, sls]
theorem lenN22 {H : Nat → Option VObj} : vlen Tryz.prog H 22 (.lit (.slice none 0 0)) = some (.lit (.int .i64 0)) := by simp [vlen, Tryz.underlying22, sls]
theorem lenR22 {H : Nat → Option VObj} {β off n w c : Nat} : vlen Tryz.prog H 22 (.ref β off n w c) = (match H β with | some (.cells _ cs) => if off ≤ cs.length then some (.lit (.int .i64 n)) else none | _ => none) := lenR Tryz.underlying22
theorem et22 : elemT Tryz.prog 22 = some 89 := by simp [elemT, Tryz.underlying22]
theorem ao22 : appOk Tryz.prog 22 = some (89, 2, 16) := by kernel_rfl
theorem tk22 {xs : List GSpan} : (cellsL cGSpan xs).take (xs.length * 2) = cellsL cGSpan xs := take_cells (fun _ => rfl)
theorem lf22 : ∀ x : GSpan, leafL (cGSpan x) = true := fun x => by simp only [eI_eq, eU8_eq, eB_eq, eS_eq, eSl_eq, cGSpan_eq, leafL_nil, leafL_cons, leaf_int, leaf_bool, leaf_string, leaf_slice, leaf_sl, Bool.and_self]
theorem ixo22 {xs : List GSpan} {x : GSpan} {i : Int} (h : getI xs i = some x) : (∀ (H : Nat → Option VObj) (β c : Nat) (k : IntKind), vindexAddr Tryz.prog H 22 (.ref β 0 xs.length 2 c) (.lit (.int k i)) = if (H β).isSome = true then some (.ptr β (i.toNat * 2)) else none) ∧ (cellsL cGSpan xs).drop (i.toNat * 2) = cGSpan x ++ cellsL cGSpan (xs.drop (i.toNat + 1)) ∧ (i.toNat * 2 ≤ (cellsL cGSpan xs).length) = True := ixO Tryz.underlying22 (by kernel_rfl : szT Tryz.prog 89 = some 2) (fun _ => rfl) h
theorem bs22_1 {c0 c1 : VV} (h : leafL [c0, c1] = true) : vbuildSlice Tryz.prog 22 1 [(0, .agg [c0, c1])] = some ([c0, c1], 2) := by
 have h2 : szT Tryz.prog 89 = some 2 := by kernel_rfl
 have h3 : vzero Tryz.prog 89 = some #[.int .i64 0, .int .i64 0] := by kernel_rfl
 simp only [leafL_cons, leafL_nil, Bool.and_true, Bool.and_eq_true] at h
 simp [vbuildSlice, Tryz.underlying22, h2, h3, vfill, vcells, h, overwrite, vzeros]
theorem ix22 {H : Nat → Option VObj} {xs : List GSpan} {x : GSpan} {f : Bool} {k : IntKind} {i : Int} (h : getI xs i = some x) : vindexAddr Tryz.prog H 22 (.sl (cellsL cGSpan xs) xs.length f) (.lit (.int k i)) = some (.tp (cGSpan x ++ cellsL cGSpan (xs.drop (i.toNat + 1)))) :=
 ixG Tryz.underlying22 (by kernel_rfl : szT Tryz.prog 89 = some 2) (by decide) (fun _ => rfl) h
theorem ld23 {c : VV} {cs : List VV} : vload Tryz.prog 23 (c :: cs) = some c := by
 have h1 : aggT Tryz.prog 23 = some false := by kernel_rfl
 simp [vload, vpart, h1]
theorem sz23 : szT Tryz.prog 23 = some 1 := by kernel_rfl
theorem vzl23 : vzl Tryz.prog 23 = some [.lit (.slice none 0 0)] := by kernel_rfl
theorem len23 {H : Nat → Option VObj} {cs : List VV} {n : Nat} {f : Bool} : vlen Tryz.prog H 23 (.sl cs n f) = some (.lit (.int .i64 n)) := by simp [vlen, Tryz.underlying23, sls]
theorem lenN23 {H : Nat → Option VObj} : vlen Tryz.prog H 23 (.lit (.slice none 0 0)) = some (.lit (.int .i64 0)) := by simp [vlen, Tryz.underlying23, sls]
theorem lenR23 {H : Nat → Option VObj} {β off n w c : Nat} : vlen Tryz.prog H 23 (.ref β off n w c) = (match H β with | some (.cells _ cs) => if off ≤ cs.length then some (.lit (.int .i64 n)) else none | _ => none) := lenR Tryz.underlying23
theorem et23 : elemT Tryz.prog 23 = some 3 := by simp [elemT, Tryz.underlying23]
theorem ao23 : appOk Tryz.prog 23 = some (3, 1, 8) := by kernel_rfl
theorem tk23 {xs : List Int} : (cellsL eI xs).take (xs.length * 1) = cellsL eI xs := take_cells (fun _ => rfl)
theorem lf23 : ∀ x : Int, leafL (eI x) = true := fun x => by simp only [eI_eq, eU8_eq, eB_eq, eS_eq, eSl_eq, leafL_nil, leafL_cons, leaf_int, leaf_bool, leaf_string, leaf_slice, leaf_sl, Bool.and_self]
theorem ixo23 {xs : List Int} {x : Int} {i : Int} (h : getI xs i = some x) : (∀ (H : Nat → Option VObj) (β c : Nat) (k : IntKind), vindexAddr Tryz.prog H 23 (.ref β 0 xs.length 1 c) (.lit (.int k i)) = if (H β).isSome = true then some (.ptr β (i.toNat * 1)) else none) ∧ (cellsL eI xs).drop (i.toNat * 1) = eI x ++ cellsL eI (xs.drop (i.toNat + 1)) ∧ (i.toNat * 1 ≤ (cellsL eI xs).length) = True := ixO Tryz.underlying23 (by kernel_rfl : szT Tryz.prog 3 = some 1) (fun _ => rfl) h
theorem bs23_1 {a0 : VV} (h : leafL [a0] = true) : vbuildSlice Tryz.prog 23 1 [(0, a0)] = some ([a0], 1) := by
 have h2 : szT Tryz.prog 3 = some 1 := by kernel_rfl
 have h3 : vzero Tryz.prog 3 = some #[.int .i64 0] := by kernel_rfl
 simp only [leafL_cons, leafL_nil, Bool.and_true, Bool.and_eq_true] at h
 simp [vbuildSlice, Tryz.underlying23, h2, h3, vfill, vcells1, h, overwrite, vzeros, List.range_succ]
theorem bs23_2 {a0 a1 : VV} (h : leafL [a0, a1] = true) : vbuildSlice Tryz.prog 23 2 [(0, a0), (1, a1)] = some ([a0, a1], 1) := by
 have h2 : szT Tryz.prog 3 = some 1 := by kernel_rfl
 have h3 : vzero Tryz.prog 3 = some #[.int .i64 0] := by kernel_rfl
 simp only [leafL_cons, leafL_nil, Bool.and_true, Bool.and_eq_true] at h
 simp [vbuildSlice, Tryz.underlying23, h2, h3, vfill, vcells1, h, overwrite, vzeros, List.range_succ]
theorem bs23_3 {a0 a1 a2 : VV} (h : leafL [a0, a1, a2] = true) : vbuildSlice Tryz.prog 23 3 [(0, a0), (1, a1), (2, a2)] = some ([a0, a1, a2], 1) := by
 have h2 : szT Tryz.prog 3 = some 1 := by kernel_rfl
 have h3 : vzero Tryz.prog 3 = some #[.int .i64 0] := by kernel_rfl
 simp only [leafL_cons, leafL_nil, Bool.and_true, Bool.and_eq_true] at h
 simp [vbuildSlice, Tryz.underlying23, h2, h3, vfill, vcells1, h, overwrite, vzeros, List.range_succ]
theorem ix23 {H : Nat → Option VObj} {xs : List Int} {x : Int} {f : Bool} {k : IntKind} {i : Int} (h : getI xs i = some x) : vindexAddr Tryz.prog H 23 (.sl (cellsL eI xs) xs.length f) (.lit (.int k i)) = some (.tp (eI x ++ cellsL eI (xs.drop (i.toNat + 1)))) :=
 ixG Tryz.underlying23 (by kernel_rfl : szT Tryz.prog 3 = some 1) (by decide) (fun _ => rfl) h
theorem ld24 {c : VV} {cs : List VV} : vload Tryz.prog 24 (c :: cs) = some c := by
 have h1 : aggT Tryz.prog 24 = some false := by kernel_rfl
 simp [vload, vpart, h1]
theorem sz24 : szT Tryz.prog 24 = some 1 := by kernel_rfl
theorem vzl24 : vzl Tryz.prog 24 = some [.lit (.slice none 0 0)] := by kernel_rfl
theorem len24 {H : Nat → Option VObj} {cs : List VV} {n : Nat} {f : Bool} : vlen Tryz.prog H 24 (.sl cs n f) = some (.lit (.int .i64 n)) := by simp [vlen, Tryz.underlying24, sls]
theorem lenN24 {H : Nat → Option VObj} : vlen Tryz.prog H 24 (.lit (.slice none 0 0)) = some (.lit (.int .i64 0)) := by simp [vlen, Tryz.underlying24, sls]
theorem lenR24 {H : Nat → Option VObj} {β off n w c : Nat} : vlen Tryz.prog H 24 (.ref β off n w c) = (match H β with | some (.cells _ cs) => if off ≤ cs.length then some (.lit (.int .i64 n)) else none | _ => none) := lenR Tryz.underlying24
theorem et24 : elemT Tryz.prog 24 = some 53 := by simp [elemT, Tryz.underlying24]
theorem tk24 {xs : List GCoatCoat} : (cellsL cGCoatCoat xs).take (xs.length * 2) = cellsL cGCoatCoat xs := take_cells (fun _ => rfl)
theorem bs24_1 {c0 c1 : VV} (h : leafL [c0, c1] = true) : vbuildSlice Tryz.prog 24 1 [(0, .agg [c0, c1])] = some ([c0, c1], 2) := by
 have h2 : szT Tryz.prog 53 = some 2 := by kernel_rfl
 have h3 : vzero Tryz.prog 53 = some #[.int .i64 0, .int .i64 0] := by kernel_rfl
 simp only [leafL_cons, leafL_nil, Bool.and_true, Bool.and_eq_true] at h
 simp [vbuildSlice, Tryz.underlying24, h2, h3, vfill, vcells, h, overwrite, vzeros]
theorem ix24 {H : Nat → Option VObj} {xs : List GCoatCoat} {x : GCoatCoat} {f : Bool} {k : IntKind} {i : Int} (h : getI xs i = some x) : vindexAddr Tryz.prog H 24 (.sl (cellsL cGCoatCoat xs) xs.length f) (.lit (.int k i)) = some (.tp (cGCoatCoat x ++ cellsL cGCoatCoat (xs.drop (i.toNat + 1)))) :=
 ixG Tryz.underlying24 (by kernel_rfl : szT Tryz.prog 53 = some 2) (by decide) (fun _ => rfl) h
theorem ld26 {c0 c1 c2 : VV} {cs : List VV} : vload Tryz.prog 26 (c0 :: c1 :: c2 :: cs) = some (.agg [c0, c1, c2]) := by
 have h1 : aggT Tryz.prog 26 = some true := by kernel_rfl
 have h2 : szT Tryz.prog 26 = some 3 := by kernel_rfl
 simp [vload, vpart, h1, h2]
theorem sz26 : szT Tryz.prog 26 = some 3 := by kernel_rfl
theorem vzl26 : vzl Tryz.prog 26 = some [.lit (.slice none 0 0), .lit (.slice none 0 0), .lit (.slice none 0 0)] := by kernel_rfl
theorem fa26_0 {H : Nat → Option VObj} {cs : List VV} : vfieldAddr Tryz.prog H 26 (.tp cs) 0 = some (.tp (cs.drop 0)) := by
 have h2 : szT Tryz.prog 22 = some 1 := by kernel_rfl
 simp [vfieldAddr, Tryz.underlying26, h2]
theorem fp26_0 {H : Nat → Option VObj} {β o : Nat} : vfieldAddr Tryz.prog H 26 (.ptr β o) 0 = if (H β).isSome = true then some (.ptr β (o + 0)) else none := by
 have h2 : szT Tryz.prog 22 = some 1 := by kernel_rfl
 simp [vfieldAddr, Tryz.underlying26, h2]
theorem fa26_1 {H : Nat → Option VObj} {cs : List VV} : vfieldAddr Tryz.prog H 26 (.tp cs) 1 = some (.tp (cs.drop 1)) := by
 have h2 : szT Tryz.prog 23 = some 1 := by kernel_rfl
 simp [vfieldAddr, Tryz.underlying26, h2]
theorem fp26_1 {H : Nat → Option VObj} {β o : Nat} : vfieldAddr Tryz.prog H 26 (.ptr β o) 1 = if (H β).isSome = true then some (.ptr β (o + 1)) else none := by
 have h2 : szT Tryz.prog 23 = some 1 := by kernel_rfl
 simp [vfieldAddr, Tryz.underlying26, h2]
theorem fa26_2 {H : Nat → Option VObj} {cs : List VV} : vfieldAddr Tryz.prog H 26 (.tp cs) 2 = some (.tp (cs.drop 2)) := by
 have h2 : szT Tryz.prog 24 = some 1 := by kernel_rfl
 simp [vfieldAddr, Tryz.underlying26, h2]
theorem fp26_2 {H : Nat → Option VObj} {β o : Nat} : vfieldAddr Tryz.prog H 26 (.ptr β o) 2 = if (H β).isSome = true then some (.ptr β (o + 2)) else none := by
 have h2 : szT Tryz.prog 24 = some 1 := by kernel_rfl
 simp [vfieldAddr, Tryz.underlying26, h2]
theorem ld29 {c : VV} {cs : List VV} : vload Tryz.prog 29 (c :: cs) = some c := by
 have h1 : aggT Tryz.prog 29 = some false := by kernel_rfl
 simp [vload, vpart, h1]
theorem sz29 : szT Tryz.prog 29 = some 1 := by kernel_rfl
theorem vzl29 : vzl Tryz.prog 29 = some [.lit (.int .i64 0)] := by kernel_rfl
theorem ld31 {c : VV} {cs : List VV} : vload Tryz.prog 31 (c :: cs) = some c := by
 have h1 : aggT Tryz.prog 31 = some false := by kernel_rfl
 simp [vload, vpart, h1]
theorem sz31 : szT Tryz.prog 31 = some 1 := by kernel_rfl
theorem vzl31 : vzl Tryz.prog 31 = some [.lit (.int .i64 0)] := by kernel_rfl
theorem ld41 {c : VV} {cs : List VV} : vload Tryz.prog 41 (c :: cs) = some c := by
 have h1 : aggT Tryz.prog 41 = some false := by kernel_rfl
 simp [vload, vpart, h1]
theorem sz41 : szT Tryz.prog 41 = some 1 := by kernel_rfl
theorem vzl41 : vzl Tryz.prog 41 = some [.lit (.int .i64 0)] := by kernel_rfl
theorem ld53 {c0 c1 : VV} {cs : List VV} : vload Tryz.prog 53 (c0 :: c1 :: cs) = some (.agg [c0, c1]) := by
 have h1 : aggT Tryz.prog 53 = some true := by kernel_rfl
 have h2 : szT Tryz.prog 53 = some 2 := by kernel_rfl
 simp [vload, vpart, h1, h2]
theorem sz53 : szT Tryz.prog 53 = some 2 := by kernel_rfl
theorem vzl53 : vzl Tryz.prog 53 = some [.lit (.int .i64 0), .lit (.int .i64 0)] := by kernel_rfl
theorem fa53_0 {H : Nat → Option VObj} {cs : List VV} : vfieldAddr Tryz.prog H 53 (.tp cs) 0 = some (.tp (cs.drop 0)) := by
 have h2 : szT Tryz.prog 3 = some 1 := by kernel_rfl
 simp [vfieldAddr, Tryz.underlying53, h2]
theorem fp53_0 {H : Nat → Option VObj} {β o : Nat} : vfieldAddr Tryz.prog H 53 (.ptr β o) 0 = if (H β).isSome = true then some (.ptr β (o + 0)) else none := by
 have h2 : szT Tryz.prog 3 = some 1 := by kernel_rfl
 simp [vfieldAddr, Tryz.underlying53, h2]
theorem fa53_1 {H : Nat → Option VObj} {cs : List VV} : vfieldAddr Tryz.prog H 53 (.tp cs) 1 = some (.tp (cs.drop 1)) := by
 have h2 : szT Tryz.prog 3 = some 1 := by kernel_rfl
 simp [vfieldAddr, Tryz.underlying53, h2]
theorem fp53_1 {H : Nat → Option VObj} {β o : Nat} : vfieldAddr Tryz.prog H 53 (.ptr β o) 1 = if (H β).isSome = true then some (.ptr β (o + 1)) else none := by
 have h2 : szT Tryz.prog 3 = some 1 := by kernel_rfl
 simp [vfieldAddr, Tryz.underlying53, h2]
theorem ld80 {c0 c1 c2 c3 c4 : VV} {cs : List VV} : vload Tryz.prog 80 (c0 :: c1 :: c2 :: c3 :: c4 :: cs) = some (.agg [c0, c1, c2, c3, c4]) := by
 have h1 : aggT Tryz.prog 80 = some true := by kernel_rfl
 have h2 : szT Tryz.prog 80 = some 5 := by kernel_rfl
 simp [vload, vpart, h1, h2]
theorem sz80 : szT Tryz.prog 80 = some 5 := by kernel_rfl
theorem vzl80 : vzl Tryz.prog 80 = some [.lit (.slice none 0 0), .lit (.slice none 0 0), .lit (.slice none 0 0), .lit (.slice none 0 0), .lit (.slice none 0 0)] := by kernel_rfl
theorem fa80_0 {H : Nat → Option VObj} {cs : List VV} : vfieldAddr Tryz.prog H 80 (.tp cs) 0 = some (.tp (cs.drop 0)) := by
 have h2 : szT Tryz.prog 26 = some 3 := by kernel_rfl
 simp [vfieldAddr, Tryz.underlying80, h2]
theorem fp80_0 {H : Nat → Option VObj} {β o : Nat} : vfieldAddr Tryz.prog H 80 (.ptr β o) 0 = if (H β).isSome = true then some (.ptr β (o + 0)) else none := by
 have h2 : szT Tryz.prog 26 = some 3 := by kernel_rfl
 simp [vfieldAddr, Tryz.underlying80, h2]
theorem fa80_1 {H : Nat → Option VObj} {cs : List VV} : vfieldAddr Tryz.prog H 80 (.tp cs) 1 = some (.tp (cs.drop 3)) := by
 have h2 : szT Tryz.prog 23 = some 1 := by kernel_rfl
 simp [vfieldAddr, Tryz.underlying80, h2]
theorem fp80_1 {H : Nat → Option VObj} {β o : Nat} : vfieldAddr Tryz.prog H 80 (.ptr β o) 1 = if (H β).isSome = true then some (.ptr β (o + 3)) else none := by
 have h2 : szT Tryz.prog 23 = some 1 := by kernel_rfl
 simp [vfieldAddr, Tryz.underlying80, h2]
theorem fa80_2 {H : Nat → Option VObj} {cs : List VV} : vfieldAddr Tryz.prog H 80 (.tp cs) 2 = some (.tp (cs.drop 4)) := by
 have h2 : szT Tryz.prog 23 = some 1 := by kernel_rfl
 simp [vfieldAddr, Tryz.underlying80, h2]
theorem fp80_2 {H : Nat → Option VObj} {β o : Nat} : vfieldAddr Tryz.prog H 80 (.ptr β o) 2 = if (H β).isSome = true then some (.ptr β (o + 4)) else none := by
 have h2 : szT Tryz.prog 23 = some 1 := by kernel_rfl
 simp [vfieldAddr, Tryz.underlying80, h2]
theorem ld89 {c0 c1 : VV} {cs : List VV} : vload Tryz.prog 89 (c0 :: c1 :: cs) = some (.agg [c0, c1]) := by
 have h1 : aggT Tryz.prog 89 = some true := by kernel_rfl
 have h2 : szT Tryz.prog 89 = some 2 := by kernel_rfl
 simp [vload, vpart, h1, h2]
theorem sz89 : szT Tryz.prog 89 = some 2 := by kernel_rfl
theorem vzl89 : vzl Tryz.prog 89 = some [.lit (.int .i64 0), .lit (.int .i64 0)] := by kernel_rfl
theorem fa89_0 {H : Nat → Option VObj} {cs : List VV} : vfieldAddr Tryz.prog H 89 (.tp cs) 0 = some (.tp (cs.drop 0)) := by
 have h2 : szT Tryz.prog 3 = some 1 := by kernel_rfl
 simp [vfieldAddr, Tryz.underlying89, h2]
theorem fp89_0 {H : Nat → Option VObj} {β o : Nat} : vfieldAddr Tryz.prog H 89 (.ptr β o) 0 = if (H β).isSome = true then some (.ptr β (o + 0)) else none := by
 have h2 : szT Tryz.prog 3 = some 1 := by kernel_rfl
 simp [vfieldAddr, Tryz.underlying89, h2]
theorem fa89_1 {H : Nat → Option VObj} {cs : List VV} : vfieldAddr Tryz.prog H 89 (.tp cs) 1 = some (.tp (cs.drop 1)) := by
 have h2 : szT Tryz.prog 3 = some 1 := by kernel_rfl
 simp [vfieldAddr, Tryz.underlying89, h2]
theorem fp89_1 {H : Nat → Option VObj} {β o : Nat} : vfieldAddr Tryz.prog H 89 (.ptr β o) 1 = if (H β).isSome = true then some (.ptr β (o + 1)) else none := by
 have h2 : szT Tryz.prog 3 = some 1 := by kernel_rfl
 simp [vfieldAddr, Tryz.underlying89, h2]
theorem ld95 {c0 c1 : VV} {cs : List VV} : vload Tryz.prog 95 (c0 :: c1 :: cs) = some (.agg [c0, c1]) := by
 have h1 : aggT Tryz.prog 95 = some true := by kernel_rfl
 have h2 : szT Tryz.prog 95 = some 2 := by kernel_rfl
 simp [vload, vpart, h1, h2]
theorem sz95 : szT Tryz.prog 95 = some 2 := by kernel_rfl
theorem vzl95 : vzl Tryz.prog 95 = some [.lit (.int .i64 0), .lit (.int .i64 0)] := by kernel_rfl
theorem fa95_0 {H : Nat → Option VObj} {cs : List VV} : vfieldAddr Tryz.prog H 95 (.tp cs) 0 = some (.tp (cs.drop 0)) := by
 have h2 : szT Tryz.prog 3 = some 1 := by kernel_rfl
 simp [vfieldAddr, Tryz.underlying95, h2]
theorem fp95_0 {H : Nat → Option VObj} {β o : Nat} : vfieldAddr Tryz.prog H 95 (.ptr β o) 0 = if (H β).isSome = true then some (.ptr β (o + 0)) else none := by
 have h2 : szT Tryz.prog 3 = some 1 := by kernel_rfl
 simp [vfieldAddr, Tryz.underlying95, h2]
theorem fa95_1 {H : Nat → Option VObj} {cs : List VV} : vfieldAddr Tryz.prog H 95 (.tp cs) 1 = some (.tp (cs.drop 1)) := by
 have h2 : szT Tryz.prog 41 = some 1 := by kernel_rfl
 simp [vfieldAddr, Tryz.underlying95, h2]
theorem fp95_1 {H : Nat → Option VObj} {β o : Nat} : vfieldAddr Tryz.prog H 95 (.ptr β o) 1 = if (H β).isSome = true then some (.ptr β (o + 1)) else none := by
 have h2 : szT Tryz.prog 41 = some 1 := by kernel_rfl
 simp [vfieldAddr, Tryz.underlying95, h2]
theorem ld158 {c : VV} {cs : List VV} : vload Tryz.prog 158 (c :: cs) = some c := by
 have h1 : aggT Tryz.prog 158 = some false := by kernel_rfl
 simp [vload, vpart, h1]
theorem sz158 : szT Tryz.prog 158 = some 1 := by kernel_rfl
theorem vzl158 : vzl Tryz.prog 158 = some [.lit (.int .i64 0)] := by kernel_rfl
theorem sz83 : szT Tryz.prog 83 = some 1 := by kernel_rfl
theorem ld83 {c : VV} {cs : List VV} : vload Tryz.prog 83 (c :: cs) = some c := by
 have h1 : aggT Tryz.prog 83 = some false := by kernel_rfl
 simp [vload, vpart, h1]
theorem vzl83 : vzl Tryz.prog 83 = some [.lit .nilFunc] := by kernel_rfl
theorem sz85 : szT Tryz.prog 85 = some 3 := by kernel_rfl
theorem vzl85 : vzl Tryz.prog 85 = some [.lit .nilFunc, .lit .nilFunc, .lit .nilFunc] := by kernel_rfl
theorem ld85 {c0 c1 c2 : VV} {cs : List VV} : vload Tryz.prog 85 (c0 :: c1 :: c2 :: cs) = some (.agg [c0, c1, c2]) := by
 have h1 : aggT Tryz.prog 85 = some true := by kernel_rfl
 have h2 : szT Tryz.prog 85 = some 3 := by kernel_rfl
 simp [vload, vpart, h1, h2]
theorem vi85_0 {c0 c1 c2 : VV} {k : IntKind} : vindex Tryz.prog 85 (.agg [c0, c1, c2]) (.lit (.int k 0)) = some c0 := by
 have h1 : aggT Tryz.prog 83 = some false := by kernel_rfl
 have h2 : szT Tryz.prog 83 = some 1 := by kernel_rfl
 simp [vindex, Tryz.underlying85, vpart, h1, h2]
theorem va85_0 {H : Nat → Option VObj} {β o : Nat} {k : IntKind} : vindexAddr Tryz.prog H 85 (.ptr β o) (.lit (.int k 0)) = if (H β).isSome = true then some (.ptr β (o + 0)) else none := by
 have h2 : szT Tryz.prog 83 = some 1 := by kernel_rfl
 simp [vindexAddr, Tryz.underlying85, h2]
theorem vi85_1 {c0 c1 c2 : VV} {k : IntKind} : vindex Tryz.prog 85 (.agg [c0, c1, c2]) (.lit (.int k 1)) = some c1 := by
 have h1 : aggT Tryz.prog 83 = some false := by kernel_rfl
 have h2 : szT Tryz.prog 83 = some 1 := by kernel_rfl
 simp [vindex, Tryz.underlying85, vpart, h1, h2]
theorem va85_1 {H : Nat → Option VObj} {β o : Nat} {k : IntKind} : vindexAddr Tryz.prog H 85 (.ptr β o) (.lit (.int k 1)) = if (H β).isSome = true then some (.ptr β (o + 1)) else none := by
 have h2 : szT Tryz.prog 83 = some 1 := by kernel_rfl
 simp [vindexAddr, Tryz.underlying85, h2]
theorem vi85_2 {c0 c1 c2 : VV} {k : IntKind} : vindex Tryz.prog 85 (.agg [c0, c1, c2]) (.lit (.int k 2)) = some c2 := by
 have h1 : aggT Tryz.prog 83 = some false := by kernel_rfl
 have h2 : szT Tryz.prog 83 = some 1 := by kernel_rfl
 simp [vindex, Tryz.underlying85, vpart, h1, h2]
theorem va85_2 {H : Nat → Option VObj} {β o : Nat} {k : IntKind} : vindexAddr Tryz.prog H 85 (.ptr β o) (.lit (.int k 2)) = if (H β).isSome = true then some (.ptr β (o + 2)) else none := by
 have h2 : szT Tryz.prog 83 = some 1 := by kernel_rfl
 simp [vindexAddr, Tryz.underlying85, h2]
theorem vb80_0 {x0_0 x0_1 x0_2 : VV} (h : leafL [x0_0, x0_1, x0_2] = true) : vbuild Tryz.prog 80 [(0, .agg [x0_0, x0_1, x0_2])] = some (.agg [x0_0, x0_1, x0_2, .lit (.slice none 0 0), .lit (.slice none 0 0)]) := by
 have p0 : placeT Tryz.prog 80 0 = some (0, 3) := by kernel_rfl
 simp only [leafL_cons, leafL_nil, Bool.and_true, Bool.and_eq_true] at h
 have q0 : vcells (.agg [x0_0, x0_1, x0_2]) = some [x0_0, x0_1, x0_2] := by rw [vcells_agg]; simp [leafL_cons, leafL_nil, h]
 rw [vbuild_eq vzl80 (by kernel_rfl)]
 simp [vfill, p0, vcells1, h, overwrite, q0]
theorem vb85_1_2 {x1_0 x2_0 : VV} (h : leafL [x1_0, x2_0] = true) : vbuild Tryz.prog 85 [(1, x1_0), (2, x2_0)] = some (.agg [.lit .nilFunc, x1_0, x2_0]) := by
 have p1 : placeT Tryz.prog 85 1 = some (1, 1) := by kernel_rfl
 have p2 : placeT Tryz.prog 85 2 = some (2, 1) := by kernel_rfl
 simp only [leafL_cons, leafL_nil, Bool.and_true, Bool.and_eq_true] at h
 rw [vbuild_eq vzl85 (by kernel_rfl)]
 simp [vfill, p1, p2, vcells1, h, overwrite]
theorem vb89_0_1 {x0_0 x1_0 : VV} (h : leafL [x0_0, x1_0] = true) : vbuild Tryz.prog 89 [(0, x0_0), (1, x1_0)] = some (.agg [x0_0, x1_0]) := by
 have p0 : placeT Tryz.prog 89 0 = some (0, 1) := by kernel_rfl
 have p1 : placeT Tryz.prog 89 1 = some (1, 1) := by kernel_rfl
 simp only [leafL_cons, leafL_nil, Bool.and_true, Bool.and_eq_true] at h
 rw [vbuild_eq vzl89 (by kernel_rfl)]
 simp [vfill, p0, p1, vcells1, h, overwrite]
theorem vb95 : vbuild Tryz.prog 95 [] = some (.agg [.lit (.int .i64 0), .lit (.int .i64 0)]) := by
 rw [vbuild_eq vzl95 (by kernel_rfl)]
 rfl
theorem vb95_0_1 {x0_0 x1_0 : VV} (h : leafL [x0_0, x1_0] = true) : vbuild Tryz.prog 95 [(0, x0_0), (1, x1_0)] = some (.agg [x0_0, x1_0]) := by
 have p0 : placeT Tryz.prog 95 0 = some (0, 1) := by kernel_rfl
 have p1 : placeT Tryz.prog 95 1 = some (1, 1) := by kernel_rfl
 simp only [leafL_cons, leafL_nil, Bool.and_true, Bool.and_eq_true] at h
 rw [vbuild_eq vzl95 (by kernel_rfl)]
 simp [vfill, p0, p1, vcells1, h, overwrite]
theorem mi95 {x : VV} : mkIfcV Tryz.prog 95 x = some (.ifc 95 x) := by simp [mkIfcV, Tryz.underlying95]
theorem tz95 : ((Tryz.prog.info? 95).bind (·.zero)).map (fun z => VV.tup [ofVal2 z, .lit (.bool false)]) = some (.tup [.agg [.lit (.int .i64 0), .lit (.int .i64 0)], .lit (.bool false)]) := by kernel_rfl
theorem tn95 : vtypeAssert Tryz.prog (.lit .nilIface) 95 true = some (.tup [.agg [.lit (.int .i64 0), .lit (.int .i64 0)], .lit (.bool false)]) := by
 simp only [vtypeAssert, Tryz.underlying95, if_true]
 exact tz95
theorem tt95 {x : VV} : vtypeAssert Tryz.prog (.ifc 95 x) 95 true = some (.tup [x, .lit (.bool true)]) := by
 simp [vtypeAssert, Tryz.underlying95]
theorem be4 {H : Nat → Option VObj} {x y : Operand} {a b : Bool} : binV Tryz.prog H .eql 4 x y (.lit (.bool a)) (.lit (.bool b)) = some (.lit (.bool (a == b))) := bin_eqB Tryz.underlying4
theorem bn4 {H : Nat → Option VObj} {x y : Operand} {a b : Bool} : binV Tryz.prog H .neq 4 x y (.lit (.bool a)) (.lit (.bool b)) = some (.lit (.bool (a != b))) := bin_neB Tryz.underlying4
theorem leaf_nf : (VV.lit Value.nilFunc).leaf = true := rfl
theorem leaf_ni : (VV.lit Value.nilIface).leaf = true := rfl
def tyf := (And.intro (And.intro (And.intro (And.intro (And.intro (And.intro @cGSpan_eq (And.intro @cGCoatCoat_eq @cGCoatSheet_eq)) (And.intro (And.intro @cGcoatsums_eq @cGcoatfailure_eq) (And.intro @ld2 @sz2))) (And.intro (And.intro (And.intro @vzl2 @ld3) (And.intro @sz3 @vzl3)) (And.intro (And.intro @ld4 @sz4) (And.intro @vzl4 @ld9)))) (And.intro (And.intro (And.intro (And.intro @sz9 @vzl9) (And.intro @ld22 @sz22)) (And.intro (And.intro @vzl22 @len22) (And.intro @lenN22 @lenR22))) (And.intro (And.intro (And.intro @et22 @tk22) (And.intro @bs22_1 @ld23)) (And.intro (And.intro @sz23 @vzl23) (And.intro @len23 @lenN23))))) (And.intro (And.intro (And.intro (And.intro (And.intro @lenR23 @et23) (And.intro @tk23 @bs23_1)) (And.intro (And.intro @bs23_2 @bs23_3) (And.intro @ld24 @sz24))) (And.intro (And.intro (And.intro @vzl24 @len24) (And.intro @lenN24 @lenR24)) (And.intro (And.intro @et24 @tk24) (And.intro @bs24_1 @ld26)))) (And.intro (And.intro (And.intro (And.intro @sz26 @vzl26) (And.intro @fa26_0 @fp26_0)) (And.intro (And.intro @fa26_1 @fp26_1) (And.intro @fa26_2 @fp26_2))) (And.intro (And.intro (And.intro @ld29 @sz29) (And.intro @vzl29 @ld31)) (And.intro (And.intro @sz31 @vzl31) (And.intro @ld41 @sz41)))))) (And.intro (And.intro (And.intro (And.intro (And.intro (And.intro @vzl41 @ld53) (And.intro @sz53 @vzl53)) (And.intro (And.intro @fa53_0 @fp53_0) (And.intro @fa53_1 @fp53_1))) (And.intro (And.intro (And.intro @ld80 @sz80) (And.intro @vzl80 @fa80_0)) (And.intro (And.intro @fp80_0 @fa80_1) (And.intro @fp80_1 @fa80_2)))) (And.intro (And.intro (And.intro (And.intro @fp80_2 @ld89) (And.intro @sz89 @vzl89)) (And.intro (And.intro @fa89_0 @fp89_0) (And.intro @fa89_1 @fp89_1))) (And.intro (And.intro (And.intro @ld95 @sz95) (And.intro @vzl95 @fa95_0)) (And.intro (And.intro @fp95_0 @fa95_1) (And.intro @fp95_1 @ld158))))) (And.intro (And.intro (And.intro (And.intro (And.intro @sz158 @vzl158) (And.intro @sz83 @ld83)) (And.intro (And.intro @vzl83 @sz85) (And.intro @vzl85 @ld85))) (And.intro (And.intro (And.intro @vi85_0 @va85_0) (And.intro @vi85_1 @va85_1)) (And.intro (And.intro @vi85_2 @va85_2) (And.intro @vb80_0 @vb85_1_2)))) (And.intro (And.intro (And.intro (And.intro @vb89_0_1 @vb95) (And.intro @vb95_0_1 @mi95)) (And.intro (And.intro @tn95 @tt95) (And.intro @be4 @bn4))) (And.intro (And.intro (And.intro @leaf_nf @leaf_ni) (And.intro @midG_normal @eI_eq)) (And.intro (And.intro @eU8_eq @eB_eq) (And.intro @eS_eq @eSl_eq)))))))
def tynrm := (And.intro (And.intro (And.intro (And.intro @cGSpan_ok.norm @cGSpan_ok.normL) (And.intro @cGSpan_ok.shown (And.intro @cGSpan_ok.showL @cGCoatCoat_ok.norm))) (And.intro (And.intro @cGCoatCoat_ok.normL @cGCoatCoat_ok.shown) (And.intro @cGCoatCoat_ok.showL (And.intro @cGCoatSheet_ok.norm @cGCoatSheet_ok.normL)))) (And.intro (And.intro (And.intro @cGCoatSheet_ok.shown @cGCoatSheet_ok.showL) (And.intro @cGcoatsums_ok.norm (And.intro @cGcoatsums_ok.normL @cGcoatsums_ok.shown))) (And.intro (And.intro @cGcoatsums_ok.showL @cGcoatfailure_ok.norm) (And.intro @cGcoatfailure_ok.normL (And.intro @cGcoatfailure_ok.shown @cGcoatfailure_ok.showL)))))
def tytre := (And.intro (And.intro (And.intro @cGSpan_ok.tree @cGSpan_ok.treeL) (And.intro @cGCoatCoat_ok.tree (And.intro @cGCoatCoat_ok.treeL @cGCoatSheet_ok.tree))) (And.intro (And.intro @cGCoatSheet_ok.treeL @cGcoatsums_ok.tree) (And.intro @cGcoatsums_ok.treeL (And.intro @cGcoatfailure_ok.tree @cGcoatfailure_ok.treeL))))
end Go.V
end
section
set_option linter.unusedVariables false
namespace Go.V
open Go
def Dec (P : Program) (n : Nat) (t : TypeId) {α : Type} (enc : α → List VV) (R : α → Prop) : Prop := ∀ xs, ShapeT P n t xs → ∃ x : α, R x ∧ normL xs = enc x
theorem dec_int {P : Program} {n : Nat} {t : TypeId} (hu : P.underlying t = some (.int .i64)) : Dec P (n + 1) t eI (fun _ => True) := by
 intro xs h
 simp only [ShapeT, hu] at h
 obtain ⟨i, _, rfl⟩ := h
 exact ⟨i, trivial, by simp only [normL_cons, normL_nil, normV_int, eI]⟩
theorem dec_list {P : Program} {n : Nat} {t : TypeId} {α : Type} {enc : α → List VV} {R : α → Prop} (h : Dec P n t enc R) : ∀ yss : List (List VV), (∀ ys ∈ yss, ShapeT P n t ys) → ∃ l : List α, l.length = yss.length ∧ (∀ x ∈ l, R x) ∧ normL yss.flatten = cellsL enc l
 | [], _ => ⟨[], rfl, fun _ hx => (by cases hx), rfl⟩
 | ys :: yss, hs => by
  obtain ⟨x, hx, e⟩ := h ys (hs ys (List.mem_cons_self ..))
  obtain ⟨l, h1, h2, h3⟩ := dec_list h yss (fun y hy => hs y (List.mem_cons_of_mem _ hy))
  refine ⟨x :: l, by simp [h1], fun y hy => ?_, by rw [List.flatten_cons, normL_append, e, h3, cellsL_cons]⟩
  rcases List.mem_cons.1 hy with rfl | hy
  ·exact hx
  ·exact h2 y hy
theorem dec_slice {P : Program} {n : Nat} {t e : TypeId} {α : Type} {enc : α → List VV} {R : α → Prop} (hu : P.underlying t = some (.slice e)) (h : Dec P n e enc R) : Dec P (n + 1) t (fun l : List α => [.sl (cellsL enc l) l.length false]) (fun l => lenOk l = true ∧ ∀ x ∈ l, R x) := by
 intro xs hs
 simp only [ShapeT, hu] at hs
 rcases hs with rfl | ⟨yss, hl, hall, rfl⟩
 ·exact ⟨[], ⟨rfl, fun _ hx => (by cases hx)⟩, by simp only [normL_cons, normL_nil, normV_nil]; rfl⟩
 ·obtain ⟨l, h1, h2, h3⟩ := dec_list h yss hall
  refine ⟨l, ⟨?_, h2⟩, by simp only [normL_cons, normL_nil, normV_sl, h3, h1]⟩
  have : maxLen = 9223372036854775807 := by decide
  unfold lenOk
  exact decide_eq_true (by omega)
theorem dec_fields {P : Program} {n : Nat} {t : TypeId} {fs : Array Field} {xs : List VV} (hu : P.underlying t = some (.struct fs)) (h : ShapeT P (n + 1) t xs) : ∃ yss, FieldsS (ShapeT P n) fs.toList yss ∧ xs = yss.flatten := by
 simp only [ShapeT, hu] at h
 exact h
def TypesS (S : TypeId → List VV → Prop) : List TypeId → List (List VV) → Prop
 | [], [] => True
 | t :: ts, ys :: yss => S t ys ∧ TypesS S ts yss
 | _, _ => False
theorem types_of {S : TypeId → List VV → Prop} : ∀ (fs : List Field) (yss : List (List VV)), FieldsS S fs yss → TypesS S (fs.map Field.type) yss
 | [], [], _ => trivial
 | f :: fs, ys :: yss, ⟨h1, h2⟩ => ⟨h1, types_of fs yss h2⟩
 | [], _ :: _, h => h
 | _ :: _, [], h => h
theorem dec_struct {P : Program} {n : Nat} {t : TypeId} {fs : Array Field} {ts : List TypeId} {xs : List VV} (hu : P.underlying t = some (.struct fs)) (ht : fs.toList.map Field.type = ts) (h : ShapeT P (n + 1) t xs) : ∃ yss, TypesS (ShapeT P n) ts yss ∧ xs = yss.flatten := by
 obtain ⟨yss, h1, h2⟩ := dec_fields hu h
 exact ⟨yss, ht ▸ types_of _ _ h1, h2⟩
theorem argsS_cons {P : Program} {n : Nat} {t : TypeId} {ts : List TypeId} {xs : List VV} (h : ArgsS P n (t :: ts) xs) : ∃ x xs', xs = x :: xs' ∧ ArgS P n t x ∧ ArgsS P n ts xs' := by
 match xs, h with
 | x :: xs', h => exact ⟨x, xs', rfl, h.1, h.2⟩
theorem argsS_nil {P : Program} {n : Nat} {xs : List VV} (h : ArgsS P n [] xs) : xs = [] := by
 match xs, h with
 | [], _ => rfl
theorem arg_struct {P : Program} {n : Nat} {t : TypeId} {fs : Array Field} {x : VV} {α : Type} {enc : α → List VV} {R : α → Prop} (hu : P.underlying t = some (.struct fs)) (hd : Dec P n t enc R) (h : ArgS P n t x) : ∃ s, R s ∧ normV x = .agg (enc s) := by
 obtain ⟨ys, h1, h2⟩ := h
 rw [hu] at h2
 obtain rfl : x = .agg ys := h2
 obtain ⟨s, hs, e⟩ := hd ys h1
 exact ⟨s, hs, by rw [normV_agg, e]⟩
theorem arg_cell {P : Program} {n : Nat} {t : TypeId} {d : TypeDesc} {x : VV} {α : Type} {enc : α → List VV} {R : α → Prop} (hu : P.underlying t = some d) (hn : ∀ fs, d ≠ .struct fs) (hd : Dec P n t enc R) (h : ArgS P n t x) : ∃ s, R s ∧ [normV x] = enc s := by
 obtain ⟨ys, h1, h2⟩ := h
 rw [hu] at h2
 have h3 : ys = [x] := by
  cases d <;> first | exact h2 | exact absurd rfl (hn _)
 subst h3
 obtain ⟨s, hs, e⟩ := hd _ h1
 exact ⟨s, hs, by rw [← e, normL_cons, normL_nil]⟩
end Go.V
end
section
set_option maxRecDepth 100000
namespace Go.V
open Go Go.Proofs
def Ok_GCoatSheet (x : GCoatSheet) : Prop := lenOk x.Dry = true ∧ lenOk x.Work = true ∧ lenOk x.Coats = true
section
variable {P : Program} (hu3 : P.underlying 3 = some (.int .i64)) {f89 : Array Field} (hu89 : P.underlying 89 = some (.struct f89)) (ht89 : f89.toList.map Field.type = [3, 3]) (hu22 : P.underlying 22 = some (.slice 89)) (hu23 : P.underlying 23 = some (.slice 3)) {f53 : Array Field} (hu53 : P.underlying 53 = some (.struct f53)) (ht53 : f53.toList.map Field.type = [3, 3]) (hu24 : P.underlying 24 = some (.slice 53)) {f26 : Array Field} (hu26 : P.underlying 26 = some (.struct f26)) (ht26 : f26.toList.map Field.type = [22, 23, 24])
include hu3 hu89 ht89 hu22 hu23 hu53 ht53 hu24 hu26 ht26
theorem gd_3 {n : Nat} : Dec P (n + 1) 3 eI (fun _ => True) := dec_int hu3
theorem gd_89 {n : Nat} : Dec P (n + 2) 89 cGSpan (fun _ => True) := by
 intro xs h
 obtain ⟨yss, hf, rfl⟩ := dec_struct (n := n + 1) (ts := [3, 3]) hu89 ht89 h
 match yss, hf with
 | [y0, y1], ⟨h0, h1, _⟩ =>
  obtain ⟨x0, r0, e0⟩ := gd_3 hu3 hu89 ht89 hu22 hu23 hu53 ht53 hu24 hu26 ht26 (n := n + 0) _ h0
  obtain ⟨x1, r1, e1⟩ := gd_3 hu3 hu89 ht89 hu22 hu23 hu53 ht53 hu24 hu26 ht26 (n := n + 0) _ h1
  exact ⟨⟨x0, x1⟩, trivial, by simp only [List.flatten_cons, List.flatten_nil, List.append_nil, normL_append, e0, e1, eI, eU8, eB, eS, eSl, cGSpan_eq, List.cons_append, List.nil_append]⟩
theorem gd_22 {n : Nat} : Dec P (n + 3) 22 (eSl cGSpan) (fun l => lenOk l = true ∧ ∀ x ∈ l, True) := dec_slice hu22 (gd_89 hu3 hu89 ht89 hu22 hu23 hu53 ht53 hu24 hu26 ht26 (n := n))
theorem gd_23 {n : Nat} : Dec P (n + 2) 23 (eSl eI) (fun l => lenOk l = true ∧ ∀ x ∈ l, True) := dec_slice hu23 (gd_3 hu3 hu89 ht89 hu22 hu23 hu53 ht53 hu24 hu26 ht26 (n := n))
theorem gd_53 {n : Nat} : Dec P (n + 2) 53 cGCoatCoat (fun _ => True) := by
 intro xs h
 obtain ⟨yss, hf, rfl⟩ := dec_struct (n := n + 1) (ts := [3, 3]) hu53 ht53 h
 match yss, hf with
 | [y0, y1], ⟨h0, h1, _⟩ =>
  obtain ⟨x0, r0, e0⟩ := gd_3 hu3 hu89 ht89 hu22 hu23 hu53 ht53 hu24 hu26 ht26 (n := n + 0) _ h0
  obtain ⟨x1, r1, e1⟩ := gd_3 hu3 hu89 ht89 hu22 hu23 hu53 ht53 hu24 hu26 ht26 (n := n + 0) _ h1
  exact ⟨⟨x0, x1⟩, trivial, by simp only [List.flatten_cons, List.flatten_nil, List.append_nil, normL_append, e0, e1, eI, eU8, eB, eS, eSl, cGCoatCoat_eq, List.cons_append, List.nil_append]⟩
theorem gd_24 {n : Nat} : Dec P (n + 3) 24 (eSl cGCoatCoat) (fun l => lenOk l = true ∧ ∀ x ∈ l, True) := dec_slice hu24 (gd_53 hu3 hu89 ht89 hu22 hu23 hu53 ht53 hu24 hu26 ht26 (n := n))
theorem gd_26 {n : Nat} : Dec P (n + 4) 26 cGCoatSheet (Ok_GCoatSheet) := by
 intro xs h
 obtain ⟨yss, hf, rfl⟩ := dec_struct (n := n + 3) (ts := [22, 23, 24]) hu26 ht26 h
 match yss, hf with
 | [y0, y1, y2], ⟨h0, h1, h2, _⟩ =>
  obtain ⟨x0, r0, e0⟩ := gd_22 hu3 hu89 ht89 hu22 hu23 hu53 ht53 hu24 hu26 ht26 (n := n + 0) _ h0
  obtain ⟨x1, r1, e1⟩ := gd_23 hu3 hu89 ht89 hu22 hu23 hu53 ht53 hu24 hu26 ht26 (n := n + 1) _ h1
  obtain ⟨x2, r2, e2⟩ := gd_24 hu3 hu89 ht89 hu22 hu23 hu53 ht53 hu24 hu26 ht26 (n := n + 0) _ h2
  exact ⟨⟨x0, x1, x2⟩, ⟨r0.1, r1.1, r2.1⟩, by simp only [List.flatten_cons, List.flatten_nil, List.append_nil, normL_append, e0, e1, e2, eI, eU8, eB, eS, eSl, cGCoatSheet_eq, List.cons_append, List.nil_append]⟩
end
theorem dec_3 {n : Nat} : Dec Tryz.prog (n + 1) 3 eI (fun _ => True) := gd_3 Tryz.underlying3 Tryz.underlying89 (by kernel_rfl) Tryz.underlying22 Tryz.underlying23 Tryz.underlying53 (by kernel_rfl) Tryz.underlying24 Tryz.underlying26 (by kernel_rfl)
theorem dec_23 {n : Nat} : Dec Tryz.prog (n + 2) 23 (eSl eI) (fun l => lenOk l = true ∧ ∀ x ∈ l, True) := gd_23 Tryz.underlying3 Tryz.underlying89 (by kernel_rfl) Tryz.underlying22 Tryz.underlying23 Tryz.underlying53 (by kernel_rfl) Tryz.underlying24 Tryz.underlying26 (by kernel_rfl)
theorem dec_26 {n : Nat} : Dec Tryz.prog (n + 4) 26 cGCoatSheet (Ok_GCoatSheet) := gd_26 Tryz.underlying3 Tryz.underlying89 (by kernel_rfl) Tryz.underlying22 Tryz.underlying23 Tryz.underlying53 (by kernel_rfl) Tryz.underlying24 Tryz.underlying26 (by kernel_rfl)
end Go.V
end
section
set_option linter.unusedVariables false
set_option linter.unusedSimpArgs false
namespace Go.V
open Go
def goB (b : Bool) : Option (LOut Bool Unit) := cond b (some (.go ())) (some (.ret false))
theorem goB_and (a b : Bool) : goB (a && b) = cond a (goB b) (some (.ret false)) := by cases a <;> rfl
theorem cnot {α : Type} (a : Bool) (x y : α) : cond (!a) x y = cond a y x := by cases a <;> rfl
theorem cand {α : Type} (a b : Bool) (x y : α) : cond (a && b) x y = cond a (cond b x y) y := by cases a <;> rfl
theorem csome (a b : Bool) : cond a (some b) (some false) = some (a && b) := by cases a <;> rfl
theorem goB_lbind {X : Type} (b : Bool) (kr : Bool → Option X) (kg : Unit → Option X) (kb : Nat → Unit → Option X) : lbind (goB b) kr kg kb = cond b (kg ()) (kr false) := by cases b <;> rfl
def inB (a b n : Int) : Bool := decide (a ≤ n) && decide (n ≤ b)
theorem inB_iff {a b n : Int} : inB a b n = true ↔ a ≤ n ∧ n ≤ b := by simp [inB]
theorem wrap_eq {n : Int} (h1 : -9223372036854775808 ≤ n) (h2 : n < 9223372036854775808) : IntKind.i64.wrap n = n := IntWalk.i64_in _ (by omega)
theorem lenOk_lt {α : Type} {xs : List α} (h : lenOk xs = true) : xs.length < 9223372036854775808 := by simpa [lenOk] using h
theorem lenOk_of {α : Type} {xs : List α} (h : xs.length < 9223372036854775808) : lenOk xs = true := by simpa [lenOk] using h
theorem getI_some {α : Type} {xs : List α} {i : Int} (h0 : 0 ≤ i) (h1 : i < xs.length) : ∃ x, getI xs i = some x ∧ x ∈ xs := by
 unfold getI
 rw [if_pos h0]
 have h : i.toNat < xs.length := by omega
 exact ⟨xs[i.toNat], List.getElem?_eq_getElem h, List.getElem_mem h⟩
theorem getI_lt {α : Type} {xs : List α} {i : Int} {x : α} (h : getI xs i = some x) : 0 ≤ i ∧ i < xs.length := ⟨(getI_drop h).1, (getI_drop h).2.1⟩
end Go.V
end
section
namespace Go.V
def ea : Option Bool → Bool | none => true | some b => b
def eo : Option Bool → Bool | none => false | some b => b
end Go.V
end
