/- Part of a proof: a logic of values by content, lifted functions, what follows. -/
import Derived.Test.YtgdgkkloccpbnaaGreatDoorZbe
import Derived.Test.YtgdgkkloccpbnaaGreatDoorZay
import Derived.Test.YtgdgkkloccpbnaaGreatDoorProg
import Derived.Test.YtgdgkkloccpbnaaGreatDoorZbd
set_option linter.all false
set_option maxRecDepth 4000
set_option maxHeartbeats 40000000
section
namespace Go.V
open Go Go.Proofs
theorem mixed : Tryz.prog.follows .mixedOrders = true := by kernel_rfl
structure GSpan where
 Low : Int
 High : Int
 deriving Inhabited, DecidableEq
def cGSpan (x : GSpan) : List VV := [.lit (.int .i64 x.Low), .lit (.int .i64 x.High)]
theorem cGSpan_eq {x : GSpan} : cGSpan x = [.lit (.int .i64 x.Low), .lit (.int .i64 x.High)] := rfl
theorem cGSpan_ok : EncOk cGSpan := EncOk.of (fun x => by simp only [cGSpan_eq, tre, Bool.and_self]) (fun x => by simp only [cGSpan_eq, nrm]) (fun x H d => by simp only [cGSpan_eq, nrm, List.map_cons, List.map_nil])
structure GCoatCoat where
 Need : Int
 Peel : Int
 deriving Inhabited, DecidableEq
def cGCoatCoat (x : GCoatCoat) : List VV := [.lit (.int .i64 x.Need), .lit (.int .i64 x.Peel)]
theorem cGCoatCoat_eq {x : GCoatCoat} : cGCoatCoat x = [.lit (.int .i64 x.Need), .lit (.int .i64 x.Peel)] := rfl
theorem cGCoatCoat_ok : EncOk cGCoatCoat := EncOk.of (fun x => by simp only [cGCoatCoat_eq, tre, cGSpan_ok.tree, cGSpan_ok.treeL, Bool.and_self]) (fun x => by simp only [cGCoatCoat_eq, nrm, cGSpan_ok.norm, cGSpan_ok.normL, cGSpan_ok.shown, cGSpan_ok.showL]) (fun x H d => by simp only [cGCoatCoat_eq, nrm, List.map_cons, List.map_nil])
structure GCoatSheet where
 Dry : List GSpan
 Work : List Int
 Coats : List GCoatCoat
 deriving Inhabited, DecidableEq
def cGCoatSheet (x : GCoatSheet) : List VV := [.sl (cellsL cGSpan x.Dry) (List.length x.Dry) false, .sl (cellsL eI x.Work) (List.length x.Work) false, .sl (cellsL cGCoatCoat x.Coats) (List.length x.Coats) false]
theorem cGCoatSheet_eq {x : GCoatSheet} : cGCoatSheet x = [.sl (cellsL cGSpan x.Dry) (List.length x.Dry) false, .sl (cellsL eI x.Work) (List.length x.Work) false, .sl (cellsL cGCoatCoat x.Coats) (List.length x.Coats) false] := rfl
theorem cGCoatSheet_ok : EncOk cGCoatSheet := EncOk.of (fun x => by simp only [cGCoatSheet_eq, tre, cGSpan_ok.tree, cGSpan_ok.treeL, cGCoatCoat_ok.tree, cGCoatCoat_ok.treeL, Bool.and_self]) (fun x => by simp only [cGCoatSheet_eq, nrm, cGSpan_ok.norm, cGSpan_ok.normL, cGSpan_ok.shown, cGSpan_ok.showL, cGCoatCoat_ok.norm, cGCoatCoat_ok.normL, cGCoatCoat_ok.shown, cGCoatCoat_ok.showL]) (fun x H d => by simp only [cGCoatSheet_eq, nrm, List.map_cons, List.map_nil])
structure Gcoatsums where
 CoatSheet : GCoatSheet
 lows : List Int
 highs : List Int
 deriving Inhabited, DecidableEq
def cGcoatsums (x : Gcoatsums) : List VV := [.sl (cellsL cGSpan x.CoatSheet.Dry) (List.length x.CoatSheet.Dry) false, .sl (cellsL eI x.CoatSheet.Work) (List.length x.CoatSheet.Work) false, .sl (cellsL cGCoatCoat x.CoatSheet.Coats) (List.length x.CoatSheet.Coats) false, .sl (cellsL eI x.lows) (List.length x.lows) false, .sl (cellsL eI x.highs) (List.length x.highs) false]
theorem cGcoatsums_eq {x : Gcoatsums} : cGcoatsums x = [.sl (cellsL cGSpan x.CoatSheet.Dry) (List.length x.CoatSheet.Dry) false, .sl (cellsL eI x.CoatSheet.Work) (List.length x.CoatSheet.Work) false, .sl (cellsL cGCoatCoat x.CoatSheet.Coats) (List.length x.CoatSheet.Coats) false, .sl (cellsL eI x.lows) (List.length x.lows) false, .sl (cellsL eI x.highs) (List.length x.highs) false] := rfl
theorem cGcoatsums_ok : EncOk cGcoatsums := EncOk.of (fun x => by simp only [cGcoatsums_eq, tre, cGSpan_ok.tree, cGSpan_ok.treeL, cGCoatCoat_ok.tree, cGCoatCoat_ok.treeL, cGCoatSheet_ok.tree, cGCoatSheet_ok.treeL, Bool.and_self]) (fun x => by simp only [cGcoatsums_eq, nrm, cGSpan_ok.norm, cGSpan_ok.normL, cGSpan_ok.shown, cGSpan_ok.showL, cGCoatCoat_ok.norm, cGCoatCoat_ok.normL, cGCoatCoat_ok.shown, cGCoatCoat_ok.showL, cGCoatSheet_ok.norm, cGCoatSheet_ok.normL, cGCoatSheet_ok.shown, cGCoatSheet_ok.showL]) (fun x H d => by simp only [cGcoatsums_eq, nrm, List.map_cons, List.map_nil])
structure Gcoatfailure where
 coat : Int
 reason : Int
 deriving Inhabited, DecidableEq
def cGcoatfailure (x : Gcoatfailure) : List VV := [.lit (.int .i64 x.coat), .lit (.int .i64 x.reason)]
theorem cGcoatfailure_eq {x : Gcoatfailure} : cGcoatfailure x = [.lit (.int .i64 x.coat), .lit (.int .i64 x.reason)] := rfl
theorem cGcoatfailure_ok : EncOk cGcoatfailure := EncOk.of (fun x => by simp only [cGcoatfailure_eq, tre, cGSpan_ok.tree, cGSpan_ok.treeL, cGCoatCoat_ok.tree, cGCoatCoat_ok.treeL, cGCoatSheet_ok.tree, cGCoatSheet_ok.treeL, cGcoatsums_ok.tree, cGcoatsums_ok.treeL, Bool.and_self]) (fun x => by simp only [cGcoatfailure_eq, nrm, cGSpan_ok.norm, cGSpan_ok.normL, cGSpan_ok.shown, cGSpan_ok.showL, cGCoatCoat_ok.norm, cGCoatCoat_ok.normL, cGCoatCoat_ok.shown, cGCoatCoat_ok.showL, cGCoatSheet_ok.norm, cGCoatSheet_ok.normL, cGCoatSheet_ok.shown, cGCoatSheet_ok.showL, cGcoatsums_ok.norm, cGcoatsums_ok.normL, cGcoatsums_ok.shown, cGcoatsums_ok.showL]) (fun x H d => by simp only [cGcoatfailure_eq, nrm, List.map_cons, List.map_nil])
structure Gcoatlaying where
 coat : Int
 day : Int
 deriving Inhabited, DecidableEq
def cGcoatlaying (x : Gcoatlaying) : List VV := [.lit (.int .i64 x.coat), .lit (.int .i64 x.day)]
theorem cGcoatlaying_eq {x : Gcoatlaying} : cGcoatlaying x = [.lit (.int .i64 x.coat), .lit (.int .i64 x.day)] := rfl
theorem cGcoatlaying_ok : EncOk cGcoatlaying := EncOk.of (fun x => by simp only [cGcoatlaying_eq, tre, cGSpan_ok.tree, cGSpan_ok.treeL, cGCoatCoat_ok.tree, cGCoatCoat_ok.treeL, cGCoatSheet_ok.tree, cGCoatSheet_ok.treeL, cGcoatsums_ok.tree, cGcoatsums_ok.treeL, cGcoatfailure_ok.tree, cGcoatfailure_ok.treeL, Bool.and_self]) (fun x => by simp only [cGcoatlaying_eq, nrm, cGSpan_ok.norm, cGSpan_ok.normL, cGSpan_ok.shown, cGSpan_ok.showL, cGCoatCoat_ok.norm, cGCoatCoat_ok.normL, cGCoatCoat_ok.shown, cGCoatCoat_ok.showL, cGCoatSheet_ok.norm, cGCoatSheet_ok.normL, cGCoatSheet_ok.shown, cGCoatSheet_ok.showL, cGcoatsums_ok.norm, cGcoatsums_ok.normL, cGcoatsums_ok.shown, cGcoatsums_ok.showL, cGcoatfailure_ok.norm, cGcoatfailure_ok.normL, cGcoatfailure_ok.shown, cGcoatfailure_ok.showL]) (fun x H d => by simp only [cGcoatlaying_eq, nrm, List.map_cons, List.map_nil])
theorem sl34_ok : EncOk (eSl eI) := EncOk.sl eI_ok
theorem ld2 {c : VV} {cs : List VV} : vload Tryz.prog 2 (c :: cs) = some c := by
 have h1 : aggT Tryz.prog 2 = some false := by kernel_rfl
 simp [vload, vpart, h1]
theorem sz2 : szT Tryz.prog 2 = some 1 := by kernel_rfl
theorem vzl2 : vzl Tryz.prog 2 = some [.lit (.int .i64 0)] := by kernel_rfl
theorem ld3 {c : VV} {cs : List VV} : vload Tryz.prog 3 (c :: cs) = some c := by
 have h1 : aggT Tryz.prog 3 = some false := by kernel_rfl
 simp [vload, vpart, h1]
theorem sz3 : szT Tryz.prog 3 = some 1 := by kernel_rfl
theorem vzl3 : vzl Tryz.prog 3 = some [.lit (.int .i64 0)] := by kernel_rfl
theorem ld4 {c : VV} {cs : List VV} : vload Tryz.prog 4 (c :: cs) = some c := by
 have h1 : aggT Tryz.prog 4 = some false := by kernel_rfl
 simp [vload, vpart, h1]
theorem sz4 : szT Tryz.prog 4 = some 1 := by kernel_rfl
theorem vzl4 : vzl Tryz.prog 4 = some [.lit (.bool false)] := by kernel_rfl
theorem ld9 {c : VV} {cs : List VV} : vload Tryz.prog 9 (c :: cs) = some c := by
 have h1 : aggT Tryz.prog 9 = some false := by kernel_rfl
 simp [vload, vpart, h1]
theorem sz9 : szT Tryz.prog 9 = some 1 := by kernel_rfl
theorem vzl9 : vzl Tryz.prog 9 = some [.lit (.string ⟨#[]⟩)] := by kernel_rfl
theorem ld22 {c : VV} {cs : List VV} : vload Tryz.prog 22 (c :: cs) = some c := by
 have h1 : aggT Tryz.prog 22 = some false := by kernel_rfl
 simp [vload, vpart, h1]
theorem sz22 : szT Tryz.prog 22 = some 1 := by kernel_rfl
theorem vzl22 : vzl Tryz.prog 22 = some [.lit (.slice none 0 0)] := by kernel_rfl
theorem len22 {H : Nat → Option VObj} {cs : List VV} {n : Nat} {f : Bool} : vlen Tryz.prog H 22 (.sl cs n f) = some (.lit (.int .i64 n)) := by simp [vlen, Tryz.underlying22, sls]
theorem lenN22 {H : Nat → Option VObj} : vlen Tryz.prog H 22 (.lit (.slice none 0 0)) = some (.lit (.int .i64 0)) := by simp [vlen, Tryz.underlying22, sls]
theorem lenR22 {H : Nat → Option VObj} {β off n w c : Nat} : vlen Tryz.prog H 22 (.ref β off n w c) = (match H β with | some (.cells _ cs) => if off ≤ cs.length then some (.lit (.int .i64 n)) else none | _ => none) := lenR Tryz.underlying22
theorem et22 : elemT Tryz.prog 22 = some 56 := by simp [elemT, Tryz.underlying22]
theorem ao22 : appOk Tryz.prog 22 = some (56, 2, 16) := by kernel_rfl
theorem tk22 {xs : List GSpan} : (cellsL cGSpan xs).take (xs.length * 2) = cellsL cGSpan xs := take_cells (fun _ => rfl)
theorem lf22 : ∀ x : GSpan, leafL (cGSpan x) = true := fun x => by simp only [eI_eq, eU8_eq, eB_eq, eS_eq, eSl_eq, cGSpan_eq, leafL_nil, leafL_cons, leaf_int, leaf_bool, leaf_string, leaf_slice, leaf_sl, Bool.and_self]
theorem ixo22 {xs : List GSpan} {x : GSpan} {i : Int} (h : getI xs i = some x) : (∀ (H : Nat → Option VObj) (β c : Nat) (k : IntKind), vindexAddr Tryz.prog H 22 (.ref β 0 xs.length 2 c) (.lit (.int k i)) = if (H β).isSome = true then some (.ptr β (i.toNat * 2)) else none) ∧ (cellsL cGSpan xs).drop (i.toNat * 2) = cGSpan x ++ cellsL cGSpan (xs.drop (i.toNat + 1)) ∧ (i.toNat * 2 ≤ (cellsL cGSpan xs).length) = True := ixO Tryz.underlying22 (by kernel_rfl : szT Tryz.prog 56 = some 2) (fun _ => rfl) h
theorem bs22_1 {c0 c1 : VV} (h : leafL [c0, c1] = true) : vbuildSlice Tryz.prog 22 1 [(0, .agg [c0, c1])] = some ([c0, c1], 2) := by
 have h2 : szT Tryz.prog 56 = some 2 := by kernel_rfl
 have h3 : vzero Tryz.prog 56 = some #[.int .i64 0, .int .i64 0] := by kernel_rfl
 simp only [leafL_cons, leafL_nil, Bool.and_true, Bool.and_eq_true] at h
 simp [vbuildSlice, Tryz.underlying22, h2, h3, vfill, vcells, h, overwrite, vzeros]
theorem ix22 {H : Nat → Option VObj} {xs : List GSpan} {x : GSpan} {f : Bool} {k : IntKind} {i : Int} (h : getI xs i = some x) : vindexAddr Tryz.prog H 22 (.sl (cellsL cGSpan xs) xs.length f) (.lit (.int k i)) = some (.tp (cGSpan x ++ cellsL cGSpan (xs.drop (i.toNat + 1)))) :=
 ixG Tryz.underlying22 (by kernel_rfl : szT Tryz.prog 56 = some 2) (by decide) (fun _ => rfl) h
theorem ld23 {c : VV} {cs : List VV} : vload Tryz.prog 23 (c :: cs) = some c := by
 have h1 : aggT Tryz.prog 23 = some false := by kernel_rfl
 simp [vload, vpart, h1]
theorem sz23 : szT Tryz.prog 23 = some 1 := by kernel_rfl
theorem vzl23 : vzl Tryz.prog 23 = some [.lit (.slice none 0 0)] := by kernel_rfl
theorem len23 {H : Nat → Option VObj} {cs : List VV} {n : Nat} {f : Bool} : vlen Tryz.prog H 23 (.sl cs n f) = some (.lit (.int .i64 n)) := by simp [vlen, Tryz.underlying23, sls]
theorem lenN23 {H : Nat → Option VObj} : vlen Tryz.prog H 23 (.lit (.slice none 0 0)) = some (.lit (.int .i64 0)) := by simp [vlen, Tryz.underlying23, sls]
theorem lenR23 {H : Nat → Option VObj} {β off n w c : Nat} : vlen Tryz.prog H 23 (.ref β off n w c) = (match H β with | some (.cells _ cs) => if off ≤ cs.length then some (.lit (.int .i64 n)) else none | _ => none) := lenR Tryz.underlying23
theorem et23 : elemT Tryz.prog 23 = some 3 := by simp [elemT, Tryz.underlying23]
theorem ao23 : appOk Tryz.prog 23 = some (3, 1, 8) := by kernel_rfl
theorem tk23 {xs : List Int} : (cellsL eI xs).take (xs.length * 1) = cellsL eI xs := take_cells (fun _ => rfl)
theorem lf23 : ∀ x : Int, leafL (eI x) = true := fun x => by simp only [eI_eq, eU8_eq, eB_eq, eS_eq, eSl_eq, leafL_nil, leafL_cons, leaf_int, leaf_bool, leaf_string, leaf_slice, leaf_sl, Bool.and_self]
theorem ixo23 {xs : List Int} {x : Int} {i : Int} (h : getI xs i = some x) : (∀ (H : Nat → Option VObj) (β c : Nat) (k : IntKind), vindexAddr Tryz.prog H 23 (.ref β 0 xs.length 1 c) (.lit (.int k i)) = if (H β).isSome = true then some (.ptr β (i.toNat * 1)) else none) ∧ (cellsL eI xs).drop (i.toNat * 1) = eI x ++ cellsL eI (xs.drop (i.toNat + 1)) ∧ (i.toNat * 1 ≤ (cellsL eI xs).length) = True := ixO Tryz.underlying23 (by kernel_rfl : szT Tryz.prog 3 = some 1) (fun _ => rfl) h
theorem bs23_1 {a0 : VV} (h : leafL [a0] = true) : vbuildSlice Tryz.prog 23 1 [(0, a0)] = some ([a0], 1) := by
 have h2 : szT Tryz.prog 3 = some 1 := by kernel_rfl
 have h3 : vzero Tryz.prog 3 = some #[.int .i64 0] := by kernel_rfl
 simp only [leafL_cons, leafL_nil, Bool.and_true, Bool.and_eq_true] at h
 simp [vbuildSlice, Tryz.underlying23, h2, h3, vfill, vcells1, h, overwrite, vzeros, List.range_succ]
theorem bs23_2 {a0 a1 : VV} (h : leafL [a0, a1] = true) : vbuildSlice Tryz.prog 23 2 [(0, a0), (1, a1)] = some ([a0, a1], 1) := by
 have h2 : szT Tryz.prog 3 = some 1 := by kernel_rfl
 have h3 : vzero Tryz.prog 3 = some #[.int .i64 0] := by kernel_rfl
 simp only [leafL_cons, leafL_nil, Bool.and_true, Bool.and_eq_true] at h
 simp [vbuildSlice, Tryz.underlying23, h2, h3, vfill, vcells1, h, overwrite, vzeros, List.range_succ]
theorem bs23_3 {a0 a1 a2 : VV} (h : leafL [a0, a1, a2] = true) : vbuildSlice Tryz.prog 23 3 [(0, a0), (1, a1), (2, a2)] = some ([a0, a1, a2], 1) := by
 have h2 : szT Tryz.prog 3 = some 1 := by kernel_rfl
 have h3 : vzero Tryz.prog 3 = some #[.int .i64 0] := by kernel_rfl
 simp only [leafL_cons, leafL_nil, Bool.and_true, Bool.and_eq_true] at h
 simp [vbuildSlice, Tryz.underlying23, h2, h3, vfill, vcells1, h, overwrite, vzeros, List.range_succ]
theorem ix23 {H : Nat → Option VObj} {xs : List Int} {x : Int} {f : Bool} {k : IntKind} {i : Int} (h : getI xs i = some x) : vindexAddr Tryz.prog H 23 (.sl (cellsL eI xs) xs.length f) (.lit (.int k i)) = some (.tp (eI x ++ cellsL eI (xs.drop (i.toNat + 1)))) :=
 ixG Tryz.underlying23 (by kernel_rfl : szT Tryz.prog 3 = some 1) (by decide) (fun _ => rfl) h
theorem ld24 {c : VV} {cs : List VV} : vload Tryz.prog 24 (c :: cs) = some c := by
 have h1 : aggT Tryz.prog 24 = some false := by kernel_rfl
 simp [vload, vpart, h1]
theorem sz24 : szT Tryz.prog 24 = some 1 := by kernel_rfl
theorem vzl24 : vzl Tryz.prog 24 = some [.lit (.slice none 0 0)] := by kernel_rfl
theorem len24 {H : Nat → Option VObj} {cs : List VV} {n : Nat} {f : Bool} : vlen Tryz.prog H 24 (.sl cs n f) = some (.lit (.int .i64 n)) := by simp [vlen, Tryz.underlying24, sls]
theorem lenN24 {H : Nat → Option VObj} : vlen Tryz.prog H 24 (.lit (.slice none 0 0)) = some (.lit (.int .i64 0)) := by simp [vlen, Tryz.underlying24, sls]
theorem lenR24 {H : Nat → Option VObj} {β off n w c : Nat} : vlen Tryz.prog H 24 (.ref β off n w c) = (match H β with | some (.cells _ cs) => if off ≤ cs.length then some (.lit (.int .i64 n)) else none | _ => none) := lenR Tryz.underlying24
theorem et24 : elemT Tryz.prog 24 = some 59 := by simp [elemT, Tryz.underlying24]
theorem ao24 : appOk Tryz.prog 24 = some (59, 2, 16) := by kernel_rfl
theorem tk24 {xs : List GCoatCoat} : (cellsL cGCoatCoat xs).take (xs.length * 2) = cellsL cGCoatCoat xs := take_cells (fun _ => rfl)
theorem lf24 : ∀ x : GCoatCoat, leafL (cGCoatCoat x) = true := fun x => by simp only [eI_eq, eU8_eq, eB_eq, eS_eq, eSl_eq, cGCoatCoat_eq, leafL_nil, leafL_cons, leaf_int, leaf_bool, leaf_string, leaf_slice, leaf_sl, Bool.and_self]
theorem ixo24 {xs : List GCoatCoat} {x : GCoatCoat} {i : Int} (h : getI xs i = some x) : (∀ (H : Nat → Option VObj) (β c : Nat) (k : IntKind), vindexAddr Tryz.prog H 24 (.ref β 0 xs.length 2 c) (.lit (.int k i)) = if (H β).isSome = true then some (.ptr β (i.toNat * 2)) else none) ∧ (cellsL cGCoatCoat xs).drop (i.toNat * 2) = cGCoatCoat x ++ cellsL cGCoatCoat (xs.drop (i.toNat + 1)) ∧ (i.toNat * 2 ≤ (cellsL cGCoatCoat xs).length) = True := ixO Tryz.underlying24 (by kernel_rfl : szT Tryz.prog 59 = some 2) (fun _ => rfl) h
theorem bs24_1 {c0 c1 : VV} (h : leafL [c0, c1] = true) : vbuildSlice Tryz.prog 24 1 [(0, .agg [c0, c1])] = some ([c0, c1], 2) := by
 have h2 : szT Tryz.prog 59 = some 2 := by kernel_rfl
 have h3 : vzero Tryz.prog 59 = some #[.int .i64 0, .int .i64 0] := by kernel_rfl
 simp only [leafL_cons, leafL_nil, Bool.and_true, Bool.and_eq_true] at h
 simp [vbuildSlice, Tryz.underlying24, h2, h3, vfill, vcells, h, overwrite, vzeros]
theorem ix24 {H : Nat → Option VObj} {xs : List GCoatCoat} {x : GCoatCoat} {f : Bool} {k : IntKind} {i : Int} (h : getI xs i = some x) : vindexAddr Tryz.prog H 24 (.sl (cellsL cGCoatCoat xs) xs.length f) (.lit (.int k i)) = some (.tp (cGCoatCoat x ++ cellsL cGCoatCoat (xs.drop (i.toNat + 1)))) :=
 ixG Tryz.underlying24 (by kernel_rfl : szT Tryz.prog 59 = some 2) (by decide) (fun _ => rfl) h
theorem ld26 {c0 c1 c2 : VV} {cs : List VV} : vload Tryz.prog 26 (c0 :: c1 :: c2 :: cs) = some (.agg [c0, c1, c2]) := by
 have h1 : aggT Tryz.prog 26 = some true := by kernel_rfl
 have h2 : szT Tryz.prog 26 = some 3 := by kernel_rfl
 simp [vload, vpart, h1, h2]
theorem sz26 : szT Tryz.prog 26 = some 3 := by kernel_rfl
theorem vzl26 : vzl Tryz.prog 26 = some [.lit (.slice none 0 0), .lit (.slice none 0 0), .lit (.slice none 0 0)] := by kernel_rfl
theorem fa26_0 {H : Nat → Option VObj} {cs : List VV} : vfieldAddr Tryz.prog H 26 (.tp cs) 0 = some (.tp (cs.drop 0)) := by
 have h2 : szT Tryz.prog 22 = some 1 := by kernel_rfl
 simp [vfieldAddr, Tryz.underlying26, h2]
theorem fp26_0 {H : Nat → Option VObj} {β o : Nat} : vfieldAddr Tryz.prog H 26 (.ptr β o) 0 = if (H β).isSome = true then some (.ptr β (o + 0)) else none := by
 have h2 : szT Tryz.prog 22 = some 1 := by kernel_rfl
 simp [vfieldAddr, Tryz.underlying26, h2]
theorem fa26_1 {H : Nat → Option VObj} {cs : List VV} : vfieldAddr Tryz.prog H 26 (.tp cs) 1 = some (.tp (cs.drop 1)) := by
 have h2 : szT Tryz.prog 23 = some 1 := by kernel_rfl
 simp [vfieldAddr, Tryz.underlying26, h2]
theorem fp26_1 {H : Nat → Option VObj} {β o : Nat} : vfieldAddr Tryz.prog H 26 (.ptr β o) 1 = if (H β).isSome = true then some (.ptr β (o + 1)) else none := by
 have h2 : szT Tryz.prog 23 = some 1 := by kernel_rfl
 simp [vfieldAddr, Tryz.underlying26, h2]
theorem fa26_2 {H : Nat → Option VObj} {cs : List VV} : vfieldAddr Tryz.prog H 26 (.tp cs) 2 = some (.tp (cs.drop 2)) := by
 have h2 : szT Tryz.prog 24 = some 1 := by kernel_rfl
 simp [vfieldAddr, Tryz.underlying26, h2]
theorem fp26_2 {H : Nat → Option VObj} {β o : Nat} : vfieldAddr Tryz.prog H 26 (.ptr β o) 2 = if (H β).isSome = true then some (.ptr β (o + 2)) else none := by
 have h2 : szT Tryz.prog 24 = some 1 := by kernel_rfl
 simp [vfieldAddr, Tryz.underlying26, h2]
theorem ld29 {c : VV} {cs : List VV} : vload Tryz.prog 29 (c :: cs) = some c := by
 have h1 : aggT Tryz.prog 29 = some false := by kernel_rfl
 simp [vload, vpart, h1]
theorem sz29 : szT Tryz.prog 29 = some 1 := by kernel_rfl
theorem vzl29 : vzl Tryz.prog 29 = some [.lit (.int .i64 0)] := by kernel_rfl
theorem ld34 {c : VV} {cs : List VV} : vload Tryz.prog 34 (c :: cs) = some c := by
 have h1 : aggT Tryz.prog 34 = some false := by kernel_rfl
 simp [vload, vpart, h1]
theorem sz34 : szT Tryz.prog 34 = some 1 := by kernel_rfl
theorem vzl34 : vzl Tryz.prog 34 = some [.lit (.slice none 0 0)] := by kernel_rfl
theorem len34 {H : Nat → Option VObj} {cs : List VV} {n : Nat} {f : Bool} : vlen Tryz.prog H 34 (.sl cs n f) = some (.lit (.int .i64 n)) := by simp [vlen, Tryz.underlying34, sls]
theorem lenN34 {H : Nat → Option VObj} : vlen Tryz.prog H 34 (.lit (.slice none 0 0)) = some (.lit (.int .i64 0)) := by simp [vlen, Tryz.underlying34, sls]
theorem lenR34 {H : Nat → Option VObj} {β off n w c : Nat} : vlen Tryz.prog H 34 (.ref β off n w c) = (match H β with | some (.cells _ cs) => if off ≤ cs.length then some (.lit (.int .i64 n)) else none | _ => none) := lenR Tryz.underlying34
theorem et34 : elemT Tryz.prog 34 = some 23 := by simp [elemT, Tryz.underlying34]
theorem tk34 {xs : List (List Int)} : (cellsL (eSl eI) xs).take (xs.length * 1) = cellsL (eSl eI) xs := take_cells (fun _ => rfl)
theorem bs34_1 {a0 : VV} (h : leafL [a0] = true) : vbuildSlice Tryz.prog 34 1 [(0, a0)] = some ([a0], 1) := by
 have h2 : szT Tryz.prog 23 = some 1 := by kernel_rfl
 have h3 : vzero Tryz.prog 23 = some #[.slice none 0 0] := by kernel_rfl
 simp only [leafL_cons, leafL_nil, Bool.and_true, Bool.and_eq_true] at h
 simp [vbuildSlice, Tryz.underlying34, h2, h3, vfill, vcells1, h, overwrite, vzeros, List.range_succ]
theorem bs34_2 {a0 a1 : VV} (h : leafL [a0, a1] = true) : vbuildSlice Tryz.prog 34 2 [(0, a0), (1, a1)] = some ([a0, a1], 1) := by
 have h2 : szT Tryz.prog 23 = some 1 := by kernel_rfl
 have h3 : vzero Tryz.prog 23 = some #[.slice none 0 0] := by kernel_rfl
 simp only [leafL_cons, leafL_nil, Bool.and_true, Bool.and_eq_true] at h
 simp [vbuildSlice, Tryz.underlying34, h2, h3, vfill, vcells1, h, overwrite, vzeros, List.range_succ]
theorem bs34_3 {a0 a1 a2 : VV} (h : leafL [a0, a1, a2] = true) : vbuildSlice Tryz.prog 34 3 [(0, a0), (1, a1), (2, a2)] = some ([a0, a1, a2], 1) := by
 have h2 : szT Tryz.prog 23 = some 1 := by kernel_rfl
 have h3 : vzero Tryz.prog 23 = some #[.slice none 0 0] := by kernel_rfl
 simp only [leafL_cons, leafL_nil, Bool.and_true, Bool.and_eq_true] at h
 simp [vbuildSlice, Tryz.underlying34, h2, h3, vfill, vcells1, h, overwrite, vzeros, List.range_succ]
theorem ld56 {c0 c1 : VV} {cs : List VV} : vload Tryz.prog 56 (c0 :: c1 :: cs) = some (.agg [c0, c1]) := by
 have h1 : aggT Tryz.prog 56 = some true := by kernel_rfl
 have h2 : szT Tryz.prog 56 = some 2 := by kernel_rfl
 simp [vload, vpart, h1, h2]
theorem sz56 : szT Tryz.prog 56 = some 2 := by kernel_rfl
theorem vzl56 : vzl Tryz.prog 56 = some [.lit (.int .i64 0), .lit (.int .i64 0)] := by kernel_rfl
theorem fa56_0 {H : Nat → Option VObj} {cs : List VV} : vfieldAddr Tryz.prog H 56 (.tp cs) 0 = some (.tp (cs.drop 0)) := by
 have h2 : szT Tryz.prog 3 = some 1 := by kernel_rfl
 simp [vfieldAddr, Tryz.underlying56, h2]
theorem fp56_0 {H : Nat → Option VObj} {β o : Nat} : vfieldAddr Tryz.prog H 56 (.ptr β o) 0 = if (H β).isSome = true then some (.ptr β (o + 0)) else none := by
 have h2 : szT Tryz.prog 3 = some 1 := by kernel_rfl
 simp [vfieldAddr, Tryz.underlying56, h2]
theorem fa56_1 {H : Nat → Option VObj} {cs : List VV} : vfieldAddr Tryz.prog H 56 (.tp cs) 1 = some (.tp (cs.drop 1)) := by
 have h2 : szT Tryz.prog 3 = some 1 := by kernel_rfl
 simp [vfieldAddr, Tryz.underlying56, h2]
theorem fp56_1 {H : Nat → Option VObj} {β o : Nat} : vfieldAddr Tryz.prog H 56 (.ptr β o) 1 = if (H β).isSome = true then some (.ptr β (o + 1)) else none := by
 have h2 : szT Tryz.prog 3 = some 1 := by kernel_rfl
 simp [vfieldAddr, Tryz.underlying56, h2]
theorem ld59 {c0 c1 : VV} {cs : List VV} : vload Tryz.prog 59 (c0 :: c1 :: cs) = some (.agg [c0, c1]) := by
 have h1 : aggT Tryz.prog 59 = some true := by kernel_rfl
 have h2 : szT Tryz.prog 59 = some 2 := by kernel_rfl
 simp [vload, vpart, h1, h2]
theorem sz59 : szT Tryz.prog 59 = some 2 := by kernel_rfl
theorem vzl59 : vzl Tryz.prog 59 = some [.lit (.int .i64 0), .lit (.int .i64 0)] := by kernel_rfl
theorem fa59_0 {H : Nat → Option VObj} {cs : List VV} : vfieldAddr Tryz.prog H 59 (.tp cs) 0 = some (.tp (cs.drop 0)) := by
 have h2 : szT Tryz.prog 3 = some 1 := by kernel_rfl
 simp [vfieldAddr, Tryz.underlying59, h2]
theorem fp59_0 {H : Nat → Option VObj} {β o : Nat} : vfieldAddr Tryz.prog H 59 (.ptr β o) 0 = if (H β).isSome = true then some (.ptr β (o + 0)) else none := by
 have h2 : szT Tryz.prog 3 = some 1 := by kernel_rfl
 simp [vfieldAddr, Tryz.underlying59, h2]
theorem fa59_1 {H : Nat → Option VObj} {cs : List VV} : vfieldAddr Tryz.prog H 59 (.tp cs) 1 = some (.tp (cs.drop 1)) := by
 have h2 : szT Tryz.prog 3 = some 1 := by kernel_rfl
 simp [vfieldAddr, Tryz.underlying59, h2]
theorem fp59_1 {H : Nat → Option VObj} {β o : Nat} : vfieldAddr Tryz.prog H 59 (.ptr β o) 1 = if (H β).isSome = true then some (.ptr β (o + 1)) else none := by
 have h2 : szT Tryz.prog 3 = some 1 := by kernel_rfl
 simp [vfieldAddr, Tryz.underlying59, h2]
theorem ld61 {c : VV} {cs : List VV} : vload Tryz.prog 61 (c :: cs) = some c := by
 have h1 : aggT Tryz.prog 61 = some false := by kernel_rfl
 simp [vload, vpart, h1]
theorem sz61 : szT Tryz.prog 61 = some 1 := by kernel_rfl
theorem vzl61 : vzl Tryz.prog 61 = some [.lit (.int .i64 0)] := by kernel_rfl
theorem ld72 {c : VV} {cs : List VV} : vload Tryz.prog 72 (c :: cs) = some c := by
 have h1 : aggT Tryz.prog 72 = some false := by kernel_rfl
 simp [vload, vpart, h1]
theorem sz72 : szT Tryz.prog 72 = some 1 := by kernel_rfl
theorem vzl72 : vzl Tryz.prog 72 = some [.lit (.int .i64 0)] := by kernel_rfl
theorem ld81 {c0 c1 c2 c3 c4 : VV} {cs : List VV} : vload Tryz.prog 81 (c0 :: c1 :: c2 :: c3 :: c4 :: cs) = some (.agg [c0, c1, c2, c3, c4]) := by
 have h1 : aggT Tryz.prog 81 = some true := by kernel_rfl
 have h2 : szT Tryz.prog 81 = some 5 := by kernel_rfl
 simp [vload, vpart, h1, h2]
theorem sz81 : szT Tryz.prog 81 = some 5 := by kernel_rfl
theorem vzl81 : vzl Tryz.prog 81 = some [.lit (.slice none 0 0), .lit (.slice none 0 0), .lit (.slice none 0 0), .lit (.slice none 0 0), .lit (.slice none 0 0)] := by kernel_rfl
theorem fa81_0 {H : Nat → Option VObj} {cs : List VV} : vfieldAddr Tryz.prog H 81 (.tp cs) 0 = some (.tp (cs.drop 0)) := by
 have h2 : szT Tryz.prog 26 = some 3 := by kernel_rfl
 simp [vfieldAddr, Tryz.underlying81, h2]
theorem fp81_0 {H : Nat → Option VObj} {β o : Nat} : vfieldAddr Tryz.prog H 81 (.ptr β o) 0 = if (H β).isSome = true then some (.ptr β (o + 0)) else none := by
 have h2 : szT Tryz.prog 26 = some 3 := by kernel_rfl
 simp [vfieldAddr, Tryz.underlying81, h2]
theorem fa81_1 {H : Nat → Option VObj} {cs : List VV} : vfieldAddr Tryz.prog H 81 (.tp cs) 1 = some (.tp (cs.drop 3)) := by
 have h2 : szT Tryz.prog 23 = some 1 := by kernel_rfl
 simp [vfieldAddr, Tryz.underlying81, h2]
theorem fp81_1 {H : Nat → Option VObj} {β o : Nat} : vfieldAddr Tryz.prog H 81 (.ptr β o) 1 = if (H β).isSome = true then some (.ptr β (o + 3)) else none := by
 have h2 : szT Tryz.prog 23 = some 1 := by kernel_rfl
 simp [vfieldAddr, Tryz.underlying81, h2]
theorem fa81_2 {H : Nat → Option VObj} {cs : List VV} : vfieldAddr Tryz.prog H 81 (.tp cs) 2 = some (.tp (cs.drop 4)) := by
 have h2 : szT Tryz.prog 23 = some 1 := by kernel_rfl
 simp [vfieldAddr, Tryz.underlying81, h2]
theorem fp81_2 {H : Nat → Option VObj} {β o : Nat} : vfieldAddr Tryz.prog H 81 (.ptr β o) 2 = if (H β).isSome = true then some (.ptr β (o + 4)) else none := by
 have h2 : szT Tryz.prog 23 = some 1 := by kernel_rfl
 simp [vfieldAddr, Tryz.underlying81, h2]
theorem ld94 {c0 c1 : VV} {cs : List VV} : vload Tryz.prog 94 (c0 :: c1 :: cs) = some (.agg [c0, c1]) := by
 have h1 : aggT Tryz.prog 94 = some true := by kernel_rfl
 have h2 : szT Tryz.prog 94 = some 2 := by kernel_rfl
 simp [vload, vpart, h1, h2]
theorem sz94 : szT Tryz.prog 94 = some 2 := by kernel_rfl
theorem vzl94 : vzl Tryz.prog 94 = some [.lit (.int .i64 0), .lit (.int .i64 0)] := by kernel_rfl
theorem fa94_0 {H : Nat → Option VObj} {cs : List VV} : vfieldAddr Tryz.prog H 94 (.tp cs) 0 = some (.tp (cs.drop 0)) := by
 have h2 : szT Tryz.prog 3 = some 1 := by kernel_rfl
 simp [vfieldAddr, Tryz.underlying94, h2]
theorem fp94_0 {H : Nat → Option VObj} {β o : Nat} : vfieldAddr Tryz.prog H 94 (.ptr β o) 0 = if (H β).isSome = true then some (.ptr β (o + 0)) else none := by
 have h2 : szT Tryz.prog 3 = some 1 := by kernel_rfl
 simp [vfieldAddr, Tryz.underlying94, h2]
theorem fa94_1 {H : Nat → Option VObj} {cs : List VV} : vfieldAddr Tryz.prog H 94 (.tp cs) 1 = some (.tp (cs.drop 1)) := by
 have h2 : szT Tryz.prog 61 = some 1 := by kernel_rfl
 simp [vfieldAddr, Tryz.underlying94, h2]
theorem fp94_1 {H : Nat → Option VObj} {β o : Nat} : vfieldAddr Tryz.prog H 94 (.ptr β o) 1 = if (H β).isSome = true then some (.ptr β (o + 1)) else none := by
 have h2 : szT Tryz.prog 61 = some 1 := by kernel_rfl
 simp [vfieldAddr, Tryz.underlying94, h2]
theorem ld121 {c0 c1 : VV} {cs : List VV} : vload Tryz.prog 121 (c0 :: c1 :: cs) = some (.agg [c0, c1]) := by
 have h1 : aggT Tryz.prog 121 = some true := by kernel_rfl
 have h2 : szT Tryz.prog 121 = some 2 := by kernel_rfl
 simp [vload, vpart, h1, h2]
theorem sz121 : szT Tryz.prog 121 = some 2 := by kernel_rfl
theorem vzl121 : vzl Tryz.prog 121 = some [.lit (.int .i64 0), .lit (.int .i64 0)] := by kernel_rfl
theorem fa121_0 {H : Nat → Option VObj} {cs : List VV} : vfieldAddr Tryz.prog H 121 (.tp cs) 0 = some (.tp (cs.drop 0)) := by
 have h2 : szT Tryz.prog 3 = some 1 := by kernel_rfl
 simp [vfieldAddr, Tryz.underlying121, h2]
theorem fp121_0 {H : Nat → Option VObj} {β o : Nat} : vfieldAddr Tryz.prog H 121 (.ptr β o) 0 = if (H β).isSome = true then some (.ptr β (o + 0)) else none := by
 have h2 : szT Tryz.prog 3 = some 1 := by kernel_rfl
 simp [vfieldAddr, Tryz.underlying121, h2]
theorem fa121_1 {H : Nat → Option VObj} {cs : List VV} : vfieldAddr Tryz.prog H 121 (.tp cs) 1 = some (.tp (cs.drop 1)) := by
 have h2 : szT Tryz.prog 3 = some 1 := by kernel_rfl
 simp [vfieldAddr, Tryz.underlying121, h2]
theorem fp121_1 {H : Nat → Option VObj} {β o : Nat} : vfieldAddr Tryz.prog H 121 (.ptr β o) 1 = if (H β).isSome = true then some (.ptr β (o + 1)) else none := by
 have h2 : szT Tryz.prog 3 = some 1 := by kernel_rfl
 simp [vfieldAddr, Tryz.underlying121, h2]
theorem ld145 {c : VV} {cs : List VV} : vload Tryz.prog 145 (c :: cs) = some c := by
 have h1 : aggT Tryz.prog 145 = some false := by kernel_rfl
 simp [vload, vpart, h1]
theorem sz145 : szT Tryz.prog 145 = some 1 := by kernel_rfl
theorem vzl145 : vzl Tryz.prog 145 = some [.lit (.int .i64 0)] := by kernel_rfl
theorem sz1 : szT Tryz.prog 1 = some 1 := by kernel_rfl
theorem ld1 {c : VV} {cs : List VV} : vload Tryz.prog 1 (c :: cs) = some c := by
 have h1 : aggT Tryz.prog 1 = some false := by kernel_rfl
 simp [vload, vpart, h1]
theorem vzl1 : vzl Tryz.prog 1 = some [.lit .nilFunc] := by kernel_rfl
theorem sz36 : szT Tryz.prog 36 = some 1 := by kernel_rfl
theorem ld36 {c : VV} {cs : List VV} : vload Tryz.prog 36 (c :: cs) = some c := by
 have h1 : aggT Tryz.prog 36 = some false := by kernel_rfl
 simp [vload, vpart, h1]
theorem vzl36 : vzl Tryz.prog 36 = some [.lit .nilFunc] := by kernel_rfl
theorem sz44 : szT Tryz.prog 44 = some 1 := by kernel_rfl
theorem ld44 {c : VV} {cs : List VV} : vload Tryz.prog 44 (c :: cs) = some c := by
 have h1 : aggT Tryz.prog 44 = some false := by kernel_rfl
 simp [vload, vpart, h1]
theorem vzl44 : vzl Tryz.prog 44 = some [.lit .nilFunc] := by kernel_rfl
theorem sz78 : szT Tryz.prog 78 = some 1 := by kernel_rfl
theorem ld78 {c : VV} {cs : List VV} : vload Tryz.prog 78 (c :: cs) = some c := by
 have h1 : aggT Tryz.prog 78 = some false := by kernel_rfl
 simp [vload, vpart, h1]
theorem vzl78 : vzl Tryz.prog 78 = some [.lit .nilFunc] := by kernel_rfl
theorem sz79 : szT Tryz.prog 79 = some 1 := by kernel_rfl
theorem ld79 {c : VV} {cs : List VV} : vload Tryz.prog 79 (c :: cs) = some c := by
 have h1 : aggT Tryz.prog 79 = some false := by kernel_rfl
 simp [vload, vpart, h1]
theorem vzl79 : vzl Tryz.prog 79 = some [.lit .nilFunc] := by kernel_rfl
theorem sz97 : szT Tryz.prog 97 = some 1 := by kernel_rfl
theorem ld97 {c : VV} {cs : List VV} : vload Tryz.prog 97 (c :: cs) = some c := by
 have h1 : aggT Tryz.prog 97 = some false := by kernel_rfl
 simp [vload, vpart, h1]
theorem vzl97 : vzl Tryz.prog 97 = some [.lit .nilFunc] := by kernel_rfl
theorem sz128 : szT Tryz.prog 128 = some 1 := by kernel_rfl
theorem ld128 {c : VV} {cs : List VV} : vload Tryz.prog 128 (c :: cs) = some c := by
 have h1 : aggT Tryz.prog 128 = some false := by kernel_rfl
 simp [vload, vpart, h1]
theorem vzl128 : vzl Tryz.prog 128 = some [.lit .nilFunc] := by kernel_rfl
theorem sz99 : szT Tryz.prog 99 = some 3 := by kernel_rfl
theorem vzl99 : vzl Tryz.prog 99 = some [.lit .nilFunc, .lit .nilFunc, .lit .nilFunc] := by kernel_rfl
theorem ld99 {c0 c1 c2 : VV} {cs : List VV} : vload Tryz.prog 99 (c0 :: c1 :: c2 :: cs) = some (.agg [c0, c1, c2]) := by
 have h1 : aggT Tryz.prog 99 = some true := by kernel_rfl
 have h2 : szT Tryz.prog 99 = some 3 := by kernel_rfl
 simp [vload, vpart, h1, h2]
theorem vi99_0 {c0 c1 c2 : VV} {k : IntKind} : vindex Tryz.prog 99 (.agg [c0, c1, c2]) (.lit (.int k 0)) = some c0 := by
 have h1 : aggT Tryz.prog 97 = some false := by kernel_rfl
 have h2 : szT Tryz.prog 97 = some 1 := by kernel_rfl
 simp [vindex, Tryz.underlying99, vpart, h1, h2]
theorem va99_0 {H : Nat → Option VObj} {β o : Nat} {k : IntKind} : vindexAddr Tryz.prog H 99 (.ptr β o) (.lit (.int k 0)) = if (H β).isSome = true then some (.ptr β (o + 0)) else none := by
 have h2 : szT Tryz.prog 97 = some 1 := by kernel_rfl
 simp [vindexAddr, Tryz.underlying99, h2]
theorem vi99_1 {c0 c1 c2 : VV} {k : IntKind} : vindex Tryz.prog 99 (.agg [c0, c1, c2]) (.lit (.int k 1)) = some c1 := by
 have h1 : aggT Tryz.prog 97 = some false := by kernel_rfl
 have h2 : szT Tryz.prog 97 = some 1 := by kernel_rfl
 simp [vindex, Tryz.underlying99, vpart, h1, h2]
theorem va99_1 {H : Nat → Option VObj} {β o : Nat} {k : IntKind} : vindexAddr Tryz.prog H 99 (.ptr β o) (.lit (.int k 1)) = if (H β).isSome = true then some (.ptr β (o + 1)) else none := by
 have h2 : szT Tryz.prog 97 = some 1 := by kernel_rfl
 simp [vindexAddr, Tryz.underlying99, h2]
theorem vi99_2 {c0 c1 c2 : VV} {k : IntKind} : vindex Tryz.prog 99 (.agg [c0, c1, c2]) (.lit (.int k 2)) = some c2 := by
 have h1 : aggT Tryz.prog 97 = some false := by kernel_rfl
 have h2 : szT Tryz.prog 97 = some 1 := by kernel_rfl
 simp [vindex, Tryz.underlying99, vpart, h1, h2]
theorem va99_2 {H : Nat → Option VObj} {β o : Nat} {k : IntKind} : vindexAddr Tryz.prog H 99 (.ptr β o) (.lit (.int k 2)) = if (H β).isSome = true then some (.ptr β (o + 2)) else none := by
 have h2 : szT Tryz.prog 97 = some 1 := by kernel_rfl
 simp [vindexAddr, Tryz.underlying99, h2]
theorem vb56_0_1 {x0_0 x1_0 : VV} (h : leafL [x0_0, x1_0] = true) : vbuild Tryz.prog 56 [(0, x0_0), (1, x1_0)] = some (.agg [x0_0, x1_0]) := by
 have p0 : placeT Tryz.prog 56 0 = some (0, 1) := by kernel_rfl
 have p1 : placeT Tryz.prog 56 1 = some (1, 1) := by kernel_rfl
 simp only [leafL_cons, leafL_nil, Bool.and_true, Bool.and_eq_true] at h
 rw [vbuild_eq vzl56 (by kernel_rfl)]
 simp [vfill, p0, p1, vcells1, h, overwrite]
theorem vb59_0_1 {x0_0 x1_0 : VV} (h : leafL [x0_0, x1_0] = true) : vbuild Tryz.prog 59 [(0, x0_0), (1, x1_0)] = some (.agg [x0_0, x1_0]) := by
 have p0 : placeT Tryz.prog 59 0 = some (0, 1) := by kernel_rfl
 have p1 : placeT Tryz.prog 59 1 = some (1, 1) := by kernel_rfl
 simp only [leafL_cons, leafL_nil, Bool.and_true, Bool.and_eq_true] at h
 rw [vbuild_eq vzl59 (by kernel_rfl)]
 simp [vfill, p0, p1, vcells1, h, overwrite]
theorem vb81_0 {x0_0 x0_1 x0_2 : VV} (h : leafL [x0_0, x0_1, x0_2] = true) : vbuild Tryz.prog 81 [(0, .agg [x0_0, x0_1, x0_2])] = some (.agg [x0_0, x0_1, x0_2, .lit (.slice none 0 0), .lit (.slice none 0 0)]) := by
 have p0 : placeT Tryz.prog 81 0 = some (0, 3) := by kernel_rfl
 simp only [leafL_cons, leafL_nil, Bool.and_true, Bool.and_eq_true] at h
 have q0 : vcells (.agg [x0_0, x0_1, x0_2]) = some [x0_0, x0_1, x0_2] := by rw [vcells_agg]; simp [leafL_cons, leafL_nil, h]
 rw [vbuild_eq vzl81 (by kernel_rfl)]
 simp [vfill, p0, vcells1, h, overwrite, q0]
theorem vb94 : vbuild Tryz.prog 94 [] = some (.agg [.lit (.int .i64 0), .lit (.int .i64 0)]) := by
 rw [vbuild_eq vzl94 (by kernel_rfl)]
 rfl
theorem vb94_0_1 {x0_0 x1_0 : VV} (h : leafL [x0_0, x1_0] = true) : vbuild Tryz.prog 94 [(0, x0_0), (1, x1_0)] = some (.agg [x0_0, x1_0]) := by
 have p0 : placeT Tryz.prog 94 0 = some (0, 1) := by kernel_rfl
 have p1 : placeT Tryz.prog 94 1 = some (1, 1) := by kernel_rfl
 simp only [leafL_cons, leafL_nil, Bool.and_true, Bool.and_eq_true] at h
 rw [vbuild_eq vzl94 (by kernel_rfl)]
 simp [vfill, p0, p1, vcells1, h, overwrite]
theorem vb99_1_2 {x1_0 x2_0 : VV} (h : leafL [x1_0, x2_0] = true) : vbuild Tryz.prog 99 [(1, x1_0), (2, x2_0)] = some (.agg [.lit .nilFunc, x1_0, x2_0]) := by
 have p1 : placeT Tryz.prog 99 1 = some (1, 1) := by kernel_rfl
 have p2 : placeT Tryz.prog 99 2 = some (2, 1) := by kernel_rfl
 simp only [leafL_cons, leafL_nil, Bool.and_true, Bool.and_eq_true] at h
 rw [vbuild_eq vzl99 (by kernel_rfl)]
 simp [vfill, p1, p2, vcells1, h, overwrite]
theorem vb121_0_1 {x0_0 x1_0 : VV} (h : leafL [x0_0, x1_0] = true) : vbuild Tryz.prog 121 [(0, x0_0), (1, x1_0)] = some (.agg [x0_0, x1_0]) := by
 have p0 : placeT Tryz.prog 121 0 = some (0, 1) := by kernel_rfl
 have p1 : placeT Tryz.prog 121 1 = some (1, 1) := by kernel_rfl
 simp only [leafL_cons, leafL_nil, Bool.and_true, Bool.and_eq_true] at h
 rw [vbuild_eq vzl121 (by kernel_rfl)]
 simp [vfill, p0, p1, vcells1, h, overwrite]
theorem mi94 {x : VV} : mkIfcV Tryz.prog 94 x = some (.ifc 94 x) := by simp [mkIfcV, Tryz.underlying94]
theorem tz94 : ((Tryz.prog.info? 94).bind (·.zero)).map (fun z => VV.tup [ofVal2 z, .lit (.bool false)]) = some (.tup [.agg [.lit (.int .i64 0), .lit (.int .i64 0)], .lit (.bool false)]) := by kernel_rfl
theorem tn94 : vtypeAssert Tryz.prog (.lit .nilIface) 94 true = some (.tup [.agg [.lit (.int .i64 0), .lit (.int .i64 0)], .lit (.bool false)]) := by
 simp only [vtypeAssert, Tryz.underlying94, if_true]
 exact tz94
theorem tt94 {x : VV} : vtypeAssert Tryz.prog (.ifc 94 x) 94 true = some (.tup [x, .lit (.bool true)]) := by
 simp [vtypeAssert, Tryz.underlying94]
theorem be4 {H : Nat → Option VObj} {x y : Operand} {a b : Bool} : binV Tryz.prog H .eql 4 x y (.lit (.bool a)) (.lit (.bool b)) = some (.lit (.bool (a == b))) := bin_eqB Tryz.underlying4
theorem bn4 {H : Nat → Option VObj} {x y : Operand} {a b : Bool} : binV Tryz.prog H .neq 4 x y (.lit (.bool a)) (.lit (.bool b)) = some (.lit (.bool (a != b))) := bin_neB Tryz.underlying4
theorem leaf_nf : (VV.lit Value.nilFunc).leaf = true := rfl
theorem leaf_ni : (VV.lit Value.nilIface).leaf = true := rfl
def tyf := (And.intro (And.intro (And.intro (And.intro (And.intro (And.intro (And.intro @cGSpan_eq @cGCoatCoat_eq) (And.intro @cGCoatSheet_eq (And.intro @cGcoatsums_eq @cGcoatfailure_eq))) (And.intro (And.intro @cGcoatlaying_eq @ld2) (And.intro @sz2 (And.intro @vzl2 @ld3)))) (And.intro (And.intro (And.intro @sz3 @vzl3) (And.intro @ld4 (And.intro @sz4 @vzl4))) (And.intro (And.intro @ld9 @sz9) (And.intro @vzl9 (And.intro @ld22 @sz22))))) (And.intro (And.intro (And.intro (And.intro @vzl22 @len22) (And.intro @lenN22 (And.intro @lenR22 @et22))) (And.intro (And.intro @tk22 @bs22_1) (And.intro @ld23 (And.intro @sz23 @vzl23)))) (And.intro (And.intro (And.intro @len23 @lenN23) (And.intro @lenR23 (And.intro @et23 @tk23))) (And.intro (And.intro @bs23_1 (And.intro @bs23_2 @bs23_3)) (And.intro @ld24 (And.intro @sz24 @vzl24)))))) (And.intro (And.intro (And.intro (And.intro (And.intro @len24 @lenN24) (And.intro @lenR24 (And.intro @et24 @tk24))) (And.intro (And.intro @bs24_1 @ld26) (And.intro @sz26 (And.intro @vzl26 @fa26_0)))) (And.intro (And.intro (And.intro @fp26_0 @fa26_1) (And.intro @fp26_1 (And.intro @fa26_2 @fp26_2))) (And.intro (And.intro @ld29 (And.intro @sz29 @vzl29)) (And.intro @ld34 (And.intro @sz34 @vzl34))))) (And.intro (And.intro (And.intro (And.intro @len34 @lenN34) (And.intro @lenR34 (And.intro @et34 @tk34))) (And.intro (And.intro @bs34_1 @bs34_2) (And.intro @bs34_3 (And.intro @ld56 @sz56)))) (And.intro (And.intro (And.intro @vzl56 @fa56_0) (And.intro @fp56_0 (And.intro @fa56_1 @fp56_1))) (And.intro (And.intro @ld59 (And.intro @sz59 @vzl59)) (And.intro @fa59_0 (And.intro @fp59_0 @fa59_1))))))) (And.intro (And.intro (And.intro (And.intro (And.intro (And.intro @fp59_1 @ld61) (And.intro @sz61 (And.intro @vzl61 @ld72))) (And.intro (And.intro @sz72 @vzl72) (And.intro @ld81 (And.intro @sz81 @vzl81)))) (And.intro (And.intro (And.intro @fa81_0 @fp81_0) (And.intro @fa81_1 (And.intro @fp81_1 @fa81_2))) (And.intro (And.intro @fp81_2 @ld94) (And.intro @sz94 (And.intro @vzl94 @fa94_0))))) (And.intro (And.intro (And.intro (And.intro @fp94_0 @fa94_1) (And.intro @fp94_1 (And.intro @ld121 @sz121))) (And.intro (And.intro @vzl121 @fa121_0) (And.intro @fp121_0 (And.intro @fa121_1 @fp121_1)))) (And.intro (And.intro (And.intro @ld145 @sz145) (And.intro @vzl145 (And.intro @sz1 @ld1))) (And.intro (And.intro @vzl1 (And.intro @sz36 @ld36)) (And.intro @vzl36 (And.intro @sz44 @ld44)))))) (And.intro (And.intro (And.intro (And.intro (And.intro @vzl44 @sz78) (And.intro @ld78 (And.intro @vzl78 @sz79))) (And.intro (And.intro @ld79 @vzl79) (And.intro @sz97 (And.intro @ld97 @vzl97)))) (And.intro (And.intro (And.intro @sz128 @ld128) (And.intro @vzl128 (And.intro @sz99 @vzl99))) (And.intro (And.intro @ld99 (And.intro @vi99_0 @va99_0)) (And.intro @vi99_1 (And.intro @va99_1 @vi99_2))))) (And.intro (And.intro (And.intro (And.intro @va99_2 @vb56_0_1) (And.intro @vb59_0_1 (And.intro @vb81_0 @vb94))) (And.intro (And.intro @vb94_0_1 @vb99_1_2) (And.intro @vb121_0_1 (And.intro @mi94 @tn94)))) (And.intro (And.intro (And.intro @tt94 @be4) (And.intro @bn4 (And.intro @leaf_nf @leaf_ni))) (And.intro (And.intro @midG_normal (And.intro @eI_eq @eU8_eq)) (And.intro @eB_eq (And.intro @eS_eq @eSl_eq))))))))
def tynrm := (And.intro (And.intro (And.intro (And.intro @cGSpan_ok.norm (And.intro @cGSpan_ok.normL @cGSpan_ok.shown)) (And.intro (And.intro @cGSpan_ok.showL @cGCoatCoat_ok.norm) (And.intro @cGCoatCoat_ok.normL @cGCoatCoat_ok.shown))) (And.intro (And.intro @cGCoatCoat_ok.showL (And.intro @cGCoatSheet_ok.norm @cGCoatSheet_ok.normL)) (And.intro (And.intro @cGCoatSheet_ok.shown @cGCoatSheet_ok.showL) (And.intro @cGcoatsums_ok.norm @cGcoatsums_ok.normL)))) (And.intro (And.intro (And.intro @cGcoatsums_ok.shown (And.intro @cGcoatsums_ok.showL @cGcoatfailure_ok.norm)) (And.intro (And.intro @cGcoatfailure_ok.normL @cGcoatfailure_ok.shown) (And.intro @cGcoatfailure_ok.showL @cGcoatlaying_ok.norm))) (And.intro (And.intro @cGcoatlaying_ok.normL (And.intro @cGcoatlaying_ok.shown @cGcoatlaying_ok.showL)) (And.intro (And.intro @sl34_ok.norm @sl34_ok.normL) (And.intro @sl34_ok.shown @sl34_ok.showL)))))
def tytre := (And.intro (And.intro (And.intro @cGSpan_ok.tree (And.intro @cGSpan_ok.treeL @cGCoatCoat_ok.tree)) (And.intro (And.intro @cGCoatCoat_ok.treeL @cGCoatSheet_ok.tree) (And.intro @cGCoatSheet_ok.treeL @cGcoatsums_ok.tree))) (And.intro (And.intro @cGcoatsums_ok.treeL (And.intro @cGcoatfailure_ok.tree @cGcoatfailure_ok.treeL)) (And.intro (And.intro @cGcoatlaying_ok.tree @cGcoatlaying_ok.treeL) (And.intro @sl34_ok.tree @sl34_ok.treeL))))
end Go.V
end
section
set_option linter.unusedVariables false
namespace Go.V
open Go
def Dec (P : Program) (n : Nat) (t : TypeId) {α : Type} (enc : α → List VV) (R : α → Prop) : Prop := ∀ xs, ShapeT P n t xs → ∃ x : α, R x ∧ normL xs = enc x
theorem dec_int {P : Program} {n : Nat} {t : TypeId} (hu : P.underlying t = some (.int .i64)) : Dec P (n + 1) t eI (fun _ => True) := by
 intro xs h
 simp only [ShapeT, hu] at h
 obtain ⟨i, _, rfl⟩ := h
 exact ⟨i, trivial, by simp only [normL_cons, normL_nil, normV_int, eI]⟩
theorem dec_list {P : Program} {n : Nat} {t : TypeId} {α : Type} {enc : α → List VV} {R : α → Prop} (h : Dec P n t enc R) : ∀ yss : List (List VV), (∀ ys ∈ yss, ShapeT P n t ys) → ∃ l : List α, l.length = yss.length ∧ (∀ x ∈ l, R x) ∧ normL yss.flatten = cellsL enc l
 | [], _ => ⟨[], rfl, fun _ hx => (by cases hx), rfl⟩
 | ys :: yss, hs => by
  obtain ⟨x, hx, e⟩ := h ys (hs ys (List.mem_cons_self ..))
  obtain ⟨l, h1, h2, h3⟩ := dec_list h yss (fun y hy => hs y (List.mem_cons_of_mem _ hy))
  refine ⟨x :: l, by simp [h1], fun y hy => ?_, by rw [List.flatten_cons, normL_append, e, h3, cellsL_cons]⟩
  rcases List.mem_cons.1 hy with rfl | hy
  ·exact hx
  ·exact h2 y hy
theorem dec_slice {P : Program} {n : Nat} {t e : TypeId} {α : Type} {enc : α → List VV} {R : α → Prop} (hu : P.underlying t = some (.slice e)) (h : Dec P n e enc R) : Dec P (n + 1) t (fun l : List α => [.sl (cellsL enc l) l.length false]) (fun l => lenOk l = true ∧ ∀ x ∈ l, R x) := by
 intro xs hs
 simp only [ShapeT, hu] at hs
 rcases hs with rfl | ⟨yss, hl, hall, rfl⟩
 ·exact ⟨[], ⟨rfl, fun _ hx => (by cases hx)⟩, by simp only [normL_cons, normL_nil, normV_nil]; rfl⟩
 ·obtain ⟨l, h1, h2, h3⟩ := dec_list h yss hall
  refine ⟨l, ⟨?_, h2⟩, by simp only [normL_cons, normL_nil, normV_sl, h3, h1]⟩
  have : maxLen = 9223372036854775807 := by decide
  unfold lenOk
  exact decide_eq_true (by omega)
theorem dec_fields {P : Program} {n : Nat} {t : TypeId} {fs : Array Field} {xs : List VV} (hu : P.underlying t = some (.struct fs)) (h : ShapeT P (n + 1) t xs) : ∃ yss, FieldsS (ShapeT P n) fs.toList yss ∧ xs = yss.flatten := by
 simp only [ShapeT, hu] at h
 exact h
def TypesS (S : TypeId → List VV → Prop) : List TypeId → List (List VV) → Prop
 | [], [] => True
 | t :: ts, ys :: yss => S t ys ∧ TypesS S ts yss
 | _, _ => False
theorem types_of {S : TypeId → List VV → Prop} : ∀ (fs : List Field) (yss : List (List VV)), FieldsS S fs yss → TypesS S (fs.map Field.type) yss
 | [], [], _ => trivial
 | f :: fs, ys :: yss, ⟨h1, h2⟩ => ⟨h1, types_of fs yss h2⟩
 | [], _ :: _, h => h
 | _ :: _, [], h => h
theorem dec_struct {P : Program} {n : Nat} {t : TypeId} {fs : Array Field} {ts : List TypeId} {xs : List VV} (hu : P.underlying t = some (.struct fs)) (ht : fs.toList.map Field.type = ts) (h : ShapeT P (n + 1) t xs) : ∃ yss, TypesS (ShapeT P n) ts yss ∧ xs = yss.flatten := by
 obtain ⟨yss, h1, h2⟩ := dec_fields hu h
 exact ⟨yss, ht ▸ types_of _ _ h1, h2⟩
theorem argsS_cons {P : Program} {n : Nat} {t : TypeId} {ts : List TypeId} {xs : List VV} (h : ArgsS P n (t :: ts) xs) : ∃ x xs', xs = x :: xs' ∧ ArgS P n t x ∧ ArgsS P n ts xs' := by
 match xs, h with
 | x :: xs', h => exact ⟨x, xs', rfl, h.1, h.2⟩
theorem argsS_nil {P : Program} {n : Nat} {xs : List VV} (h : ArgsS P n [] xs) : xs = [] := by
 match xs, h with
 | [], _ => rfl
theorem arg_struct {P : Program} {n : Nat} {t : TypeId} {fs : Array Field} {x : VV} {α : Type} {enc : α → List VV} {R : α → Prop} (hu : P.underlying t = some (.struct fs)) (hd : Dec P n t enc R) (h : ArgS P n t x) : ∃ s, R s ∧ normV x = .agg (enc s) := by
 obtain ⟨ys, h1, h2⟩ := h
 rw [hu] at h2
 obtain rfl : x = .agg ys := h2
 obtain ⟨s, hs, e⟩ := hd ys h1
 exact ⟨s, hs, by rw [normV_agg, e]⟩
theorem arg_cell {P : Program} {n : Nat} {t : TypeId} {d : TypeDesc} {x : VV} {α : Type} {enc : α → List VV} {R : α → Prop} (hu : P.underlying t = some d) (hn : ∀ fs, d ≠ .struct fs) (hd : Dec P n t enc R) (h : ArgS P n t x) : ∃ s, R s ∧ [normV x] = enc s := by
 obtain ⟨ys, h1, h2⟩ := h
 rw [hu] at h2
 have h3 : ys = [x] := by
  cases d <;> first | exact h2 | exact absurd rfl (hn _)
 subst h3
 obtain ⟨s, hs, e⟩ := hd _ h1
 exact ⟨s, hs, by rw [← e, normL_cons, normL_nil]⟩
end Go.V
end
section
set_option maxRecDepth 100000
namespace Go.V
open Go Go.Proofs
def Ok_GCoatSheet (x : GCoatSheet) : Prop := lenOk x.Dry = true ∧ lenOk x.Work = true ∧ lenOk x.Coats = true
section
variable {P : Program} (hu3 : P.underlying 3 = some (.int .i64)) {f56 : Array Field} (hu56 : P.underlying 56 = some (.struct f56)) (ht56 : f56.toList.map Field.type = [3, 3]) (hu22 : P.underlying 22 = some (.slice 56)) (hu23 : P.underlying 23 = some (.slice 3)) {f59 : Array Field} (hu59 : P.underlying 59 = some (.struct f59)) (ht59 : f59.toList.map Field.type = [3, 3]) (hu24 : P.underlying 24 = some (.slice 59)) {f26 : Array Field} (hu26 : P.underlying 26 = some (.struct f26)) (ht26 : f26.toList.map Field.type = [22, 23, 24])
include hu3 hu56 ht56 hu22 hu23 hu59 ht59 hu24 hu26 ht26
theorem gd_3 {n : Nat} : Dec P (n + 1) 3 eI (fun _ => True) := dec_int hu3
theorem gd_56 {n : Nat} : Dec P (n + 2) 56 cGSpan (fun _ => True) := by
 intro xs h
 obtain ⟨yss, hf, rfl⟩ := dec_struct (n := n + 1) (ts := [3, 3]) hu56 ht56 h
 match yss, hf with
 | [y0, y1], ⟨h0, h1, _⟩ =>
  obtain ⟨x0, r0, e0⟩ := gd_3 hu3 hu56 ht56 hu22 hu23 hu59 ht59 hu24 hu26 ht26 (n := n + 0) _ h0
  obtain ⟨x1, r1, e1⟩ := gd_3 hu3 hu56 ht56 hu22 hu23 hu59 ht59 hu24 hu26 ht26 (n := n + 0) _ h1
  exact ⟨⟨x0, x1⟩, trivial, by simp only [List.flatten_cons, List.flatten_nil, List.append_nil, normL_append, e0, e1, eI, eU8, eB, eS, eSl, cGSpan_eq, List.cons_append, List.nil_append]⟩
theorem gd_22 {n : Nat} : Dec P (n + 3) 22 (eSl cGSpan) (fun l => lenOk l = true ∧ ∀ x ∈ l, True) := dec_slice hu22 (gd_56 hu3 hu56 ht56 hu22 hu23 hu59 ht59 hu24 hu26 ht26 (n := n))
theorem gd_23 {n : Nat} : Dec P (n + 2) 23 (eSl eI) (fun l => lenOk l = true ∧ ∀ x ∈ l, True) := dec_slice hu23 (gd_3 hu3 hu56 ht56 hu22 hu23 hu59 ht59 hu24 hu26 ht26 (n := n))
theorem gd_59 {n : Nat} : Dec P (n + 2) 59 cGCoatCoat (fun _ => True) := by
 intro xs h
 obtain ⟨yss, hf, rfl⟩ := dec_struct (n := n + 1) (ts := [3, 3]) hu59 ht59 h
 match yss, hf with
 | [y0, y1], ⟨h0, h1, _⟩ =>
  obtain ⟨x0, r0, e0⟩ := gd_3 hu3 hu56 ht56 hu22 hu23 hu59 ht59 hu24 hu26 ht26 (n := n + 0) _ h0
  obtain ⟨x1, r1, e1⟩ := gd_3 hu3 hu56 ht56 hu22 hu23 hu59 ht59 hu24 hu26 ht26 (n := n + 0) _ h1
  exact ⟨⟨x0, x1⟩, trivial, by simp only [List.flatten_cons, List.flatten_nil, List.append_nil, normL_append, e0, e1, eI, eU8, eB, eS, eSl, cGCoatCoat_eq, List.cons_append, List.nil_append]⟩
theorem gd_24 {n : Nat} : Dec P (n + 3) 24 (eSl cGCoatCoat) (fun l => lenOk l = true ∧ ∀ x ∈ l, True) := dec_slice hu24 (gd_59 hu3 hu56 ht56 hu22 hu23 hu59 ht59 hu24 hu26 ht26 (n := n))
theorem gd_26 {n : Nat} : Dec P (n + 4) 26 cGCoatSheet (Ok_GCoatSheet) := by
 intro xs h
 obtain ⟨yss, hf, rfl⟩ := dec_struct (n := n + 3) (ts := [22, 23, 24]) hu26 ht26 h
 match yss, hf with
 | [y0, y1, y2], ⟨h0, h1, h2, _⟩ =>
  obtain ⟨x0, r0, e0⟩ := gd_22 hu3 hu56 ht56 hu22 hu23 hu59 ht59 hu24 hu26 ht26 (n := n + 0) _ h0
  obtain ⟨x1, r1, e1⟩ := gd_23 hu3 hu56 ht56 hu22 hu23 hu59 ht59 hu24 hu26 ht26 (n := n + 1) _ h1
  obtain ⟨x2, r2, e2⟩ := gd_24 hu3 hu56 ht56 hu22 hu23 hu59 ht59 hu24 hu26 ht26 (n := n + 0) _ h2
  exact ⟨⟨x0, x1, x2⟩, ⟨r0.1, r1.1, r2.1⟩, by simp only [List.flatten_cons, List.flatten_nil, List.append_nil, normL_append, e0, e1, e2, eI, eU8, eB, eS, eSl, cGCoatSheet_eq, List.cons_append, List.nil_append]⟩
end
theorem dec_3 {n : Nat} : Dec Tryz.prog (n + 1) 3 eI (fun _ => True) := gd_3 Tryz.underlying3 Tryz.underlying56 (by kernel_rfl) Tryz.underlying22 Tryz.underlying23 Tryz.underlying59 (by kernel_rfl) Tryz.underlying24 Tryz.underlying26 (by kernel_rfl)
theorem dec_56 {n : Nat} : Dec Tryz.prog (n + 2) 56 cGSpan (fun _ => True) := gd_56 Tryz.underlying3 Tryz.underlying56 (by kernel_rfl) Tryz.underlying22 Tryz.underlying23 Tryz.underlying59 (by kernel_rfl) Tryz.underlying24 Tryz.underlying26 (by kernel_rfl)
theorem dec_23 {n : Nat} : Dec Tryz.prog (n + 2) 23 (eSl eI) (fun l => lenOk l = true ∧ ∀ x ∈ l, True) := gd_23 Tryz.underlying3 Tryz.underlying56 (by kernel_rfl) Tryz.underlying22 Tryz.underlying23 Tryz.underlying59 (by kernel_rfl) Tryz.underlying24 Tryz.underlying26 (by kernel_rfl)
theorem dec_26 {n : Nat} : Dec Tryz.prog (n + 4) 26 cGCoatSheet (Ok_GCoatSheet) := gd_26 Tryz.underlying3 Tryz.underlying56 (by kernel_rfl) Tryz.underlying22 Tryz.underlying23 Tryz.underlying59 (by kernel_rfl) Tryz.underlying24 Tryz.underlying26 (by kernel_rfl)
end Go.V
end
section
set_option linter.unusedVariables false
set_option linter.unusedSimpArgs false
namespace Go.V
open Go
def goB (b : Bool) : Option (LOut Bool Unit) := cond b (some (.go ())) (some (.ret false))
theorem goB_and (a b : Bool) : goB (a && b) = cond a (goB b) (some (.ret false)) := by cases a <;> rfl
theorem cnot {α : Type} (a : Bool) (x y : α) : cond (!a) x y = cond a y x := by cases a <;> rfl
theorem cand {α : Type} (a b : Bool) (x y : α) : cond (a && b) x y = cond a (cond b x y) y := by cases a <;> rfl
theorem csome (a b : Bool) : cond a (some b) (some false) = some (a && b) := by cases a <;> rfl
theorem goB_lbind {X : Type} (b : Bool) (kr : Bool → Option X) (kg : Unit → Option X) (kb : Nat → Unit → Option X) : lbind (goB b) kr kg kb = cond b (kg ()) (kr false) := by cases b <;> rfl
def inB (a b n : Int) : Bool := decide (a ≤ n) && decide (n ≤ b)
theorem inB_iff {a b n : Int} : inB a b n = true ↔ a ≤ n ∧ n ≤ b := by simp [inB]
theorem wrap_eq {n : Int} (h1 : -9223372036854775808 ≤ n) (h2 : n < 9223372036854775808) : IntKind.i64.wrap n = n := IntWalk.i64_in _ (by omega)
theorem lenOk_lt {α : Type} {xs : List α} (h : lenOk xs = true) : xs.length < 9223372036854775808 := by simpa [lenOk] using h
theorem lenOk_of {α : Type} {xs : List α} (h : xs.length < 9223372036854775808) : lenOk xs = true := by simpa [lenOk] using h
theorem getI_some {α : Type} {xs : List α} {i : Int} (h0 : 0 ≤ i) (h1 : i < xs.length) : ∃ x, getI xs i = some x ∧ x ∈ xs := by
 unfold getI
 rw [if_pos h0]
 have h : i.toNat < xs.length := by omega
 exact ⟨xs[i.toNat], List.getElem?_eq_getElem h, List.getElem_mem h⟩
theorem getI_lt {α : Type} {xs : List α} {i : Int} {x : α} (h : getI xs i = some x) : 0 ≤ i ∧ i < xs.length := ⟨(getI_drop h).1, (getI_drop h).2.1⟩
theorem getI_last {α : Type} {xs : List α} (h : 1 ≤ xs.length) (h2 : xs.length < 9223372036854775808) : getI xs (IntKind.i64.wrap ((xs.length : Int) - 1)) = xs.getLast? := by
 rw [wrap_eq (by omega) (by omega)]
 unfold getI
 rw [if_pos (by omega), List.getLast?_eq_getElem?]
 congr 1
 omega
end Go.V
end
section
namespace Go.V
def ea : Option Bool → Bool | none => true | some b => b
def eo : Option Bool → Bool | none => false | some b => b
end Go.V
end
