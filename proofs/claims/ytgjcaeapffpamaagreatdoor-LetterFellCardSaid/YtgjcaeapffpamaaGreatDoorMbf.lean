/- Part of the proof of a statement of YtgjcaeapffpamaaGreatDoor: a logic of values by content, the lifted functions, and what follows. -/
import Derived.Test.YtgjcaeapffpamaaGreatDoorMbe
import Derived.Test.YtgjcaeapffpamaaGreatDoorMan
import Derived.Test.YtgjcaeapffpamaaGreatDoorProg
import Derived.Test.YtgjcaeapffpamaaGreatDoorMaz
set_option linter.unusedVariables false
set_option linter.unusedSimpArgs false
set_option linter.unusedSectionVars false
set_option linter.constructorNameAsVariable false
section
/- A scope of labels. -/
namespace Go.V
open Go
section
variable {P : Program} {G : Glob} {n : Nat} {Q : VExit → St → Prop} {st : St}
theorem cwp_scope (hm : P.follows .mixedOrders = true) {x : Code} (ho : codeOk n x = true) (h : CWp P G n x (VExit.noGoto Q) st) : CWp P G n (.scope x) Q st := VWp.scope (CWp_sound hm x _ st ho h)
theorem cwp_label {l : Nat} : CWp P G n (.label l) Q st = Q .normal st := rfl
theorem ng_normal : VExit.noGoto Q .normal st = Q .normal st := rfl
theorem ng_ret : VExit.noGoto Q .ret st = Q .ret st := rfl
theorem ng_exit {id : Nat} : VExit.noGoto Q (.exit id) st = Q (.exit id) st := rfl
theorem ng_panic {x : VV} : VExit.noGoto Q (.panic x) st = Q (.panic x) st := rfl
end
end Go.V
end
section
/- The types of the program. -/
namespace Go.V
open Go Go.Proofs
set_option linter.defProp false
set_option linter.unusedSimpArgs false
set_option linter.unusedVariables false
def G0 : Glob := ⟨fun _ => none, some none⟩
theorem mixed : Tryz.prog.follows .mixedOrders = true := by kernel_rfl
structure GSpan where
  Low : Int
  High : Int
  deriving Inhabited, DecidableEq
def cGSpan (x : GSpan) : List VV := [.lit (.int .i64 x.Low), .lit (.int .i64 x.High)]
theorem cGSpan_eq {x : GSpan} : cGSpan x = [.lit (.int .i64 x.Low), .lit (.int .i64 x.High)] := rfl
theorem cGSpan_ok : EncOk cGSpan := EncOk.of (fun x => by simp only [cGSpan_eq, tre, Bool.and_self]) (fun x => by simp only [cGSpan_eq, nrm]) (fun x H d => by simp only [cGSpan_eq, nrm, List.map_cons, List.map_nil])
structure GLetterPair where
  Left : Int
  Right : Int
  Space : GSpan
  deriving Inhabited, DecidableEq
def cGLetterPair (x : GLetterPair) : List VV := [.lit (.int .i64 x.Left), .lit (.int .i64 x.Right), .lit (.int .i64 x.Space.Low), .lit (.int .i64 x.Space.High)]
theorem cGLetterPair_eq {x : GLetterPair} : cGLetterPair x = [.lit (.int .i64 x.Left), .lit (.int .i64 x.Right), .lit (.int .i64 x.Space.Low), .lit (.int .i64 x.Space.High)] := rfl
theorem cGLetterPair_ok : EncOk cGLetterPair := EncOk.of (fun x => by simp only [cGLetterPair_eq, tre, cGSpan_ok.tree, cGSpan_ok.treeL, Bool.and_self]) (fun x => by simp only [cGLetterPair_eq, nrm, cGSpan_ok.norm, cGSpan_ok.normL, cGSpan_ok.shown, cGSpan_ok.showL]) (fun x H d => by simp only [cGLetterPair_eq, nrm, List.map_cons, List.map_nil])
structure GLetterWord where
  Signs : List Int
  Cuts : List Int
  Free : Bool
  deriving Inhabited, DecidableEq
def cGLetterWord (x : GLetterWord) : List VV := [.sl (cellsL eI x.Signs) (List.length x.Signs) false, .sl (cellsL eI x.Cuts) (List.length x.Cuts) false, .lit (.bool x.Free)]
theorem cGLetterWord_eq {x : GLetterWord} : cGLetterWord x = [.sl (cellsL eI x.Signs) (List.length x.Signs) false, .sl (cellsL eI x.Cuts) (List.length x.Cuts) false, .lit (.bool x.Free)] := rfl
theorem cGLetterWord_ok : EncOk cGLetterWord := EncOk.of (fun x => by simp only [cGLetterWord_eq, tre, cGSpan_ok.tree, cGSpan_ok.treeL, cGLetterPair_ok.tree, cGLetterPair_ok.treeL, Bool.and_self]) (fun x => by simp only [cGLetterWord_eq, nrm, cGSpan_ok.norm, cGSpan_ok.normL, cGSpan_ok.shown, cGSpan_ok.showL, cGLetterPair_ok.norm, cGLetterPair_ok.normL, cGLetterPair_ok.shown, cGLetterPair_ok.showL]) (fun x H d => by simp only [cGLetterWord_eq, nrm, List.map_cons, List.map_nil])
structure GLetterSheet where
  Widths : List Int
  Pairs : List GLetterPair
  Other : GSpan
  Gap : GSpan
  Hyphen : Int
  Words : List GLetterWord
  Wide : Int
  Rows : Int
  deriving Inhabited, DecidableEq
def cGLetterSheet (x : GLetterSheet) : List VV := [.sl (cellsL eI x.Widths) (List.length x.Widths) false, .sl (cellsL cGLetterPair x.Pairs) (List.length x.Pairs) false, .lit (.int .i64 x.Other.Low), .lit (.int .i64 x.Other.High), .lit (.int .i64 x.Gap.Low), .lit (.int .i64 x.Gap.High), .lit (.int .i64 x.Hyphen), .sl (cellsL cGLetterWord x.Words) (List.length x.Words) false, .lit (.int .i64 x.Wide), .lit (.int .i64 x.Rows)]
theorem cGLetterSheet_eq {x : GLetterSheet} : cGLetterSheet x = [.sl (cellsL eI x.Widths) (List.length x.Widths) false, .sl (cellsL cGLetterPair x.Pairs) (List.length x.Pairs) false, .lit (.int .i64 x.Other.Low), .lit (.int .i64 x.Other.High), .lit (.int .i64 x.Gap.Low), .lit (.int .i64 x.Gap.High), .lit (.int .i64 x.Hyphen), .sl (cellsL cGLetterWord x.Words) (List.length x.Words) false, .lit (.int .i64 x.Wide), .lit (.int .i64 x.Rows)] := rfl
theorem cGLetterSheet_ok : EncOk cGLetterSheet := EncOk.of (fun x => by simp only [cGLetterSheet_eq, tre, cGSpan_ok.tree, cGSpan_ok.treeL, cGLetterPair_ok.tree, cGLetterPair_ok.treeL, cGLetterWord_ok.tree, cGLetterWord_ok.treeL, Bool.and_self]) (fun x => by simp only [cGLetterSheet_eq, nrm, cGSpan_ok.norm, cGSpan_ok.normL, cGSpan_ok.shown, cGSpan_ok.showL, cGLetterPair_ok.norm, cGLetterPair_ok.normL, cGLetterPair_ok.shown, cGLetterPair_ok.showL, cGLetterWord_ok.norm, cGLetterWord_ok.normL, cGLetterWord_ok.shown, cGLetterWord_ok.showL]) (fun x H d => by simp only [cGLetterSheet_eq, nrm, List.map_cons, List.map_nil])
theorem sl44_ok : EncOk (eSl eI) := EncOk.sl eI_ok
theorem ld2 {c : VV} {cs : List VV} : vload Tryz.prog 2 (c :: cs) = some c := by
  have h1 : aggT Tryz.prog 2 = some false := by kernel_rfl
  simp [vload, vpart, h1]
theorem sz2 : szT Tryz.prog 2 = some 1 := by kernel_rfl
theorem ld3 {c : VV} {cs : List VV} : vload Tryz.prog 3 (c :: cs) = some c := by
  have h1 : aggT Tryz.prog 3 = some false := by kernel_rfl
  simp [vload, vpart, h1]
theorem sz3 : szT Tryz.prog 3 = some 1 := by kernel_rfl
theorem ld4 {c : VV} {cs : List VV} : vload Tryz.prog 4 (c :: cs) = some c := by
  have h1 : aggT Tryz.prog 4 = some false := by kernel_rfl
  simp [vload, vpart, h1]
theorem sz4 : szT Tryz.prog 4 = some 1 := by kernel_rfl
theorem ld22 {c : VV} {cs : List VV} : vload Tryz.prog 22 (c :: cs) = some c := by
  have h1 : aggT Tryz.prog 22 = some false := by kernel_rfl
  simp [vload, vpart, h1]
theorem sz22 : szT Tryz.prog 22 = some 1 := by kernel_rfl
theorem len22 {H : Nat → Option VObj} {cs : List VV} {n : Nat} {f : Bool} : vlen Tryz.prog H 22 (.sl cs n f) = some (.lit (.int .i64 n)) := by simp [vlen, Tryz.underlying22, sls]
theorem lenN22 {H : Nat → Option VObj} : vlen Tryz.prog H 22 (.lit (.slice none 0 0)) = some (.lit (.int .i64 0)) := by simp [vlen, Tryz.underlying22, sls]
theorem lenR22 {H : Nat → Option VObj} {β off n w c : Nat} : vlen Tryz.prog H 22 (.ref β off n w c) = (match H β with | some (.cells _ cs) => if off ≤ cs.length then some (.lit (.int .i64 n)) else none | _ => none) := lenR Tryz.underlying22
theorem et22 : elemT Tryz.prog 22 = some 3 := by simp [elemT, Tryz.underlying22]
theorem ao22 : appOk Tryz.prog 22 = some (3, 1, 8) := by kernel_rfl
theorem tk22 {xs : List Int} : (cellsL eI xs).take (xs.length * 1) = cellsL eI xs := take_cells (fun _ => rfl)
theorem lf22 : ∀ x : Int, leafL (eI x) = true := fun x => by simp only [eI_eq, eU8_eq, eB_eq, eS_eq, eSl_eq, leafL_nil, leafL_cons, leaf_int, leaf_bool, leaf_string, leaf_slice, leaf_sl, Bool.and_self]
theorem ixo22 {xs : List Int} {x : Int} {i : Int} (h : getI xs i = some x) : (∀ (H : Nat → Option VObj) (β c : Nat) (k : IntKind), vindexAddr Tryz.prog H 22 (.ref β 0 xs.length 1 c) (.lit (.int k i)) = if (H β).isSome = true then some (.ptr β (i.toNat * 1)) else none) ∧ (cellsL eI xs).drop (i.toNat * 1) = eI x ++ cellsL eI (xs.drop (i.toNat + 1)) ∧ (i.toNat * 1 ≤ (cellsL eI xs).length) = True := ixO Tryz.underlying22 (by kernel_rfl : szT Tryz.prog 3 = some 1) (fun _ => rfl) h
theorem bs22_1 {a0 : VV} (h : leafL [a0] = true) : vbuildSlice Tryz.prog 22 1 [(0, a0)] = some ([a0], 1) := by
  have h2 : szT Tryz.prog 3 = some 1 := by kernel_rfl
  have h3 : vzero Tryz.prog 3 = some #[.int .i64 0] := by kernel_rfl
  simp only [leafL_cons, leafL_nil, Bool.and_true, Bool.and_eq_true] at h
  simp [vbuildSlice, Tryz.underlying22, h2, h3, vfill, vcells1, h, overwrite, vzeros, List.range_succ]
theorem bs22_2 {a0 a1 : VV} (h : leafL [a0, a1] = true) : vbuildSlice Tryz.prog 22 2 [(0, a0), (1, a1)] = some ([a0, a1], 1) := by
  have h2 : szT Tryz.prog 3 = some 1 := by kernel_rfl
  have h3 : vzero Tryz.prog 3 = some #[.int .i64 0] := by kernel_rfl
  simp only [leafL_cons, leafL_nil, Bool.and_true, Bool.and_eq_true] at h
  simp [vbuildSlice, Tryz.underlying22, h2, h3, vfill, vcells1, h, overwrite, vzeros, List.range_succ]
theorem bs22_3 {a0 a1 a2 : VV} (h : leafL [a0, a1, a2] = true) : vbuildSlice Tryz.prog 22 3 [(0, a0), (1, a1), (2, a2)] = some ([a0, a1, a2], 1) := by
  have h2 : szT Tryz.prog 3 = some 1 := by kernel_rfl
  have h3 : vzero Tryz.prog 3 = some #[.int .i64 0] := by kernel_rfl
  simp only [leafL_cons, leafL_nil, Bool.and_true, Bool.and_eq_true] at h
  simp [vbuildSlice, Tryz.underlying22, h2, h3, vfill, vcells1, h, overwrite, vzeros, List.range_succ]
theorem ix22 {H : Nat → Option VObj} {xs : List Int} {x : Int} {f : Bool} {k : IntKind} {i : Int} (h : getI xs i = some x) : vindexAddr Tryz.prog H 22 (.sl (cellsL eI xs) xs.length f) (.lit (.int k i)) = some (.tp (eI x ++ cellsL eI (xs.drop (i.toNat + 1)))) :=
  ixG Tryz.underlying22 (by kernel_rfl : szT Tryz.prog 3 = some 1) (by decide) (fun _ => rfl) h
theorem ld23 {c : VV} {cs : List VV} : vload Tryz.prog 23 (c :: cs) = some c := by
  have h1 : aggT Tryz.prog 23 = some false := by kernel_rfl
  simp [vload, vpart, h1]
theorem sz23 : szT Tryz.prog 23 = some 1 := by kernel_rfl
theorem len23 {H : Nat → Option VObj} {cs : List VV} {n : Nat} {f : Bool} : vlen Tryz.prog H 23 (.sl cs n f) = some (.lit (.int .i64 n)) := by simp [vlen, Tryz.underlying23, sls]
theorem lenN23 {H : Nat → Option VObj} : vlen Tryz.prog H 23 (.lit (.slice none 0 0)) = some (.lit (.int .i64 0)) := by simp [vlen, Tryz.underlying23, sls]
theorem lenR23 {H : Nat → Option VObj} {β off n w c : Nat} : vlen Tryz.prog H 23 (.ref β off n w c) = (match H β with | some (.cells _ cs) => if off ≤ cs.length then some (.lit (.int .i64 n)) else none | _ => none) := lenR Tryz.underlying23
theorem et23 : elemT Tryz.prog 23 = some 106 := by simp [elemT, Tryz.underlying23]
theorem ao23 : appOk Tryz.prog 23 = some (106, 4, 32) := by kernel_rfl
theorem tk23 {xs : List GLetterPair} : (cellsL cGLetterPair xs).take (xs.length * 4) = cellsL cGLetterPair xs := take_cells (fun _ => rfl)
theorem lf23 : ∀ x : GLetterPair, leafL (cGLetterPair x) = true := fun x => by simp only [eI_eq, eU8_eq, eB_eq, eS_eq, eSl_eq, cGLetterPair_eq, leafL_nil, leafL_cons, leaf_int, leaf_bool, leaf_string, leaf_slice, leaf_sl, Bool.and_self]
theorem ixo23 {xs : List GLetterPair} {x : GLetterPair} {i : Int} (h : getI xs i = some x) : (∀ (H : Nat → Option VObj) (β c : Nat) (k : IntKind), vindexAddr Tryz.prog H 23 (.ref β 0 xs.length 4 c) (.lit (.int k i)) = if (H β).isSome = true then some (.ptr β (i.toNat * 4)) else none) ∧ (cellsL cGLetterPair xs).drop (i.toNat * 4) = cGLetterPair x ++ cellsL cGLetterPair (xs.drop (i.toNat + 1)) ∧ (i.toNat * 4 ≤ (cellsL cGLetterPair xs).length) = True := ixO Tryz.underlying23 (by kernel_rfl : szT Tryz.prog 106 = some 4) (fun _ => rfl) h
theorem bs23_1 {c0 c1 c2 c3 : VV} (h : leafL [c0, c1, c2, c3] = true) : vbuildSlice Tryz.prog 23 1 [(0, .agg [c0, c1, c2, c3])] = some ([c0, c1, c2, c3], 4) := by
  have h2 : szT Tryz.prog 106 = some 4 := by kernel_rfl
  have h3 : vzero Tryz.prog 106 = some #[.int .i64 0, .int .i64 0, .int .i64 0, .int .i64 0] := by kernel_rfl
  simp only [leafL_cons, leafL_nil, Bool.and_true, Bool.and_eq_true] at h
  simp [vbuildSlice, Tryz.underlying23, h2, h3, vfill, vcells, h, overwrite, vzeros]
theorem ix23 {H : Nat → Option VObj} {xs : List GLetterPair} {x : GLetterPair} {f : Bool} {k : IntKind} {i : Int} (h : getI xs i = some x) : vindexAddr Tryz.prog H 23 (.sl (cellsL cGLetterPair xs) xs.length f) (.lit (.int k i)) = some (.tp (cGLetterPair x ++ cellsL cGLetterPair (xs.drop (i.toNat + 1)))) :=
  ixG Tryz.underlying23 (by kernel_rfl : szT Tryz.prog 106 = some 4) (by decide) (fun _ => rfl) h
theorem ld25 {c0 c1 : VV} {cs : List VV} : vload Tryz.prog 25 (c0 :: c1 :: cs) = some (.agg [c0, c1]) := by
  have h1 : aggT Tryz.prog 25 = some true := by kernel_rfl
  have h2 : szT Tryz.prog 25 = some 2 := by kernel_rfl
  simp [vload, vpart, h1, h2]
theorem sz25 : szT Tryz.prog 25 = some 2 := by kernel_rfl
theorem vzl25 : vzl Tryz.prog 25 = some [.lit (.int .i64 0), .lit (.int .i64 0)] := by kernel_rfl
theorem fa25_0 {H : Nat → Option VObj} {cs : List VV} : vfieldAddr Tryz.prog H 25 (.tp cs) 0 = some (.tp (cs.drop 0)) := by
  have h2 : szT Tryz.prog 3 = some 1 := by kernel_rfl
  simp [vfieldAddr, Tryz.underlying25, h2]
theorem fp25_0 {H : Nat → Option VObj} {β o : Nat} : vfieldAddr Tryz.prog H 25 (.ptr β o) 0 = if (H β).isSome = true then some (.ptr β (o + 0)) else none := by
  have h2 : szT Tryz.prog 3 = some 1 := by kernel_rfl
  simp [vfieldAddr, Tryz.underlying25, h2]
theorem fa25_1 {H : Nat → Option VObj} {cs : List VV} : vfieldAddr Tryz.prog H 25 (.tp cs) 1 = some (.tp (cs.drop 1)) := by
  have h2 : szT Tryz.prog 3 = some 1 := by kernel_rfl
  simp [vfieldAddr, Tryz.underlying25, h2]
theorem fp25_1 {H : Nat → Option VObj} {β o : Nat} : vfieldAddr Tryz.prog H 25 (.ptr β o) 1 = if (H β).isSome = true then some (.ptr β (o + 1)) else none := by
  have h2 : szT Tryz.prog 3 = some 1 := by kernel_rfl
  simp [vfieldAddr, Tryz.underlying25, h2]
theorem ld26 {c : VV} {cs : List VV} : vload Tryz.prog 26 (c :: cs) = some c := by
  have h1 : aggT Tryz.prog 26 = some false := by kernel_rfl
  simp [vload, vpart, h1]
theorem sz26 : szT Tryz.prog 26 = some 1 := by kernel_rfl
theorem len26 {H : Nat → Option VObj} {cs : List VV} {n : Nat} {f : Bool} : vlen Tryz.prog H 26 (.sl cs n f) = some (.lit (.int .i64 n)) := by simp [vlen, Tryz.underlying26, sls]
theorem lenN26 {H : Nat → Option VObj} : vlen Tryz.prog H 26 (.lit (.slice none 0 0)) = some (.lit (.int .i64 0)) := by simp [vlen, Tryz.underlying26, sls]
theorem lenR26 {H : Nat → Option VObj} {β off n w c : Nat} : vlen Tryz.prog H 26 (.ref β off n w c) = (match H β with | some (.cells _ cs) => if off ≤ cs.length then some (.lit (.int .i64 n)) else none | _ => none) := lenR Tryz.underlying26
theorem et26 : elemT Tryz.prog 26 = some 79 := by simp [elemT, Tryz.underlying26]
theorem ao26 : appOk Tryz.prog 26 = some (79, 3, 56) := by kernel_rfl
theorem tk26 {xs : List GLetterWord} : (cellsL cGLetterWord xs).take (xs.length * 3) = cellsL cGLetterWord xs := take_cells (fun _ => rfl)
theorem lf26 : ∀ x : GLetterWord, leafL (cGLetterWord x) = true := fun x => by simp only [eI_eq, eU8_eq, eB_eq, eS_eq, eSl_eq, cGLetterWord_eq, leafL_nil, leafL_cons, leaf_int, leaf_bool, leaf_string, leaf_slice, leaf_sl, Bool.and_self]
theorem ixo26 {xs : List GLetterWord} {x : GLetterWord} {i : Int} (h : getI xs i = some x) : (∀ (H : Nat → Option VObj) (β c : Nat) (k : IntKind), vindexAddr Tryz.prog H 26 (.ref β 0 xs.length 3 c) (.lit (.int k i)) = if (H β).isSome = true then some (.ptr β (i.toNat * 3)) else none) ∧ (cellsL cGLetterWord xs).drop (i.toNat * 3) = cGLetterWord x ++ cellsL cGLetterWord (xs.drop (i.toNat + 1)) ∧ (i.toNat * 3 ≤ (cellsL cGLetterWord xs).length) = True := ixO Tryz.underlying26 (by kernel_rfl : szT Tryz.prog 79 = some 3) (fun _ => rfl) h
theorem bs26_1 {c0 c1 c2 : VV} (h : leafL [c0, c1, c2] = true) : vbuildSlice Tryz.prog 26 1 [(0, .agg [c0, c1, c2])] = some ([c0, c1, c2], 3) := by
  have h2 : szT Tryz.prog 79 = some 3 := by kernel_rfl
  have h3 : vzero Tryz.prog 79 = some #[.slice none 0 0, .slice none 0 0, .bool false] := by kernel_rfl
  simp only [leafL_cons, leafL_nil, Bool.and_true, Bool.and_eq_true] at h
  simp [vbuildSlice, Tryz.underlying26, h2, h3, vfill, vcells, h, overwrite, vzeros]
theorem ix26 {H : Nat → Option VObj} {xs : List GLetterWord} {x : GLetterWord} {f : Bool} {k : IntKind} {i : Int} (h : getI xs i = some x) : vindexAddr Tryz.prog H 26 (.sl (cellsL cGLetterWord xs) xs.length f) (.lit (.int k i)) = some (.tp (cGLetterWord x ++ cellsL cGLetterWord (xs.drop (i.toNat + 1)))) :=
  ixG Tryz.underlying26 (by kernel_rfl : szT Tryz.prog 79 = some 3) (by decide) (fun _ => rfl) h
theorem ld28 {c0 c1 c2 c3 c4 c5 c6 c7 c8 c9 : VV} {cs : List VV} : vload Tryz.prog 28 (c0 :: c1 :: c2 :: c3 :: c4 :: c5 :: c6 :: c7 :: c8 :: c9 :: cs) = some (.agg [c0, c1, c2, c3, c4, c5, c6, c7, c8, c9]) := by
  have h1 : aggT Tryz.prog 28 = some true := by kernel_rfl
  have h2 : szT Tryz.prog 28 = some 10 := by kernel_rfl
  simp [vload, vpart, h1, h2]
theorem sz28 : szT Tryz.prog 28 = some 10 := by kernel_rfl
theorem vzl28 : vzl Tryz.prog 28 = some [.lit (.slice none 0 0), .lit (.slice none 0 0), .lit (.int .i64 0), .lit (.int .i64 0), .lit (.int .i64 0), .lit (.int .i64 0), .lit (.int .i64 0), .lit (.slice none 0 0), .lit (.int .i64 0), .lit (.int .i64 0)] := by kernel_rfl
theorem fa28_0 {H : Nat → Option VObj} {cs : List VV} : vfieldAddr Tryz.prog H 28 (.tp cs) 0 = some (.tp (cs.drop 0)) := by
  have h2 : szT Tryz.prog 22 = some 1 := by kernel_rfl
  simp [vfieldAddr, Tryz.underlying28, h2]
theorem fp28_0 {H : Nat → Option VObj} {β o : Nat} : vfieldAddr Tryz.prog H 28 (.ptr β o) 0 = if (H β).isSome = true then some (.ptr β (o + 0)) else none := by
  have h2 : szT Tryz.prog 22 = some 1 := by kernel_rfl
  simp [vfieldAddr, Tryz.underlying28, h2]
theorem fa28_1 {H : Nat → Option VObj} {cs : List VV} : vfieldAddr Tryz.prog H 28 (.tp cs) 1 = some (.tp (cs.drop 1)) := by
  have h2 : szT Tryz.prog 23 = some 1 := by kernel_rfl
  simp [vfieldAddr, Tryz.underlying28, h2]
theorem fp28_1 {H : Nat → Option VObj} {β o : Nat} : vfieldAddr Tryz.prog H 28 (.ptr β o) 1 = if (H β).isSome = true then some (.ptr β (o + 1)) else none := by
  have h2 : szT Tryz.prog 23 = some 1 := by kernel_rfl
  simp [vfieldAddr, Tryz.underlying28, h2]
theorem fa28_2 {H : Nat → Option VObj} {cs : List VV} : vfieldAddr Tryz.prog H 28 (.tp cs) 2 = some (.tp (cs.drop 2)) := by
  have h2 : szT Tryz.prog 25 = some 2 := by kernel_rfl
  simp [vfieldAddr, Tryz.underlying28, h2]
theorem fp28_2 {H : Nat → Option VObj} {β o : Nat} : vfieldAddr Tryz.prog H 28 (.ptr β o) 2 = if (H β).isSome = true then some (.ptr β (o + 2)) else none := by
  have h2 : szT Tryz.prog 25 = some 2 := by kernel_rfl
  simp [vfieldAddr, Tryz.underlying28, h2]
theorem fa28_3 {H : Nat → Option VObj} {cs : List VV} : vfieldAddr Tryz.prog H 28 (.tp cs) 3 = some (.tp (cs.drop 4)) := by
  have h2 : szT Tryz.prog 25 = some 2 := by kernel_rfl
  simp [vfieldAddr, Tryz.underlying28, h2]
theorem fp28_3 {H : Nat → Option VObj} {β o : Nat} : vfieldAddr Tryz.prog H 28 (.ptr β o) 3 = if (H β).isSome = true then some (.ptr β (o + 4)) else none := by
  have h2 : szT Tryz.prog 25 = some 2 := by kernel_rfl
  simp [vfieldAddr, Tryz.underlying28, h2]
theorem fa28_4 {H : Nat → Option VObj} {cs : List VV} : vfieldAddr Tryz.prog H 28 (.tp cs) 4 = some (.tp (cs.drop 6)) := by
  have h2 : szT Tryz.prog 3 = some 1 := by kernel_rfl
  simp [vfieldAddr, Tryz.underlying28, h2]
theorem fp28_4 {H : Nat → Option VObj} {β o : Nat} : vfieldAddr Tryz.prog H 28 (.ptr β o) 4 = if (H β).isSome = true then some (.ptr β (o + 6)) else none := by
  have h2 : szT Tryz.prog 3 = some 1 := by kernel_rfl
  simp [vfieldAddr, Tryz.underlying28, h2]
theorem fa28_5 {H : Nat → Option VObj} {cs : List VV} : vfieldAddr Tryz.prog H 28 (.tp cs) 5 = some (.tp (cs.drop 7)) := by
  have h2 : szT Tryz.prog 26 = some 1 := by kernel_rfl
  simp [vfieldAddr, Tryz.underlying28, h2]
theorem fp28_5 {H : Nat → Option VObj} {β o : Nat} : vfieldAddr Tryz.prog H 28 (.ptr β o) 5 = if (H β).isSome = true then some (.ptr β (o + 7)) else none := by
  have h2 : szT Tryz.prog 26 = some 1 := by kernel_rfl
  simp [vfieldAddr, Tryz.underlying28, h2]
theorem fa28_6 {H : Nat → Option VObj} {cs : List VV} : vfieldAddr Tryz.prog H 28 (.tp cs) 6 = some (.tp (cs.drop 8)) := by
  have h2 : szT Tryz.prog 3 = some 1 := by kernel_rfl
  simp [vfieldAddr, Tryz.underlying28, h2]
theorem fp28_6 {H : Nat → Option VObj} {β o : Nat} : vfieldAddr Tryz.prog H 28 (.ptr β o) 6 = if (H β).isSome = true then some (.ptr β (o + 8)) else none := by
  have h2 : szT Tryz.prog 3 = some 1 := by kernel_rfl
  simp [vfieldAddr, Tryz.underlying28, h2]
theorem fa28_7 {H : Nat → Option VObj} {cs : List VV} : vfieldAddr Tryz.prog H 28 (.tp cs) 7 = some (.tp (cs.drop 9)) := by
  have h2 : szT Tryz.prog 3 = some 1 := by kernel_rfl
  simp [vfieldAddr, Tryz.underlying28, h2]
theorem fp28_7 {H : Nat → Option VObj} {β o : Nat} : vfieldAddr Tryz.prog H 28 (.ptr β o) 7 = if (H β).isSome = true then some (.ptr β (o + 9)) else none := by
  have h2 : szT Tryz.prog 3 = some 1 := by kernel_rfl
  simp [vfieldAddr, Tryz.underlying28, h2]
theorem ld35 {c : VV} {cs : List VV} : vload Tryz.prog 35 (c :: cs) = some c := by
  have h1 : aggT Tryz.prog 35 = some false := by kernel_rfl
  simp [vload, vpart, h1]
theorem sz35 : szT Tryz.prog 35 = some 1 := by kernel_rfl
theorem ld44 {c : VV} {cs : List VV} : vload Tryz.prog 44 (c :: cs) = some c := by
  have h1 : aggT Tryz.prog 44 = some false := by kernel_rfl
  simp [vload, vpart, h1]
theorem sz44 : szT Tryz.prog 44 = some 1 := by kernel_rfl
theorem len44 {H : Nat → Option VObj} {cs : List VV} {n : Nat} {f : Bool} : vlen Tryz.prog H 44 (.sl cs n f) = some (.lit (.int .i64 n)) := by simp [vlen, Tryz.underlying44, sls]
theorem lenN44 {H : Nat → Option VObj} : vlen Tryz.prog H 44 (.lit (.slice none 0 0)) = some (.lit (.int .i64 0)) := by simp [vlen, Tryz.underlying44, sls]
theorem lenR44 {H : Nat → Option VObj} {β off n w c : Nat} : vlen Tryz.prog H 44 (.ref β off n w c) = (match H β with | some (.cells _ cs) => if off ≤ cs.length then some (.lit (.int .i64 n)) else none | _ => none) := lenR Tryz.underlying44
theorem et44 : elemT Tryz.prog 44 = some 22 := by simp [elemT, Tryz.underlying44]
theorem ao44 : appOk Tryz.prog 44 = some (22, 1, 24) := by kernel_rfl
theorem tk44 {xs : List (List Int)} : (cellsL (eSl eI) xs).take (xs.length * 1) = cellsL (eSl eI) xs := take_cells (fun _ => rfl)
theorem lf44 : ∀ x : (List Int), leafL ((eSl eI) x) = true := fun x => by simp only [eI_eq, eU8_eq, eB_eq, eS_eq, eSl_eq, leafL_nil, leafL_cons, leaf_int, leaf_bool, leaf_string, leaf_slice, leaf_sl, Bool.and_self]
theorem ixo44 {xs : List (List Int)} {x : (List Int)} {i : Int} (h : getI xs i = some x) : (∀ (H : Nat → Option VObj) (β c : Nat) (k : IntKind), vindexAddr Tryz.prog H 44 (.ref β 0 xs.length 1 c) (.lit (.int k i)) = if (H β).isSome = true then some (.ptr β (i.toNat * 1)) else none) ∧ (cellsL (eSl eI) xs).drop (i.toNat * 1) = (eSl eI) x ++ cellsL (eSl eI) (xs.drop (i.toNat + 1)) ∧ (i.toNat * 1 ≤ (cellsL (eSl eI) xs).length) = True := ixO Tryz.underlying44 (by kernel_rfl : szT Tryz.prog 22 = some 1) (fun _ => rfl) h
theorem bs44_1 {a0 : VV} (h : leafL [a0] = true) : vbuildSlice Tryz.prog 44 1 [(0, a0)] = some ([a0], 1) := by
  have h2 : szT Tryz.prog 22 = some 1 := by kernel_rfl
  have h3 : vzero Tryz.prog 22 = some #[.slice none 0 0] := by kernel_rfl
  simp only [leafL_cons, leafL_nil, Bool.and_true, Bool.and_eq_true] at h
  simp [vbuildSlice, Tryz.underlying44, h2, h3, vfill, vcells1, h, overwrite, vzeros, List.range_succ]
theorem bs44_2 {a0 a1 : VV} (h : leafL [a0, a1] = true) : vbuildSlice Tryz.prog 44 2 [(0, a0), (1, a1)] = some ([a0, a1], 1) := by
  have h2 : szT Tryz.prog 22 = some 1 := by kernel_rfl
  have h3 : vzero Tryz.prog 22 = some #[.slice none 0 0] := by kernel_rfl
  simp only [leafL_cons, leafL_nil, Bool.and_true, Bool.and_eq_true] at h
  simp [vbuildSlice, Tryz.underlying44, h2, h3, vfill, vcells1, h, overwrite, vzeros, List.range_succ]
theorem bs44_3 {a0 a1 a2 : VV} (h : leafL [a0, a1, a2] = true) : vbuildSlice Tryz.prog 44 3 [(0, a0), (1, a1), (2, a2)] = some ([a0, a1, a2], 1) := by
  have h2 : szT Tryz.prog 22 = some 1 := by kernel_rfl
  have h3 : vzero Tryz.prog 22 = some #[.slice none 0 0] := by kernel_rfl
  simp only [leafL_cons, leafL_nil, Bool.and_true, Bool.and_eq_true] at h
  simp [vbuildSlice, Tryz.underlying44, h2, h3, vfill, vcells1, h, overwrite, vzeros, List.range_succ]
theorem ix44 {H : Nat → Option VObj} {xs : List (List Int)} {x : (List Int)} {f : Bool} {k : IntKind} {i : Int} (h : getI xs i = some x) : vindexAddr Tryz.prog H 44 (.sl (cellsL (eSl eI) xs) xs.length f) (.lit (.int k i)) = some (.tp ((eSl eI) x ++ cellsL (eSl eI) (xs.drop (i.toNat + 1)))) :=
  ixG Tryz.underlying44 (by kernel_rfl : szT Tryz.prog 22 = some 1) (by decide) (fun _ => rfl) h
theorem ld79 {c0 c1 c2 : VV} {cs : List VV} : vload Tryz.prog 79 (c0 :: c1 :: c2 :: cs) = some (.agg [c0, c1, c2]) := by
  have h1 : aggT Tryz.prog 79 = some true := by kernel_rfl
  have h2 : szT Tryz.prog 79 = some 3 := by kernel_rfl
  simp [vload, vpart, h1, h2]
theorem sz79 : szT Tryz.prog 79 = some 3 := by kernel_rfl
theorem vzl79 : vzl Tryz.prog 79 = some [.lit (.slice none 0 0), .lit (.slice none 0 0), .lit (.bool false)] := by kernel_rfl
theorem fa79_0 {H : Nat → Option VObj} {cs : List VV} : vfieldAddr Tryz.prog H 79 (.tp cs) 0 = some (.tp (cs.drop 0)) := by
  have h2 : szT Tryz.prog 22 = some 1 := by kernel_rfl
  simp [vfieldAddr, Tryz.underlying79, h2]
theorem fp79_0 {H : Nat → Option VObj} {β o : Nat} : vfieldAddr Tryz.prog H 79 (.ptr β o) 0 = if (H β).isSome = true then some (.ptr β (o + 0)) else none := by
  have h2 : szT Tryz.prog 22 = some 1 := by kernel_rfl
  simp [vfieldAddr, Tryz.underlying79, h2]
theorem fa79_1 {H : Nat → Option VObj} {cs : List VV} : vfieldAddr Tryz.prog H 79 (.tp cs) 1 = some (.tp (cs.drop 1)) := by
  have h2 : szT Tryz.prog 22 = some 1 := by kernel_rfl
  simp [vfieldAddr, Tryz.underlying79, h2]
theorem fp79_1 {H : Nat → Option VObj} {β o : Nat} : vfieldAddr Tryz.prog H 79 (.ptr β o) 1 = if (H β).isSome = true then some (.ptr β (o + 1)) else none := by
  have h2 : szT Tryz.prog 22 = some 1 := by kernel_rfl
  simp [vfieldAddr, Tryz.underlying79, h2]
theorem fa79_2 {H : Nat → Option VObj} {cs : List VV} : vfieldAddr Tryz.prog H 79 (.tp cs) 2 = some (.tp (cs.drop 2)) := by
  have h2 : szT Tryz.prog 4 = some 1 := by kernel_rfl
  simp [vfieldAddr, Tryz.underlying79, h2]
theorem fp79_2 {H : Nat → Option VObj} {β o : Nat} : vfieldAddr Tryz.prog H 79 (.ptr β o) 2 = if (H β).isSome = true then some (.ptr β (o + 2)) else none := by
  have h2 : szT Tryz.prog 4 = some 1 := by kernel_rfl
  simp [vfieldAddr, Tryz.underlying79, h2]
theorem ld106 {c0 c1 c2 c3 : VV} {cs : List VV} : vload Tryz.prog 106 (c0 :: c1 :: c2 :: c3 :: cs) = some (.agg [c0, c1, c2, c3]) := by
  have h1 : aggT Tryz.prog 106 = some true := by kernel_rfl
  have h2 : szT Tryz.prog 106 = some 4 := by kernel_rfl
  simp [vload, vpart, h1, h2]
theorem sz106 : szT Tryz.prog 106 = some 4 := by kernel_rfl
theorem vzl106 : vzl Tryz.prog 106 = some [.lit (.int .i64 0), .lit (.int .i64 0), .lit (.int .i64 0), .lit (.int .i64 0)] := by kernel_rfl
theorem fa106_0 {H : Nat → Option VObj} {cs : List VV} : vfieldAddr Tryz.prog H 106 (.tp cs) 0 = some (.tp (cs.drop 0)) := by
  have h2 : szT Tryz.prog 3 = some 1 := by kernel_rfl
  simp [vfieldAddr, Tryz.underlying106, h2]
theorem fp106_0 {H : Nat → Option VObj} {β o : Nat} : vfieldAddr Tryz.prog H 106 (.ptr β o) 0 = if (H β).isSome = true then some (.ptr β (o + 0)) else none := by
  have h2 : szT Tryz.prog 3 = some 1 := by kernel_rfl
  simp [vfieldAddr, Tryz.underlying106, h2]
theorem fa106_1 {H : Nat → Option VObj} {cs : List VV} : vfieldAddr Tryz.prog H 106 (.tp cs) 1 = some (.tp (cs.drop 1)) := by
  have h2 : szT Tryz.prog 3 = some 1 := by kernel_rfl
  simp [vfieldAddr, Tryz.underlying106, h2]
theorem fp106_1 {H : Nat → Option VObj} {β o : Nat} : vfieldAddr Tryz.prog H 106 (.ptr β o) 1 = if (H β).isSome = true then some (.ptr β (o + 1)) else none := by
  have h2 : szT Tryz.prog 3 = some 1 := by kernel_rfl
  simp [vfieldAddr, Tryz.underlying106, h2]
theorem fa106_2 {H : Nat → Option VObj} {cs : List VV} : vfieldAddr Tryz.prog H 106 (.tp cs) 2 = some (.tp (cs.drop 2)) := by
  have h2 : szT Tryz.prog 25 = some 2 := by kernel_rfl
  simp [vfieldAddr, Tryz.underlying106, h2]
theorem fp106_2 {H : Nat → Option VObj} {β o : Nat} : vfieldAddr Tryz.prog H 106 (.ptr β o) 2 = if (H β).isSome = true then some (.ptr β (o + 2)) else none := by
  have h2 : szT Tryz.prog 25 = some 2 := by kernel_rfl
  simp [vfieldAddr, Tryz.underlying106, h2]
theorem ld146 {c : VV} {cs : List VV} : vload Tryz.prog 146 (c :: cs) = some c := by
  have h1 : aggT Tryz.prog 146 = some false := by kernel_rfl
  simp [vload, vpart, h1]
theorem sz146 : szT Tryz.prog 146 = some 1 := by kernel_rfl
def tyf := (And.intro (And.intro (And.intro (And.intro (And.intro (And.intro @cGSpan_eq (And.intro @cGLetterPair_eq @cGLetterWord_eq)) (And.intro @cGLetterSheet_eq (And.intro @ld2 @sz2))) (And.intro (And.intro @ld3 (And.intro @sz3 @ld4)) (And.intro @sz4 (And.intro @ld22 @sz22)))) (And.intro (And.intro (And.intro @len22 (And.intro @lenN22 @lenR22)) (And.intro @et22 (And.intro @tk22 @bs22_1))) (And.intro (And.intro @bs22_2 (And.intro @bs22_3 @ld23)) (And.intro @sz23 (And.intro @len23 @lenN23))))) (And.intro (And.intro (And.intro (And.intro @lenR23 (And.intro @et23 @tk23)) (And.intro @bs23_1 (And.intro @ld25 @sz25))) (And.intro (And.intro @vzl25 (And.intro @fa25_0 @fp25_0)) (And.intro @fa25_1 (And.intro @fp25_1 @ld26)))) (And.intro (And.intro (And.intro @sz26 (And.intro @len26 @lenN26)) (And.intro @lenR26 (And.intro @et26 @tk26))) (And.intro (And.intro @bs26_1 (And.intro @ld28 @sz28)) (And.intro (And.intro @vzl28 @fa28_0) (And.intro @fp28_0 @fa28_1)))))) (And.intro (And.intro (And.intro (And.intro (And.intro @fp28_1 (And.intro @fa28_2 @fp28_2)) (And.intro @fa28_3 (And.intro @fp28_3 @fa28_4))) (And.intro (And.intro @fp28_4 (And.intro @fa28_5 @fp28_5)) (And.intro @fa28_6 (And.intro @fp28_6 @fa28_7)))) (And.intro (And.intro (And.intro @fp28_7 (And.intro @ld35 @sz35)) (And.intro @ld44 (And.intro @sz44 @len44))) (And.intro (And.intro @lenN44 (And.intro @lenR44 @et44)) (And.intro (And.intro @tk44 @bs44_1) (And.intro @bs44_2 @bs44_3))))) (And.intro (And.intro (And.intro (And.intro @ld79 (And.intro @sz79 @vzl79)) (And.intro @fa79_0 (And.intro @fp79_0 @fa79_1))) (And.intro (And.intro @fp79_1 (And.intro @fa79_2 @fp79_2)) (And.intro @ld106 (And.intro @sz106 @vzl106)))) (And.intro (And.intro (And.intro @fa106_0 (And.intro @fp106_0 @fa106_1)) (And.intro @fp106_1 (And.intro @fa106_2 @fp106_2))) (And.intro (And.intro @ld146 (And.intro @sz146 @eI_eq)) (And.intro (And.intro @eU8_eq @eB_eq) (And.intro @eS_eq @eSl_eq)))))))
def tynrm := (And.intro (And.intro (And.intro (And.intro @cGSpan_ok.norm @cGSpan_ok.normL) (And.intro @cGSpan_ok.shown (And.intro @cGSpan_ok.showL @cGLetterPair_ok.norm))) (And.intro (And.intro @cGLetterPair_ok.normL @cGLetterPair_ok.shown) (And.intro @cGLetterPair_ok.showL (And.intro @cGLetterWord_ok.norm @cGLetterWord_ok.normL)))) (And.intro (And.intro (And.intro @cGLetterWord_ok.shown @cGLetterWord_ok.showL) (And.intro @cGLetterSheet_ok.norm (And.intro @cGLetterSheet_ok.normL @cGLetterSheet_ok.shown))) (And.intro (And.intro @cGLetterSheet_ok.showL @sl44_ok.norm) (And.intro @sl44_ok.normL (And.intro @sl44_ok.shown @sl44_ok.showL)))))
def tytre := (And.intro (And.intro (And.intro @cGSpan_ok.tree @cGSpan_ok.treeL) (And.intro @cGLetterPair_ok.tree (And.intro @cGLetterPair_ok.treeL @cGLetterWord_ok.tree))) (And.intro (And.intro @cGLetterWord_ok.treeL @cGLetterSheet_ok.tree) (And.intro @cGLetterSheet_ok.treeL (And.intro @sl44_ok.tree @sl44_ok.treeL))))
end Go.V
end
section
/- A law's arguments: trees of their types are things. -/
set_option linter.unusedVariables false
namespace Go.V
open Go
/-- What holds a thing of a type. -/
def Dec (P : Program) (n : Nat) (t : TypeId) {α : Type} (enc : α → List VV) (R : α → Prop) : Prop := ∀ xs, ShapeT P n t xs → ∃ x : α, R x ∧ normL xs = enc x
theorem dec_int {P : Program} {n : Nat} {t : TypeId} (hu : P.underlying t = some (.int .i64)) : Dec P (n + 1) t eI (fun _ => True) := by
  intro xs h
  simp only [ShapeT, hu] at h
  obtain ⟨i, _, rfl⟩ := h
  exact ⟨i, trivial, by simp only [normL_cons, normL_nil, normV_int, eI]⟩
theorem dec_intR {P : Program} {n : Nat} {t : TypeId} (hu : P.underlying t = some (.int .i64)) : Dec P (n + 1) t eI (fun i => (Lit.int .i64 i).wf = true) := by
  intro xs h
  simp only [ShapeT, hu] at h
  obtain ⟨i, hi, rfl⟩ := h
  exact ⟨i, hi, by simp only [normL_cons, normL_nil, normV_int, eI]⟩
theorem dec_u8 {P : Program} {n : Nat} {t : TypeId} (hu : P.underlying t = some (.int .u8)) : Dec P (n + 1) t eU8 (fun _ => True) := by
  intro xs h
  simp only [ShapeT, hu] at h
  obtain ⟨i, _, rfl⟩ := h
  exact ⟨i, trivial, by simp only [normL_cons, normL_nil, normV_int, eU8]⟩
theorem dec_bool {P : Program} {n : Nat} {t : TypeId} (hu : P.underlying t = some .bool) : Dec P (n + 1) t eB (fun _ => True) := by
  intro xs h
  simp only [ShapeT, hu] at h
  obtain ⟨b, rfl⟩ := h
  exact ⟨b, trivial, by simp only [normL_cons, normL_nil, normV_bool, eB]⟩
theorem dec_string {P : Program} {n : Nat} {t : TypeId} (hu : P.underlying t = some .string) : Dec P (n + 1) t eS (fun s => s.size ≤ maxLen) := by
  intro xs h
  simp only [ShapeT, hu] at h
  obtain ⟨b, hb, rfl⟩ := h
  exact ⟨b, hb, by simp only [normL_cons, normL_nil, normV_string, eS]⟩
theorem dec_list {P : Program} {n : Nat} {t : TypeId} {α : Type} {enc : α → List VV} {R : α → Prop} (h : Dec P n t enc R) : ∀ yss : List (List VV), (∀ ys ∈ yss, ShapeT P n t ys) → ∃ l : List α, l.length = yss.length ∧ (∀ x ∈ l, R x) ∧ normL yss.flatten = cellsL enc l
  | [], _ => ⟨[], rfl, fun _ hx => (by cases hx), rfl⟩
  | ys :: yss, hs => by
    obtain ⟨x, hx, e⟩ := h ys (hs ys (List.mem_cons_self ..))
    obtain ⟨l, h1, h2, h3⟩ := dec_list h yss (fun y hy => hs y (List.mem_cons_of_mem _ hy))
    refine ⟨x :: l, by simp [h1], fun y hy => ?_, by rw [List.flatten_cons, normL_append, e, h3, cellsL_cons]⟩
    rcases List.mem_cons.1 hy with rfl | hy
    · exact hx
    · exact h2 y hy
theorem dec_slice {P : Program} {n : Nat} {t e : TypeId} {α : Type} {enc : α → List VV} {R : α → Prop} (hu : P.underlying t = some (.slice e)) (h : Dec P n e enc R) : Dec P (n + 1) t (fun l : List α => [.sl (cellsL enc l) l.length false]) (fun l => lenOk l = true ∧ ∀ x ∈ l, R x) := by
  intro xs hs
  simp only [ShapeT, hu] at hs
  rcases hs with rfl | ⟨yss, hl, hall, rfl⟩
  · exact ⟨[], ⟨rfl, fun _ hx => (by cases hx)⟩, by simp only [normL_cons, normL_nil, normV_nil]; rfl⟩
  · obtain ⟨l, h1, h2, h3⟩ := dec_list h yss hall
    refine ⟨l, ⟨?_, h2⟩, by simp only [normL_cons, normL_nil, normV_sl, h3, h1]⟩
    have : maxLen = 9223372036854775807 := by decide
    unfold lenOk
    exact decide_eq_true (by omega)
theorem dec_fields {P : Program} {n : Nat} {t : TypeId} {fs : Array Field} {xs : List VV} (hu : P.underlying t = some (.struct fs)) (h : ShapeT P (n + 1) t xs) : ∃ yss, FieldsS (ShapeT P n) fs.toList yss ∧ xs = yss.flatten := by
  simp only [ShapeT, hu] at h
  exact h
def TypesS (S : TypeId → List VV → Prop) : List TypeId → List (List VV) → Prop
  | [], [] => True
  | t :: ts, ys :: yss => S t ys ∧ TypesS S ts yss
  | _, _ => False
theorem types_of {S : TypeId → List VV → Prop} : ∀ (fs : List Field) (yss : List (List VV)), FieldsS S fs yss → TypesS S (fs.map Field.type) yss
  | [], [], _ => trivial
  | f :: fs, ys :: yss, ⟨h1, h2⟩ => ⟨h1, types_of fs yss h2⟩
  | [], _ :: _, h => h
  | _ :: _, [], h => h
theorem dec_struct {P : Program} {n : Nat} {t : TypeId} {fs : Array Field} {ts : List TypeId} {xs : List VV} (hu : P.underlying t = some (.struct fs)) (ht : fs.toList.map Field.type = ts) (h : ShapeT P (n + 1) t xs) : ∃ yss, TypesS (ShapeT P n) ts yss ∧ xs = yss.flatten := by
  obtain ⟨yss, h1, h2⟩ := dec_fields hu h
  exact ⟨yss, ht ▸ types_of _ _ h1, h2⟩
theorem argsS_cons {P : Program} {n : Nat} {t : TypeId} {ts : List TypeId} {xs : List VV} (h : ArgsS P n (t :: ts) xs) : ∃ x xs', xs = x :: xs' ∧ ArgS P n t x ∧ ArgsS P n ts xs' := by
  match xs, h with
  | x :: xs', h => exact ⟨x, xs', rfl, h.1, h.2⟩
theorem argsS_nil {P : Program} {n : Nat} {xs : List VV} (h : ArgsS P n [] xs) : xs = [] := by
  match xs, h with
  | [], _ => rfl
theorem arg_struct {P : Program} {n : Nat} {t : TypeId} {fs : Array Field} {x : VV} {α : Type} {enc : α → List VV} {R : α → Prop} (hu : P.underlying t = some (.struct fs)) (hd : Dec P n t enc R) (h : ArgS P n t x) : ∃ s, R s ∧ normV x = .agg (enc s) := by
  obtain ⟨ys, h1, h2⟩ := h
  rw [hu] at h2
  obtain rfl : x = .agg ys := h2
  obtain ⟨s, hs, e⟩ := hd ys h1
  exact ⟨s, hs, by rw [normV_agg, e]⟩
theorem arg_cell {P : Program} {n : Nat} {t : TypeId} {d : TypeDesc} {x : VV} {α : Type} {enc : α → List VV} {R : α → Prop} (hu : P.underlying t = some d) (hn : ∀ fs, d ≠ .struct fs) (hd : Dec P n t enc R) (h : ArgS P n t x) : ∃ s, R s ∧ [normV x] = enc s := by
  obtain ⟨ys, h1, h2⟩ := h
  rw [hu] at h2
  have h3 : ys = [x] := by
    cases d <;> first | exact h2 | exact absurd rfl (hn _)
  subst h3
  obtain ⟨s, hs, e⟩ := hd _ h1
  exact ⟨s, hs, by rw [← e, normL_cons, normL_nil]⟩
end Go.V
end
section
/- The arguments of the laws. -/
set_option linter.unusedSimpArgs false
set_option linter.unusedVariables false
set_option maxRecDepth 100000
namespace Go.V
open Go Go.Proofs
def Ok_GLetterWord (x : GLetterWord) : Prop := lenOk x.Signs = true ∧ lenOk x.Cuts = true
def Ok_GLetterSheet (x : GLetterSheet) : Prop := lenOk x.Widths = true ∧ lenOk x.Pairs = true ∧ lenOk x.Words = true ∧ ∀ y ∈ x.Words, Ok_GLetterWord y
section
variable {P : Program} (hu3 : P.underlying 3 = some (.int .i64)) (hu22 : P.underlying 22 = some (.slice 3)) {f25 : Array Field} (hu25 : P.underlying 25 = some (.struct f25)) (ht25 : f25.toList.map Field.type = [3, 3]) {f106 : Array Field} (hu106 : P.underlying 106 = some (.struct f106)) (ht106 : f106.toList.map Field.type = [3, 3, 25]) (hu23 : P.underlying 23 = some (.slice 106)) (hu4 : P.underlying 4 = some (.bool)) {f79 : Array Field} (hu79 : P.underlying 79 = some (.struct f79)) (ht79 : f79.toList.map Field.type = [22, 22, 4]) (hu26 : P.underlying 26 = some (.slice 79)) {f28 : Array Field} (hu28 : P.underlying 28 = some (.struct f28)) (ht28 : f28.toList.map Field.type = [22, 23, 25, 25, 3, 26, 3, 3])
include hu3 hu22 hu25 ht25 hu106 ht106 hu23 hu4 hu79 ht79 hu26 hu28 ht28
theorem gd_3 {n : Nat} : Dec P (n + 1) 3 eI (fun _ => True) := dec_int hu3
theorem gd_22 {n : Nat} : Dec P (n + 2) 22 (eSl eI) (fun l => lenOk l = true ∧ ∀ x ∈ l, True) := dec_slice hu22 (gd_3 hu3 hu22 hu25 ht25 hu106 ht106 hu23 hu4 hu79 ht79 hu26 hu28 ht28 (n := n))
theorem gd_25 {n : Nat} : Dec P (n + 2) 25 cGSpan (fun _ => True) := by
  intro xs h
  obtain ⟨yss, hf, rfl⟩ := dec_struct (n := n + 1) (ts := [3, 3]) hu25 ht25 h
  match yss, hf with
  | [y0, y1], ⟨h0, h1, _⟩ =>
    obtain ⟨x0, r0, e0⟩ := gd_3 hu3 hu22 hu25 ht25 hu106 ht106 hu23 hu4 hu79 ht79 hu26 hu28 ht28 (n := n + 0) _ h0
    obtain ⟨x1, r1, e1⟩ := gd_3 hu3 hu22 hu25 ht25 hu106 ht106 hu23 hu4 hu79 ht79 hu26 hu28 ht28 (n := n + 0) _ h1
    exact ⟨⟨x0, x1⟩, trivial, by simp only [List.flatten_cons, List.flatten_nil, List.append_nil, normL_append, e0, e1, eI, eU8, eB, eS, eSl, cGSpan_eq, List.cons_append, List.nil_append]⟩
theorem gd_106 {n : Nat} : Dec P (n + 3) 106 cGLetterPair (fun _ => True) := by
  intro xs h
  obtain ⟨yss, hf, rfl⟩ := dec_struct (n := n + 2) (ts := [3, 3, 25]) hu106 ht106 h
  match yss, hf with
  | [y0, y1, y2], ⟨h0, h1, h2, _⟩ =>
    obtain ⟨x0, r0, e0⟩ := gd_3 hu3 hu22 hu25 ht25 hu106 ht106 hu23 hu4 hu79 ht79 hu26 hu28 ht28 (n := n + 1) _ h0
    obtain ⟨x1, r1, e1⟩ := gd_3 hu3 hu22 hu25 ht25 hu106 ht106 hu23 hu4 hu79 ht79 hu26 hu28 ht28 (n := n + 1) _ h1
    obtain ⟨x2, r2, e2⟩ := gd_25 hu3 hu22 hu25 ht25 hu106 ht106 hu23 hu4 hu79 ht79 hu26 hu28 ht28 (n := n + 0) _ h2
    exact ⟨⟨x0, x1, x2⟩, trivial, by simp only [List.flatten_cons, List.flatten_nil, List.append_nil, normL_append, e0, e1, e2, eI, eU8, eB, eS, eSl, cGLetterPair_eq, cGSpan_eq, List.cons_append, List.nil_append]⟩
theorem gd_23 {n : Nat} : Dec P (n + 4) 23 (eSl cGLetterPair) (fun l => lenOk l = true ∧ ∀ x ∈ l, True) := dec_slice hu23 (gd_106 hu3 hu22 hu25 ht25 hu106 ht106 hu23 hu4 hu79 ht79 hu26 hu28 ht28 (n := n))
theorem gd_4 {n : Nat} : Dec P (n + 1) 4 eB (fun _ => True) := dec_bool hu4
theorem gd_79 {n : Nat} : Dec P (n + 3) 79 cGLetterWord (Ok_GLetterWord) := by
  intro xs h
  obtain ⟨yss, hf, rfl⟩ := dec_struct (n := n + 2) (ts := [22, 22, 4]) hu79 ht79 h
  match yss, hf with
  | [y0, y1, y2], ⟨h0, h1, h2, _⟩ =>
    obtain ⟨x0, r0, e0⟩ := gd_22 hu3 hu22 hu25 ht25 hu106 ht106 hu23 hu4 hu79 ht79 hu26 hu28 ht28 (n := n + 0) _ h0
    obtain ⟨x1, r1, e1⟩ := gd_22 hu3 hu22 hu25 ht25 hu106 ht106 hu23 hu4 hu79 ht79 hu26 hu28 ht28 (n := n + 0) _ h1
    obtain ⟨x2, r2, e2⟩ := gd_4 hu3 hu22 hu25 ht25 hu106 ht106 hu23 hu4 hu79 ht79 hu26 hu28 ht28 (n := n + 1) _ h2
    exact ⟨⟨x0, x1, x2⟩, ⟨r0.1, r1.1⟩, by simp only [List.flatten_cons, List.flatten_nil, List.append_nil, normL_append, e0, e1, e2, eI, eU8, eB, eS, eSl, cGLetterWord_eq, List.cons_append, List.nil_append]⟩
theorem gd_26 {n : Nat} : Dec P (n + 4) 26 (eSl cGLetterWord) (fun l => lenOk l = true ∧ ∀ x ∈ l, Ok_GLetterWord x) := dec_slice hu26 (gd_79 hu3 hu22 hu25 ht25 hu106 ht106 hu23 hu4 hu79 ht79 hu26 hu28 ht28 (n := n))
theorem gd_28 {n : Nat} : Dec P (n + 5) 28 cGLetterSheet (Ok_GLetterSheet) := by
  intro xs h
  obtain ⟨yss, hf, rfl⟩ := dec_struct (n := n + 4) (ts := [22, 23, 25, 25, 3, 26, 3, 3]) hu28 ht28 h
  match yss, hf with
  | [y0, y1, y2, y3, y4, y5, y6, y7], ⟨h0, h1, h2, h3, h4, h5, h6, h7, _⟩ =>
    obtain ⟨x0, r0, e0⟩ := gd_22 hu3 hu22 hu25 ht25 hu106 ht106 hu23 hu4 hu79 ht79 hu26 hu28 ht28 (n := n + 2) _ h0
    obtain ⟨x1, r1, e1⟩ := gd_23 hu3 hu22 hu25 ht25 hu106 ht106 hu23 hu4 hu79 ht79 hu26 hu28 ht28 (n := n + 0) _ h1
    obtain ⟨x2, r2, e2⟩ := gd_25 hu3 hu22 hu25 ht25 hu106 ht106 hu23 hu4 hu79 ht79 hu26 hu28 ht28 (n := n + 2) _ h2
    obtain ⟨x3, r3, e3⟩ := gd_25 hu3 hu22 hu25 ht25 hu106 ht106 hu23 hu4 hu79 ht79 hu26 hu28 ht28 (n := n + 2) _ h3
    obtain ⟨x4, r4, e4⟩ := gd_3 hu3 hu22 hu25 ht25 hu106 ht106 hu23 hu4 hu79 ht79 hu26 hu28 ht28 (n := n + 3) _ h4
    obtain ⟨x5, r5, e5⟩ := gd_26 hu3 hu22 hu25 ht25 hu106 ht106 hu23 hu4 hu79 ht79 hu26 hu28 ht28 (n := n + 0) _ h5
    obtain ⟨x6, r6, e6⟩ := gd_3 hu3 hu22 hu25 ht25 hu106 ht106 hu23 hu4 hu79 ht79 hu26 hu28 ht28 (n := n + 3) _ h6
    obtain ⟨x7, r7, e7⟩ := gd_3 hu3 hu22 hu25 ht25 hu106 ht106 hu23 hu4 hu79 ht79 hu26 hu28 ht28 (n := n + 3) _ h7
    exact ⟨⟨x0, x1, x2, x3, x4, x5, x6, x7⟩, ⟨r0.1, r1.1, r5.1, r5.2⟩, by simp only [List.flatten_cons, List.flatten_nil, List.append_nil, normL_append, e0, e1, e2, e3, e4, e5, e6, e7, eI, eU8, eB, eS, eSl, cGLetterSheet_eq, cGSpan_eq, List.cons_append, List.nil_append]⟩
end
theorem dec_3 {n : Nat} : Dec Tryz.prog (n + 1) 3 eI (fun _ => True) := gd_3 Tryz.underlying3 Tryz.underlying22 Tryz.underlying25 (by kernel_rfl) Tryz.underlying106 (by kernel_rfl) Tryz.underlying23 Tryz.underlying4 Tryz.underlying79 (by kernel_rfl) Tryz.underlying26 Tryz.underlying28 (by kernel_rfl)
theorem dec_22 {n : Nat} : Dec Tryz.prog (n + 2) 22 (eSl eI) (fun l => lenOk l = true ∧ ∀ x ∈ l, True) := gd_22 Tryz.underlying3 Tryz.underlying22 Tryz.underlying25 (by kernel_rfl) Tryz.underlying106 (by kernel_rfl) Tryz.underlying23 Tryz.underlying4 Tryz.underlying79 (by kernel_rfl) Tryz.underlying26 Tryz.underlying28 (by kernel_rfl)
theorem dec_25 {n : Nat} : Dec Tryz.prog (n + 2) 25 cGSpan (fun _ => True) := gd_25 Tryz.underlying3 Tryz.underlying22 Tryz.underlying25 (by kernel_rfl) Tryz.underlying106 (by kernel_rfl) Tryz.underlying23 Tryz.underlying4 Tryz.underlying79 (by kernel_rfl) Tryz.underlying26 Tryz.underlying28 (by kernel_rfl)
theorem dec_106 {n : Nat} : Dec Tryz.prog (n + 3) 106 cGLetterPair (fun _ => True) := gd_106 Tryz.underlying3 Tryz.underlying22 Tryz.underlying25 (by kernel_rfl) Tryz.underlying106 (by kernel_rfl) Tryz.underlying23 Tryz.underlying4 Tryz.underlying79 (by kernel_rfl) Tryz.underlying26 Tryz.underlying28 (by kernel_rfl)
theorem dec_23 {n : Nat} : Dec Tryz.prog (n + 4) 23 (eSl cGLetterPair) (fun l => lenOk l = true ∧ ∀ x ∈ l, True) := gd_23 Tryz.underlying3 Tryz.underlying22 Tryz.underlying25 (by kernel_rfl) Tryz.underlying106 (by kernel_rfl) Tryz.underlying23 Tryz.underlying4 Tryz.underlying79 (by kernel_rfl) Tryz.underlying26 Tryz.underlying28 (by kernel_rfl)
theorem dec_4 {n : Nat} : Dec Tryz.prog (n + 1) 4 eB (fun _ => True) := gd_4 Tryz.underlying3 Tryz.underlying22 Tryz.underlying25 (by kernel_rfl) Tryz.underlying106 (by kernel_rfl) Tryz.underlying23 Tryz.underlying4 Tryz.underlying79 (by kernel_rfl) Tryz.underlying26 Tryz.underlying28 (by kernel_rfl)
theorem dec_79 {n : Nat} : Dec Tryz.prog (n + 3) 79 cGLetterWord (Ok_GLetterWord) := gd_79 Tryz.underlying3 Tryz.underlying22 Tryz.underlying25 (by kernel_rfl) Tryz.underlying106 (by kernel_rfl) Tryz.underlying23 Tryz.underlying4 Tryz.underlying79 (by kernel_rfl) Tryz.underlying26 Tryz.underlying28 (by kernel_rfl)
theorem dec_26 {n : Nat} : Dec Tryz.prog (n + 4) 26 (eSl cGLetterWord) (fun l => lenOk l = true ∧ ∀ x ∈ l, Ok_GLetterWord x) := gd_26 Tryz.underlying3 Tryz.underlying22 Tryz.underlying25 (by kernel_rfl) Tryz.underlying106 (by kernel_rfl) Tryz.underlying23 Tryz.underlying4 Tryz.underlying79 (by kernel_rfl) Tryz.underlying26 Tryz.underlying28 (by kernel_rfl)
theorem dec_28 {n : Nat} : Dec Tryz.prog (n + 5) 28 cGLetterSheet (Ok_GLetterSheet) := gd_28 Tryz.underlying3 Tryz.underlying22 Tryz.underlying25 (by kernel_rfl) Tryz.underlying106 (by kernel_rfl) Tryz.underlying23 Tryz.underlying4 Tryz.underlying79 (by kernel_rfl) Tryz.underlying26 Tryz.underlying28 (by kernel_rfl)
end Go.V
end
section
namespace Go.V
open Go Go.Proofs
set_option linter.unusedSimpArgs false
set_option linter.unusedVariables false
set_option maxRecDepth 4000
set_option maxHeartbeats 4000000
def g_limits_IsFrom (x0_least : Int) (x1_n : Int) (x2_most : Int) : Option (Bool) := cond (decide (x0_least ≤ x1_n)) (some (decide (x1_n ≤ x2_most))) (some false)
theorem g_limits_IsFrom_ok (x0_least : Int) (x1_n : Int) (x2_most : Int) (R : Bool) (h : g_limits_IsFrom x0_least x1_n x2_most = some R) : VPure Tryz.prog G0 110 [.lit (.int .i64 x0_least), .lit (.int .i64 x1_n), .lit (.int .i64 x2_most)] (.tree (.lit (.bool R))) := by
  refine VPure.runT mixed Tryz.call110 Tryz.func110 rfl (by simp [Tryz.ntmps110]; kernel_rfl) ?_
  obtain ⟨KF, h, kF, kN⟩ := fun_intro h
  simp only [g_limits_IsFrom] at h
  cases d1 : (decide (x0_least ≤ x1_n))
  · simp only [d1, cond_true, cond_false, lbind_go, lbind_ret, lbind_brk, lbind_none, Option.bind_some, Option.bind_none, Bool.not_true, Bool.not_false, reduceCtorEq] at h
    simp only [vs, cwp_label, ng_normal, ng_ret, ng_exit, cr, tyf, d1, implies_true, Nat.reduceAdd, Nat.reduceMul, Nat.reduceEqDiff, Nat.reduceLeDiff, reduceIte, reduceCtorEq]
    obtain rfl := kF _ h
    refine ret1 Tryz.results110 ?_ ?_
    · first | (simp only [outV, upd_apply, updH_apply, without_apply, showV_ref, cr, tyf, nrm, tynrm, d1, implies_true, Nat.reduceAdd, Nat.reduceMul, Nat.reduceEqDiff, Nat.reduceLeDiff, reduceIte, reduceCtorEq]; done) | (simp only [outV, upd_apply, updH_apply, without_apply, showV_ref, cr, tyf, nrm, tynrm, d1, implies_true, Nat.reduceAdd, Nat.reduceMul, Nat.reduceEqDiff, Nat.reduceLeDiff, reduceIte, reduceCtorEq]; rfl)
    · simp only [tre, tytre, Bool.and_self]
  · simp only [d1, cond_true, cond_false, lbind_go, lbind_ret, lbind_brk, lbind_none, Option.bind_some, Option.bind_none, Bool.not_true, Bool.not_false, reduceCtorEq] at h
    simp only [vs, cwp_label, ng_normal, ng_ret, ng_exit, cr, tyf, d1, implies_true, Nat.reduceAdd, Nat.reduceMul, Nat.reduceEqDiff, Nat.reduceLeDiff, reduceIte, reduceCtorEq]
    obtain rfl := kF _ h
    refine ret1 Tryz.results110 ?_ ?_
    · first | (simp only [outV, upd_apply, updH_apply, without_apply, showV_ref, cr, tyf, nrm, tynrm, d1, implies_true, Nat.reduceAdd, Nat.reduceMul, Nat.reduceEqDiff, Nat.reduceLeDiff, reduceIte, reduceCtorEq]; done) | (simp only [outV, upd_apply, updH_apply, without_apply, showV_ref, cr, tyf, nrm, tynrm, d1, implies_true, Nat.reduceAdd, Nat.reduceMul, Nat.reduceEqDiff, Nat.reduceLeDiff, reduceIte, reduceCtorEq]; rfl)
    · simp only [tre, tytre, Bool.and_self]

end Go.V
end
section
namespace Go.V
open Go Go.Proofs
set_option linter.unusedSimpArgs false
set_option linter.unusedVariables false
set_option maxRecDepth 4000
set_option maxHeartbeats 4000000
def g_limits_IsSpan (x0_least : Int) (x1_x : GSpan) (x2_most : Int) : Option (Bool) := cond (decide (x0_least ≤ x1_x.Low)) (cond (decide (x1_x.Low ≤ x1_x.High)) (some (decide (x1_x.High ≤ x2_most))) (some false)) (some false)
theorem g_limits_IsSpan_ok (x0_least : Int) (x1_x : GSpan) (x2_most : Int) (R : Bool) (h : g_limits_IsSpan x0_least x1_x x2_most = some R) : VPure Tryz.prog G0 109 [.lit (.int .i64 x0_least), .agg (cGSpan x1_x), .lit (.int .i64 x2_most)] (.tree (.lit (.bool R))) := by
  refine VPure.runT mixed Tryz.call109 Tryz.func109 rfl (by simp [Tryz.ntmps109]; kernel_rfl) ?_
  obtain ⟨KF, h, kF, kN⟩ := fun_intro h
  simp only [g_limits_IsSpan] at h
  cases d3 : (decide (x0_least ≤ x1_x.Low))
  · simp only [d3, cond_true, cond_false, lbind_go, lbind_ret, lbind_brk, lbind_none, Option.bind_some, Option.bind_none, Bool.not_true, Bool.not_false, reduceCtorEq] at h
    simp only [vs, cwp_label, ng_normal, ng_ret, ng_exit, cr, tyf, d3, implies_true, Nat.reduceAdd, Nat.reduceMul, Nat.reduceEqDiff, Nat.reduceLeDiff, reduceIte, reduceCtorEq]
    obtain rfl := kF _ h
    refine ret1 Tryz.results109 ?_ ?_
    · first | (simp only [outV, upd_apply, updH_apply, without_apply, showV_ref, cr, tyf, nrm, tynrm, d3, implies_true, Nat.reduceAdd, Nat.reduceMul, Nat.reduceEqDiff, Nat.reduceLeDiff, reduceIte, reduceCtorEq]; done) | (simp only [outV, upd_apply, updH_apply, without_apply, showV_ref, cr, tyf, nrm, tynrm, d3, implies_true, Nat.reduceAdd, Nat.reduceMul, Nat.reduceEqDiff, Nat.reduceLeDiff, reduceIte, reduceCtorEq]; rfl)
    · simp only [tre, tytre, Bool.and_self]
  · simp only [d3, cond_true, cond_false, lbind_go, lbind_ret, lbind_brk, lbind_none, Option.bind_some, Option.bind_none, Bool.not_true, Bool.not_false, reduceCtorEq] at h
    cases d4 : (decide (x1_x.Low ≤ x1_x.High))
    · simp only [d4, cond_true, cond_false, lbind_go, lbind_ret, lbind_brk, lbind_none, Option.bind_some, Option.bind_none, Bool.not_true, Bool.not_false, reduceCtorEq] at h
      simp only [vs, cwp_label, ng_normal, ng_ret, ng_exit, cr, tyf, d3, d4, implies_true, Nat.reduceAdd, Nat.reduceMul, Nat.reduceEqDiff, Nat.reduceLeDiff, reduceIte, reduceCtorEq]
      obtain rfl := kF _ h
      refine ret1 Tryz.results109 ?_ ?_
      · first | (simp only [outV, upd_apply, updH_apply, without_apply, showV_ref, cr, tyf, nrm, tynrm, d3, d4, implies_true, Nat.reduceAdd, Nat.reduceMul, Nat.reduceEqDiff, Nat.reduceLeDiff, reduceIte, reduceCtorEq]; done) | (simp only [outV, upd_apply, updH_apply, without_apply, showV_ref, cr, tyf, nrm, tynrm, d3, d4, implies_true, Nat.reduceAdd, Nat.reduceMul, Nat.reduceEqDiff, Nat.reduceLeDiff, reduceIte, reduceCtorEq]; rfl)
      · simp only [tre, tytre, Bool.and_self]
    · simp only [d4, cond_true, cond_false, lbind_go, lbind_ret, lbind_brk, lbind_none, Option.bind_some, Option.bind_none, Bool.not_true, Bool.not_false, reduceCtorEq] at h
      simp only [vs, cwp_label, ng_normal, ng_ret, ng_exit, cr, tyf, d3, d4, implies_true, Nat.reduceAdd, Nat.reduceMul, Nat.reduceEqDiff, Nat.reduceLeDiff, reduceIte, reduceCtorEq]
      obtain rfl := kF _ h
      refine ret1 Tryz.results109 ?_ ?_
      · first | (simp only [outV, upd_apply, updH_apply, without_apply, showV_ref, cr, tyf, nrm, tynrm, d3, d4, implies_true, Nat.reduceAdd, Nat.reduceMul, Nat.reduceEqDiff, Nat.reduceLeDiff, reduceIte, reduceCtorEq]; done) | (simp only [outV, upd_apply, updH_apply, without_apply, showV_ref, cr, tyf, nrm, tynrm, d3, d4, implies_true, Nat.reduceAdd, Nat.reduceMul, Nat.reduceEqDiff, Nat.reduceLeDiff, reduceIte, reduceCtorEq]; rfl)
      · simp only [tre, tytre, Bool.and_self]

end Go.V
end
