/- Part of a proof. -/
import Derived.Test.YtlkognggeadanaaGreatDoorWbg
import Derived.Test.YtlkognggeadanaaGreatDoorWay
import Derived.Test.YtlkognggeadanaaGreatDoorProg
set_option linter.all false
set_option maxRecDepth 4000
set_option maxHeartbeats 40000000
section
namespace Go.V
open Go Go.Proofs
theorem mixed : Tryz.prog.follows .mixedOrders = true := by kernel_rfl
structure GSpan where
 Low : Int
 High : Int
 deriving Inhabited, DecidableEq
def cGSpan (x : GSpan) : List VV := [.lit (.int .i64 x.Low), .lit (.int .i64 x.High)]
theorem xG {x : GSpan} : cGSpan x = [.lit (.int .i64 x.Low), .lit (.int .i64 x.High)] := rfl
theorem cJ : EncOk cGSpan := EncOk.of (fun x => by simp only [xG, tre, Bool.and_self]) (fun x => by simp only [xG, nrm]) (fun x H d => by simp only [xG, nrm, List.map_cons, List.map_nil])
structure GLp where
 Left : Int
 Right : Int
 Space : GSpan
 deriving Inhabited, DecidableEq
def cGLp (x : GLp) : List VV := [.lit (.int .i64 x.Left), .lit (.int .i64 x.Right), .lit (.int .i64 x.Space.Low), .lit (.int .i64 x.Space.High)]
theorem Di {x : GLp} : cGLp x = [.lit (.int .i64 x.Left), .lit (.int .i64 x.Right), .lit (.int .i64 x.Space.Low), .lit (.int .i64 x.Space.High)] := rfl
theorem dq : EncOk cGLp := EncOk.of (fun x => by simp only [Di, tre, cJ.tree, cJ.treeL, Bool.and_self]) (fun x => by simp only [Di, nrm, cJ.norm, cJ.normL, cJ.shown, cJ.showL]) (fun x H d => by simp only [Di, nrm, List.map_cons, List.map_nil])
structure GLw where
 Signs : List Int
 Cuts : List Int
 Free : Bool
 deriving Inhabited, DecidableEq
def cGLw (x : GLw) : List VV := [.sl (ad eI x.Signs) (List.length x.Signs) false, .sl (ad eI x.Cuts) (List.length x.Cuts) false, .lit (.bool x.Free)]
theorem Dj {x : GLw} : cGLw x = [.sl (ad eI x.Signs) (List.length x.Signs) false, .sl (ad eI x.Cuts) (List.length x.Cuts) false, .lit (.bool x.Free)] := rfl
theorem dU : EncOk cGLw := EncOk.of (fun x => by simp only [Dj, tre, cJ.tree, cJ.treeL, dq.tree, dq.treeL, Bool.and_self]) (fun x => by simp only [Dj, nrm, cJ.norm, cJ.normL, cJ.shown, cJ.showL, dq.norm, dq.normL, dq.shown, dq.showL]) (fun x H d => by simp only [Dj, nrm, List.map_cons, List.map_nil])
structure GLs where
 Widths : List Int
 Pairs : List GLp
 Other : GSpan
 Gap : GSpan
 Hyphen : Int
 Words : List GLw
 Wide : Int
 Rows : Int
 deriving Inhabited, DecidableEq
def cGLs (x : GLs) : List VV := [.sl (ad eI x.Widths) (List.length x.Widths) false, .sl (ad cGLp x.Pairs) (List.length x.Pairs) false, .lit (.int .i64 x.Other.Low), .lit (.int .i64 x.Other.High), .lit (.int .i64 x.Gap.Low), .lit (.int .i64 x.Gap.High), .lit (.int .i64 x.Hyphen), .sl (ad cGLw x.Words) (List.length x.Words) false, .lit (.int .i64 x.Wide), .lit (.int .i64 x.Rows)]
theorem Dk {x : GLs} : cGLs x = [.sl (ad eI x.Widths) (List.length x.Widths) false, .sl (ad cGLp x.Pairs) (List.length x.Pairs) false, .lit (.int .i64 x.Other.Low), .lit (.int .i64 x.Other.High), .lit (.int .i64 x.Gap.Low), .lit (.int .i64 x.Gap.High), .lit (.int .i64 x.Hyphen), .sl (ad cGLw x.Words) (List.length x.Words) false, .lit (.int .i64 x.Wide), .lit (.int .i64 x.Rows)] := rfl
theorem eD : EncOk cGLs := EncOk.of (fun x => by simp only [Dk, tre, cJ.tree, cJ.treeL, dq.tree, dq.treeL, dU.tree, dU.treeL, Bool.and_self]) (fun x => by simp only [Dk, nrm, cJ.norm, cJ.normL, cJ.shown, cJ.showL, dq.norm, dq.normL, dq.shown, dq.showL, dU.norm, dU.normL, dU.shown, dU.showL]) (fun x H d => by simp only [Dk, nrm, List.map_cons, List.map_nil])
structure GLe where
 Word : Int
 Letters : Int
 deriving Inhabited, DecidableEq
def cGLe (x : GLe) : List VV := [.lit (.int .i64 x.Word), .lit (.int .i64 x.Letters)]
theorem zA {x : GLe} : cGLe x = [.lit (.int .i64 x.Word), .lit (.int .i64 x.Letters)] := rfl
theorem fq : EncOk cGLe := EncOk.of (fun x => by simp only [zA, tre, cJ.tree, cJ.treeL, dq.tree, dq.treeL, dU.tree, dU.treeL, eD.tree, eD.treeL, Bool.and_self]) (fun x => by simp only [zA, nrm, cJ.norm, cJ.normL, cJ.shown, cJ.showL, dq.norm, dq.normL, dq.shown, dq.showL, dU.norm, dU.normL, dU.shown, dU.showL, eD.norm, eD.normL, eD.shown, eD.showL]) (fun x H d => by simp only [zA, nrm, List.map_cons, List.map_nil])
structure GLx where
 Out : List Int
 Ends : List GLe
 deriving Inhabited, DecidableEq
def cGLx (x : GLx) : List VV := [.sl (ad eI x.Out) (List.length x.Out) false, .sl (ad cGLe x.Ends) (List.length x.Ends) false]
theorem Dl {x : GLx} : cGLx x = [.sl (ad eI x.Out) (List.length x.Out) false, .sl (ad cGLe x.Ends) (List.length x.Ends) false] := rfl
theorem gk : EncOk cGLx := EncOk.of (fun x => by simp only [Dl, tre, cJ.tree, cJ.treeL, dq.tree, dq.treeL, dU.tree, dU.treeL, eD.tree, eD.treeL, fq.tree, fq.treeL, Bool.and_self]) (fun x => by simp only [Dl, nrm, cJ.norm, cJ.normL, cJ.shown, cJ.showL, dq.norm, dq.normL, dq.shown, dq.showL, dU.norm, dU.normL, dU.shown, dU.showL, eD.norm, eD.normL, eD.shown, eD.showL, fq.norm, fq.normL, fq.shown, fq.showL]) (fun x H d => by simp only [Dl, nrm, List.map_cons, List.map_nil])
structure Gmahlstickref01Letter where
 Word : Int
 Sign : Int
 deriving Inhabited, DecidableEq
def aW (x : Gmahlstickref01Letter) : List VV := [.lit (.int .i64 x.Word), .lit (.int .i64 x.Sign)]
theorem G8 {x : Gmahlstickref01Letter} : aW x = [.lit (.int .i64 x.Word), .lit (.int .i64 x.Sign)] := rfl
theorem ik : EncOk aW := EncOk.of (fun x => by simp only [G8, tre, cJ.tree, cJ.treeL, dq.tree, dq.treeL, dU.tree, dU.treeL, eD.tree, eD.treeL, fq.tree, fq.treeL, gk.tree, gk.treeL, Bool.and_self]) (fun x => by simp only [G8, nrm, cJ.norm, cJ.normL, cJ.shown, cJ.showL, dq.norm, dq.normL, dq.shown, dq.showL, dU.norm, dU.normL, dU.shown, dU.showL, eD.norm, eD.normL, eD.shown, eD.showL, fq.norm, fq.normL, fq.shown, fq.showL, gk.norm, gk.normL, gk.shown, gk.showL]) (fun x H d => by simp only [G8, nrm, List.map_cons, List.map_nil])
structure Glm where
 word : Int
 sign : Int
 row : Int
 hyphen : Bool
 deriving Inhabited, DecidableEq
def cGlm (x : Glm) : List VV := [.lit (.int .i64 x.word), .lit (.int .i64 x.sign), .lit (.int .i64 x.row), .lit (.bool x.hyphen)]
theorem DI {x : Glm} : cGlm x = [.lit (.int .i64 x.word), .lit (.int .i64 x.sign), .lit (.int .i64 x.row), .lit (.bool x.hyphen)] := rfl
theorem kI : EncOk cGlm := EncOk.of (fun x => by simp only [DI, tre, cJ.tree, cJ.treeL, dq.tree, dq.treeL, dU.tree, dU.treeL, eD.tree, eD.treeL, fq.tree, fq.treeL, gk.tree, gk.treeL, ik.tree, ik.treeL, Bool.and_self]) (fun x => by simp only [DI, nrm, cJ.norm, cJ.normL, cJ.shown, cJ.showL, dq.norm, dq.normL, dq.shown, dq.showL, dU.norm, dU.normL, dU.shown, dU.showL, eD.norm, eD.normL, eD.shown, eD.showL, fq.norm, fq.normL, fq.shown, fq.showL, gk.norm, gk.normL, gk.shown, gk.showL, ik.norm, ik.normL, ik.shown, ik.showL]) (fun x H d => by simp only [DI, nrm, List.map_cons, List.map_nil])
structure Glp where
 left : Int
 right : Int
 deriving Inhabited, DecidableEq
def cGlp (x : Glp) : List VV := [.lit (.int .i64 x.left), .lit (.int .i64 x.right)]
theorem G9 {x : Glp} : cGlp x = [.lit (.int .i64 x.left), .lit (.int .i64 x.right)] := rfl
theorem oQ : EncOk cGlp := EncOk.of (fun x => by simp only [G9, tre, cJ.tree, cJ.treeL, dq.tree, dq.treeL, dU.tree, dU.treeL, eD.tree, eD.treeL, fq.tree, fq.treeL, gk.tree, gk.treeL, ik.tree, ik.treeL, kI.tree, kI.treeL, Bool.and_self]) (fun x => by simp only [G9, nrm, cJ.norm, cJ.normL, cJ.shown, cJ.showL, dq.norm, dq.normL, dq.shown, dq.showL, dU.norm, dU.normL, dU.shown, dU.showL, eD.norm, eD.normL, eD.shown, eD.showL, fq.norm, fq.normL, fq.shown, fq.showL, gk.norm, gk.normL, gk.shown, gk.showL, ik.norm, ik.normL, ik.shown, ik.showL, kI.norm, kI.normL, kI.shown, kI.showL]) (fun x H d => by simp only [G9, nrm, List.map_cons, List.map_nil])
def dp (k : Glp) : Value := .agg ⟨[.int .i64 k.left, .int .i64 k.right]⟩
def fy (n : GSpan) : VV := .agg (cGSpan n)
theorem rh {l : List (Glp × GSpan)} : (VV.mt (mtK dp l) (mtV fy l)).tree = true := mt_tr fun v => by simp only [fy, tre, cJ.tree, cJ.treeL, dq.tree, dq.treeL, dU.tree, dU.treeL, eD.tree, eD.treeL, fq.tree, fq.treeL, gk.tree, gk.treeL, ik.tree, ik.treeL, kI.tree, kI.treeL, oQ.tree, oQ.treeL, Bool.and_self]
structure Gld where
 LetterSheet : GLs
 LetterSetting : GLx
 stretch : Int
 spaces : List (Glp × GSpan)
 marks : List Glm
 deriving Inhabited, DecidableEq
def cGld (x : Gld) : List VV := [.sl (ad eI x.LetterSheet.Widths) (List.length x.LetterSheet.Widths) false, .sl (ad cGLp x.LetterSheet.Pairs) (List.length x.LetterSheet.Pairs) false, .lit (.int .i64 x.LetterSheet.Other.Low), .lit (.int .i64 x.LetterSheet.Other.High), .lit (.int .i64 x.LetterSheet.Gap.Low), .lit (.int .i64 x.LetterSheet.Gap.High), .lit (.int .i64 x.LetterSheet.Hyphen), .sl (ad cGLw x.LetterSheet.Words) (List.length x.LetterSheet.Words) false, .lit (.int .i64 x.LetterSheet.Wide), .lit (.int .i64 x.LetterSheet.Rows), .sl (ad eI x.LetterSetting.Out) (List.length x.LetterSetting.Out) false, .sl (ad cGLe x.LetterSetting.Ends) (List.length x.LetterSetting.Ends) false, .lit (.int .i64 x.stretch), .mt (mtK dp x.spaces) (mtV fy x.spaces), .sl (ad cGlm x.marks) (List.length x.marks) false]
theorem DJ {x : Gld} : cGld x = [.sl (ad eI x.LetterSheet.Widths) (List.length x.LetterSheet.Widths) false, .sl (ad cGLp x.LetterSheet.Pairs) (List.length x.LetterSheet.Pairs) false, .lit (.int .i64 x.LetterSheet.Other.Low), .lit (.int .i64 x.LetterSheet.Other.High), .lit (.int .i64 x.LetterSheet.Gap.Low), .lit (.int .i64 x.LetterSheet.Gap.High), .lit (.int .i64 x.LetterSheet.Hyphen), .sl (ad cGLw x.LetterSheet.Words) (List.length x.LetterSheet.Words) false, .lit (.int .i64 x.LetterSheet.Wide), .lit (.int .i64 x.LetterSheet.Rows), .sl (ad eI x.LetterSetting.Out) (List.length x.LetterSetting.Out) false, .sl (ad cGLe x.LetterSetting.Ends) (List.length x.LetterSetting.Ends) false, .lit (.int .i64 x.stretch), .mt (mtK dp x.spaces) (mtV fy x.spaces), .sl (ad cGlm x.marks) (List.length x.marks) false] := rfl
theorem zK : EncOk cGld := EncOk.of (fun x => by simp only [DJ, tre, cJ.tree, cJ.treeL, dq.tree, dq.treeL, dU.tree, dU.treeL, eD.tree, eD.treeL, fq.tree, fq.treeL, gk.tree, gk.treeL, ik.tree, ik.treeL, kI.tree, kI.treeL, oQ.tree, oQ.treeL, rh, Bool.and_self]) (fun x => by simp only [DJ, nrm, cJ.norm, cJ.normL, cJ.shown, cJ.showL, dq.norm, dq.normL, dq.shown, dq.showL, dU.norm, dU.normL, dU.shown, dU.showL, eD.norm, eD.normL, eD.shown, eD.showL, fq.norm, fq.normL, fq.shown, fq.showL, gk.norm, gk.normL, gk.shown, gk.showL, ik.norm, ik.normL, ik.shown, ik.showL, kI.norm, kI.normL, kI.shown, kI.showL, oQ.norm, oQ.normL, oQ.shown, oQ.showL, F3, Av]) (fun x H d => by simp only [DJ, nrm, List.map_cons, List.map_nil, Av])
theorem zL : EncOk (eSl eI) := EncOk.sl eI_ok
theorem zM : EncOk (eSl aW) := EncOk.sl ik
theorem zN : EncOk (eSl cGLe) := EncOk.sl fq
theorem ld2 {c : VV} {cs : List VV} : an Tryz.prog 2 (c :: cs) = some c := by
 have h1 : aggT Tryz.prog 2 = some false := by kernel_rfl
 simp [an, aA, h1]
theorem sz2 : szT Tryz.prog 2 = some 1 := by kernel_rfl
theorem QC : vzl Tryz.prog 2 = some [.lit (.int .i64 0)] := by kernel_rfl
theorem ld3 {c : VV} {cs : List VV} : an Tryz.prog 3 (c :: cs) = some c := by
 have h1 : aggT Tryz.prog 3 = some false := by kernel_rfl
 simp [an, aA, h1]
theorem sz3 : szT Tryz.prog 3 = some 1 := by kernel_rfl
theorem QD : vzl Tryz.prog 3 = some [.lit (.int .i64 0)] := by kernel_rfl
theorem ld4 {c : VV} {cs : List VV} : an Tryz.prog 4 (c :: cs) = some c := by
 have h1 : aggT Tryz.prog 4 = some false := by kernel_rfl
 simp [an, aA, h1]
theorem sz4 : szT Tryz.prog 4 = some 1 := by kernel_rfl
theorem QE : vzl Tryz.prog 4 = some [.lit (.bool false)] := by kernel_rfl
theorem ld9 {c : VV} {cs : List VV} : an Tryz.prog 9 (c :: cs) = some c := by
 have h1 : aggT Tryz.prog 9 = some false := by kernel_rfl
 simp [an, aA, h1]
theorem sz9 : szT Tryz.prog 9 = some 1 := by kernel_rfl
theorem QF : vzl Tryz.prog 9 = some [.lit (.string ⟨#[]⟩)] := by kernel_rfl
theorem QG {c : VV} {cs : List VV} : an Tryz.prog 22 (c :: cs) = some c := by
 have h1 : aggT Tryz.prog 22 = some false := by kernel_rfl
 simp [an, aA, h1]
theorem QH : szT Tryz.prog 22 = some 1 := by kernel_rfl
theorem DK : vzl Tryz.prog 22 = some [.lit (.slice none 0 0)] := by kernel_rfl
theorem DL {H : Nat → Option VObj} {cs : List VV} {n : Nat} {f : Bool} : vlen Tryz.prog H 22 (.sl cs n f) = some (.lit (.int .i64 n)) := by simp [vlen, Tryz.underlying22, sls]
theorem lenN22 {H : Nat → Option VObj} : vlen Tryz.prog H 22 (.lit (.slice none 0 0)) = some (.lit (.int .i64 0)) := by simp [vlen, Tryz.underlying22, sls]
theorem lenR22 {H : Nat → Option VObj} {β off n w c : Nat} : vlen Tryz.prog H 22 (.ref β off n w c) = (match H β with | some (.cells _ cs) => if off ≤ cs.length then some (.lit (.int .i64 n)) else none | _ => none) := lenR Tryz.underlying22
theorem lq : elemT Tryz.prog 22 = some 3 := by simp [elemT, Tryz.underlying22]
theorem sA : appOk Tryz.prog 22 = some (3, 1, 8) := by kernel_rfl
theorem QI {xs : List Int} : (ad eI xs).take (xs.length * 1) = ad eI xs := sZ (fun _ => rfl)
theorem uS : ∀ x : Int, leafL (eI x) = true := fun x => by simp only [eI_eq, tP, eB_eq, eS_eq, tQ, fT, fU, FW, FX, FY, FZ, Ga, Bool.and_self]
theorem vK {xs : List Int} {x : Int} {i : Int} (h : getI xs i = some x) : (∀ (H : Nat → Option VObj) (β c : Nat) (k : IntKind), aC Tryz.prog H 22 (.ref β 0 xs.length 1 c) (.lit (.int k i)) = if (H β).isSome = true then some (.ptr β (i.toNat * 1)) else none) ∧ (ad eI xs).drop (i.toNat * 1) = eI x ++ ad eI (xs.drop (i.toNat + 1)) ∧ (i.toNat * 1 ≤ (ad eI xs).length) = True := ixO Tryz.underlying22 (by kernel_rfl : szT Tryz.prog 3 = some 1) (fun _ => rfl) h
theorem QJ {a0 : VV} (h : leafL [a0] = true) : ah Tryz.prog 22 1 [(0, a0)] = some ([a0], 1) := by
 have h2 : szT Tryz.prog 3 = some 1 := by kernel_rfl
 have h3 : vzero Tryz.prog 3 = some #[.int .i64 0] := by kernel_rfl
 simp only [fU, fT, Bool.and_true, Bool.and_eq_true] at h
 simp [ah, Tryz.underlying22, h2, h3, vfill, vcells1, h, overwrite, aZ, List.range_succ]
theorem QK {a0 a1 : VV} (h : leafL [a0, a1] = true) : ah Tryz.prog 22 2 [(0, a0), (1, a1)] = some ([a0, a1], 1) := by
 have h2 : szT Tryz.prog 3 = some 1 := by kernel_rfl
 have h3 : vzero Tryz.prog 3 = some #[.int .i64 0] := by kernel_rfl
 simp only [fU, fT, Bool.and_true, Bool.and_eq_true] at h
 simp [ah, Tryz.underlying22, h2, h3, vfill, vcells1, h, overwrite, aZ, List.range_succ]
theorem QL {a0 a1 a2 : VV} (h : leafL [a0, a1, a2] = true) : ah Tryz.prog 22 3 [(0, a0), (1, a1), (2, a2)] = some ([a0, a1, a2], 1) := by
 have h2 : szT Tryz.prog 3 = some 1 := by kernel_rfl
 have h3 : vzero Tryz.prog 3 = some #[.int .i64 0] := by kernel_rfl
 simp only [fU, fT, Bool.and_true, Bool.and_eq_true] at h
 simp [ah, Tryz.underlying22, h2, h3, vfill, vcells1, h, overwrite, aZ, List.range_succ]
theorem au {H : Nat → Option VObj} {xs : List Int} {x : Int} {f : Bool} {k : IntKind} {i : Int} (h : getI xs i = some x) : aC Tryz.prog H 22 (.sl (ad eI xs) xs.length f) (.lit (.int k i)) = some (.tp (eI x ++ ad eI (xs.drop (i.toNat + 1)))) :=
 ixG Tryz.underlying22 (by kernel_rfl : szT Tryz.prog 3 = some 1) (by decide) (fun _ => rfl) h
theorem QM {c : VV} {cs : List VV} : an Tryz.prog 23 (c :: cs) = some c := by
 have h1 : aggT Tryz.prog 23 = some false := by kernel_rfl
 simp [an, aA, h1]
theorem QN : szT Tryz.prog 23 = some 1 := by kernel_rfl
theorem DM : vzl Tryz.prog 23 = some [.lit (.slice none 0 0)] := by kernel_rfl
theorem DN {H : Nat → Option VObj} {cs : List VV} {n : Nat} {f : Bool} : vlen Tryz.prog H 23 (.sl cs n f) = some (.lit (.int .i64 n)) := by simp [vlen, Tryz.underlying23, sls]
theorem lenN23 {H : Nat → Option VObj} : vlen Tryz.prog H 23 (.lit (.slice none 0 0)) = some (.lit (.int .i64 0)) := by simp [vlen, Tryz.underlying23, sls]
theorem lenR23 {H : Nat → Option VObj} {β off n w c : Nat} : vlen Tryz.prog H 23 (.ref β off n w c) = (match H β with | some (.cells _ cs) => if off ≤ cs.length then some (.lit (.int .i64 n)) else none | _ => none) := lenR Tryz.underlying23
theorem QO : elemT Tryz.prog 23 = some 108 := by simp [elemT, Tryz.underlying23]
theorem QP {xs : List GLp} : (ad cGLp xs).take (xs.length * 4) = ad cGLp xs := sZ (fun _ => rfl)
theorem QQ {c0 c1 c2 c3 : VV} (h : leafL [c0, c1, c2, c3] = true) : ah Tryz.prog 23 1 [(0, .agg [c0, c1, c2, c3])] = some ([c0, c1, c2, c3], 4) := by
 have h2 : szT Tryz.prog 108 = some 4 := by kernel_rfl
 have h3 : vzero Tryz.prog 108 = some #[.int .i64 0, .int .i64 0, .int .i64 0, .int .i64 0] := by kernel_rfl
 simp only [fU, fT, Bool.and_true, Bool.and_eq_true] at h
 simp [ah, Tryz.underlying23, h2, h3, vfill, aS, h, overwrite, aZ]
theorem cB {H : Nat → Option VObj} {xs : List GLp} {x : GLp} {f : Bool} {k : IntKind} {i : Int} (h : getI xs i = some x) : aC Tryz.prog H 23 (.sl (ad cGLp xs) xs.length f) (.lit (.int k i)) = some (.tp (cGLp x ++ ad cGLp (xs.drop (i.toNat + 1)))) :=
 ixG Tryz.underlying23 (by kernel_rfl : szT Tryz.prog 108 = some 4) (by decide) (fun _ => rfl) h
theorem QR {c0 c1 : VV} {cs : List VV} : an Tryz.prog 25 (c0 :: c1 :: cs) = some (.agg [c0, c1]) := by
 have h1 : aggT Tryz.prog 25 = some true := by kernel_rfl
 have h2 : szT Tryz.prog 25 = some 2 := by kernel_rfl
 simp [an, aA, h1, h2]
theorem QS : szT Tryz.prog 25 = some 2 := by kernel_rfl
theorem DO : vzl Tryz.prog 25 = some [.lit (.int .i64 0), .lit (.int .i64 0)] := by kernel_rfl
theorem QT {H : Nat → Option VObj} {cs : List VV} : aa Tryz.prog H 25 (.tp cs) 0 = some (.tp (cs.drop 0)) := by
 have h2 : szT Tryz.prog 3 = some 1 := by kernel_rfl
 simp [aa, Tryz.underlying25, h2]
theorem QU {H : Nat → Option VObj} {β o : Nat} : aa Tryz.prog H 25 (.ptr β o) 0 = if (H β).isSome = true then some (.ptr β (o + 0)) else none := by
 have h2 : szT Tryz.prog 3 = some 1 := by kernel_rfl
 simp [aa, Tryz.underlying25, h2]
theorem QV {c0 c1 : VV} : aq Tryz.prog 25 (.agg [c0, c1]) 0 = some (c0) := by
 have h1 : aggT Tryz.prog 3 = some false := by kernel_rfl
 have h2 : szT Tryz.prog 3 = some 1 := by kernel_rfl
 simp [aq, Tryz.underlying25, aA, h1, h2]
theorem QW {H : Nat → Option VObj} {cs : List VV} : aa Tryz.prog H 25 (.tp cs) 1 = some (.tp (cs.drop 1)) := by
 have h2 : szT Tryz.prog 3 = some 1 := by kernel_rfl
 simp [aa, Tryz.underlying25, h2]
theorem QX {H : Nat → Option VObj} {β o : Nat} : aa Tryz.prog H 25 (.ptr β o) 1 = if (H β).isSome = true then some (.ptr β (o + 1)) else none := by
 have h2 : szT Tryz.prog 3 = some 1 := by kernel_rfl
 simp [aa, Tryz.underlying25, h2]
theorem QY {c0 c1 : VV} : aq Tryz.prog 25 (.agg [c0, c1]) 1 = some (c1) := by
 have h1 : aggT Tryz.prog 3 = some false := by kernel_rfl
 have h2 : szT Tryz.prog 3 = some 1 := by kernel_rfl
 simp [aq, Tryz.underlying25, aA, h1, h2]
theorem QZ {c : VV} {cs : List VV} : an Tryz.prog 26 (c :: cs) = some c := by
 have h1 : aggT Tryz.prog 26 = some false := by kernel_rfl
 simp [an, aA, h1]
theorem Ra : szT Tryz.prog 26 = some 1 := by kernel_rfl
theorem DP : vzl Tryz.prog 26 = some [.lit (.slice none 0 0)] := by kernel_rfl
theorem DQ {H : Nat → Option VObj} {cs : List VV} {n : Nat} {f : Bool} : vlen Tryz.prog H 26 (.sl cs n f) = some (.lit (.int .i64 n)) := by simp [vlen, Tryz.underlying26, sls]
theorem lenN26 {H : Nat → Option VObj} : vlen Tryz.prog H 26 (.lit (.slice none 0 0)) = some (.lit (.int .i64 0)) := by simp [vlen, Tryz.underlying26, sls]
theorem lenR26 {H : Nat → Option VObj} {β off n w c : Nat} : vlen Tryz.prog H 26 (.ref β off n w c) = (match H β with | some (.cells _ cs) => if off ≤ cs.length then some (.lit (.int .i64 n)) else none | _ => none) := lenR Tryz.underlying26
theorem Rb : elemT Tryz.prog 26 = some 79 := by simp [elemT, Tryz.underlying26]
theorem Rc {xs : List GLw} : (ad cGLw xs).take (xs.length * 3) = ad cGLw xs := sZ (fun _ => rfl)
theorem Rd {c0 c1 c2 : VV} (h : leafL [c0, c1, c2] = true) : ah Tryz.prog 26 1 [(0, .agg [c0, c1, c2])] = some ([c0, c1, c2], 3) := by
 have h2 : szT Tryz.prog 79 = some 3 := by kernel_rfl
 have h3 : vzero Tryz.prog 79 = some #[.slice none 0 0, .slice none 0 0, .bool false] := by kernel_rfl
 simp only [fU, fT, Bool.and_true, Bool.and_eq_true] at h
 simp [ah, Tryz.underlying26, h2, h3, vfill, aS, h, overwrite, aZ]
theorem aH {H : Nat → Option VObj} {xs : List GLw} {x : GLw} {f : Bool} {k : IntKind} {i : Int} (h : getI xs i = some x) : aC Tryz.prog H 26 (.sl (ad cGLw xs) xs.length f) (.lit (.int k i)) = some (.tp (cGLw x ++ ad cGLw (xs.drop (i.toNat + 1)))) :=
 ixG Tryz.underlying26 (by kernel_rfl : szT Tryz.prog 79 = some 3) (by decide) (fun _ => rfl) h
theorem Re {c0 c1 c2 c3 c4 c5 c6 c7 c8 c9 : VV} {cs : List VV} : an Tryz.prog 28 (c0 :: c1 :: c2 :: c3 :: c4 :: c5 :: c6 :: c7 :: c8 :: c9 :: cs) = some (.agg [c0, c1, c2, c3, c4, c5, c6, c7, c8, c9]) := by
 have h1 : aggT Tryz.prog 28 = some true := by kernel_rfl
 have h2 : szT Tryz.prog 28 = some 10 := by kernel_rfl
 simp [an, aA, h1, h2]
theorem Rf : szT Tryz.prog 28 = some 10 := by kernel_rfl
theorem vL : vzl Tryz.prog 28 = some [.lit (.slice none 0 0), .lit (.slice none 0 0), .lit (.int .i64 0), .lit (.int .i64 0), .lit (.int .i64 0), .lit (.int .i64 0), .lit (.int .i64 0), .lit (.slice none 0 0), .lit (.int .i64 0), .lit (.int .i64 0)] := by kernel_rfl
theorem Rg {H : Nat → Option VObj} {cs : List VV} : aa Tryz.prog H 28 (.tp cs) 0 = some (.tp (cs.drop 0)) := by
 have h2 : szT Tryz.prog 22 = some 1 := by kernel_rfl
 simp [aa, Tryz.underlying28, h2]
theorem Rh {H : Nat → Option VObj} {β o : Nat} : aa Tryz.prog H 28 (.ptr β o) 0 = if (H β).isSome = true then some (.ptr β (o + 0)) else none := by
 have h2 : szT Tryz.prog 22 = some 1 := by kernel_rfl
 simp [aa, Tryz.underlying28, h2]
theorem Ri {c0 c1 c2 c3 c4 c5 c6 c7 c8 c9 : VV} : aq Tryz.prog 28 (.agg [c0, c1, c2, c3, c4, c5, c6, c7, c8, c9]) 0 = some (c0) := by
 have h1 : aggT Tryz.prog 22 = some false := by kernel_rfl
 have h2 : szT Tryz.prog 22 = some 1 := by kernel_rfl
 simp [aq, Tryz.underlying28, aA, h1, h2]
theorem Rj {H : Nat → Option VObj} {cs : List VV} : aa Tryz.prog H 28 (.tp cs) 1 = some (.tp (cs.drop 1)) := by
 have h2 : szT Tryz.prog 23 = some 1 := by kernel_rfl
 simp [aa, Tryz.underlying28, h2]
theorem Rk {H : Nat → Option VObj} {β o : Nat} : aa Tryz.prog H 28 (.ptr β o) 1 = if (H β).isSome = true then some (.ptr β (o + 1)) else none := by
 have h2 : szT Tryz.prog 23 = some 1 := by kernel_rfl
 simp [aa, Tryz.underlying28, h2]
theorem Rl {c0 c1 c2 c3 c4 c5 c6 c7 c8 c9 : VV} : aq Tryz.prog 28 (.agg [c0, c1, c2, c3, c4, c5, c6, c7, c8, c9]) 1 = some (c1) := by
 have h1 : aggT Tryz.prog 23 = some false := by kernel_rfl
 have h2 : szT Tryz.prog 23 = some 1 := by kernel_rfl
 simp [aq, Tryz.underlying28, aA, h1, h2]
theorem Rm {H : Nat → Option VObj} {cs : List VV} : aa Tryz.prog H 28 (.tp cs) 2 = some (.tp (cs.drop 2)) := by
 have h2 : szT Tryz.prog 25 = some 2 := by kernel_rfl
 simp [aa, Tryz.underlying28, h2]
theorem Rn {H : Nat → Option VObj} {β o : Nat} : aa Tryz.prog H 28 (.ptr β o) 2 = if (H β).isSome = true then some (.ptr β (o + 2)) else none := by
 have h2 : szT Tryz.prog 25 = some 2 := by kernel_rfl
 simp [aa, Tryz.underlying28, h2]
theorem Ro {c0 c1 c2 c3 c4 c5 c6 c7 c8 c9 : VV} : aq Tryz.prog 28 (.agg [c0, c1, c2, c3, c4, c5, c6, c7, c8, c9]) 2 = some (.agg [c2, c3]) := by
 have h1 : aggT Tryz.prog 25 = some true := by kernel_rfl
 have h2 : szT Tryz.prog 25 = some 2 := by kernel_rfl
 simp [aq, Tryz.underlying28, aA, h1, h2]
theorem Rq {H : Nat → Option VObj} {cs : List VV} : aa Tryz.prog H 28 (.tp cs) 3 = some (.tp (cs.drop 4)) := by
 have h2 : szT Tryz.prog 25 = some 2 := by kernel_rfl
 simp [aa, Tryz.underlying28, h2]
theorem Rr {H : Nat → Option VObj} {β o : Nat} : aa Tryz.prog H 28 (.ptr β o) 3 = if (H β).isSome = true then some (.ptr β (o + 4)) else none := by
 have h2 : szT Tryz.prog 25 = some 2 := by kernel_rfl
 simp [aa, Tryz.underlying28, h2]
theorem Rs {c0 c1 c2 c3 c4 c5 c6 c7 c8 c9 : VV} : aq Tryz.prog 28 (.agg [c0, c1, c2, c3, c4, c5, c6, c7, c8, c9]) 3 = some (.agg [c4, c5]) := by
 have h1 : aggT Tryz.prog 25 = some true := by kernel_rfl
 have h2 : szT Tryz.prog 25 = some 2 := by kernel_rfl
 simp [aq, Tryz.underlying28, aA, h1, h2]
theorem Rt {H : Nat → Option VObj} {cs : List VV} : aa Tryz.prog H 28 (.tp cs) 4 = some (.tp (cs.drop 6)) := by
 have h2 : szT Tryz.prog 3 = some 1 := by kernel_rfl
 simp [aa, Tryz.underlying28, h2]
theorem Ru {H : Nat → Option VObj} {β o : Nat} : aa Tryz.prog H 28 (.ptr β o) 4 = if (H β).isSome = true then some (.ptr β (o + 6)) else none := by
 have h2 : szT Tryz.prog 3 = some 1 := by kernel_rfl
 simp [aa, Tryz.underlying28, h2]
theorem Rv {c0 c1 c2 c3 c4 c5 c6 c7 c8 c9 : VV} : aq Tryz.prog 28 (.agg [c0, c1, c2, c3, c4, c5, c6, c7, c8, c9]) 4 = some (c6) := by
 have h1 : aggT Tryz.prog 3 = some false := by kernel_rfl
 have h2 : szT Tryz.prog 3 = some 1 := by kernel_rfl
 simp [aq, Tryz.underlying28, aA, h1, h2]
theorem Rw {H : Nat → Option VObj} {cs : List VV} : aa Tryz.prog H 28 (.tp cs) 5 = some (.tp (cs.drop 7)) := by
 have h2 : szT Tryz.prog 26 = some 1 := by kernel_rfl
 simp [aa, Tryz.underlying28, h2]
theorem Rx {H : Nat → Option VObj} {β o : Nat} : aa Tryz.prog H 28 (.ptr β o) 5 = if (H β).isSome = true then some (.ptr β (o + 7)) else none := by
 have h2 : szT Tryz.prog 26 = some 1 := by kernel_rfl
 simp [aa, Tryz.underlying28, h2]
theorem Ry {c0 c1 c2 c3 c4 c5 c6 c7 c8 c9 : VV} : aq Tryz.prog 28 (.agg [c0, c1, c2, c3, c4, c5, c6, c7, c8, c9]) 5 = some (c7) := by
 have h1 : aggT Tryz.prog 26 = some false := by kernel_rfl
 have h2 : szT Tryz.prog 26 = some 1 := by kernel_rfl
 simp [aq, Tryz.underlying28, aA, h1, h2]
theorem Rz {H : Nat → Option VObj} {cs : List VV} : aa Tryz.prog H 28 (.tp cs) 6 = some (.tp (cs.drop 8)) := by
 have h2 : szT Tryz.prog 3 = some 1 := by kernel_rfl
 simp [aa, Tryz.underlying28, h2]
theorem R0 {H : Nat → Option VObj} {β o : Nat} : aa Tryz.prog H 28 (.ptr β o) 6 = if (H β).isSome = true then some (.ptr β (o + 8)) else none := by
 have h2 : szT Tryz.prog 3 = some 1 := by kernel_rfl
 simp [aa, Tryz.underlying28, h2]
theorem R1 {c0 c1 c2 c3 c4 c5 c6 c7 c8 c9 : VV} : aq Tryz.prog 28 (.agg [c0, c1, c2, c3, c4, c5, c6, c7, c8, c9]) 6 = some (c8) := by
 have h1 : aggT Tryz.prog 3 = some false := by kernel_rfl
 have h2 : szT Tryz.prog 3 = some 1 := by kernel_rfl
 simp [aq, Tryz.underlying28, aA, h1, h2]
theorem R2 {H : Nat → Option VObj} {cs : List VV} : aa Tryz.prog H 28 (.tp cs) 7 = some (.tp (cs.drop 9)) := by
 have h2 : szT Tryz.prog 3 = some 1 := by kernel_rfl
 simp [aa, Tryz.underlying28, h2]
theorem R3 {H : Nat → Option VObj} {β o : Nat} : aa Tryz.prog H 28 (.ptr β o) 7 = if (H β).isSome = true then some (.ptr β (o + 9)) else none := by
 have h2 : szT Tryz.prog 3 = some 1 := by kernel_rfl
 simp [aa, Tryz.underlying28, h2]
theorem R4 {c0 c1 c2 c3 c4 c5 c6 c7 c8 c9 : VV} : aq Tryz.prog 28 (.agg [c0, c1, c2, c3, c4, c5, c6, c7, c8, c9]) 7 = some (c9) := by
 have h1 : aggT Tryz.prog 3 = some false := by kernel_rfl
 have h2 : szT Tryz.prog 3 = some 1 := by kernel_rfl
 simp [aq, Tryz.underlying28, aA, h1, h2]
theorem R5 {c : VV} {cs : List VV} : an Tryz.prog 29 (c :: cs) = some c := by
 have h1 : aggT Tryz.prog 29 = some false := by kernel_rfl
 simp [an, aA, h1]
theorem R6 : szT Tryz.prog 29 = some 1 := by kernel_rfl
theorem DS : vzl Tryz.prog 29 = some [.lit (.slice none 0 0)] := by kernel_rfl
theorem DT {H : Nat → Option VObj} {cs : List VV} {n : Nat} {f : Bool} : vlen Tryz.prog H 29 (.sl cs n f) = some (.lit (.int .i64 n)) := by simp [vlen, Tryz.underlying29, sls]
theorem lenN29 {H : Nat → Option VObj} : vlen Tryz.prog H 29 (.lit (.slice none 0 0)) = some (.lit (.int .i64 0)) := by simp [vlen, Tryz.underlying29, sls]
theorem lenR29 {H : Nat → Option VObj} {β off n w c : Nat} : vlen Tryz.prog H 29 (.ref β off n w c) = (match H β with | some (.cells _ cs) => if off ≤ cs.length then some (.lit (.int .i64 n)) else none | _ => none) := lenR Tryz.underlying29
theorem hZ : elemT Tryz.prog 29 = some 100 := by simp [elemT, Tryz.underlying29]
theorem mg : appOk Tryz.prog 29 = some (100, 2, 16) := by kernel_rfl
theorem R7 {xs : List GLe} : (ad cGLe xs).take (xs.length * 2) = ad cGLe xs := sZ (fun _ => rfl)
theorem mf : ∀ x : GLe, leafL (cGLe x) = true := fun x => by simp only [eI_eq, tP, eB_eq, eS_eq, tQ, zA, fT, fU, FW, FX, FY, FZ, Ga, Bool.and_self]
theorem R8 {c0 c1 : VV} (h : leafL [c0, c1] = true) : ah Tryz.prog 29 1 [(0, .agg [c0, c1])] = some ([c0, c1], 2) := by
 have h2 : szT Tryz.prog 100 = some 2 := by kernel_rfl
 have h3 : vzero Tryz.prog 100 = some #[.int .i64 0, .int .i64 0] := by kernel_rfl
 simp only [fU, fT, Bool.and_true, Bool.and_eq_true] at h
 simp [ah, Tryz.underlying29, h2, h3, vfill, aS, h, overwrite, aZ]
theorem bc {H : Nat → Option VObj} {xs : List GLe} {x : GLe} {f : Bool} {k : IntKind} {i : Int} (h : getI xs i = some x) : aC Tryz.prog H 29 (.sl (ad cGLe xs) xs.length f) (.lit (.int k i)) = some (.tp (cGLe x ++ ad cGLe (xs.drop (i.toNat + 1)))) :=
 ixG Tryz.underlying29 (by kernel_rfl : szT Tryz.prog 100 = some 2) (by decide) (fun _ => rfl) h
theorem R9 {c0 c1 : VV} {cs : List VV} : an Tryz.prog 31 (c0 :: c1 :: cs) = some (.agg [c0, c1]) := by
 have h1 : aggT Tryz.prog 31 = some true := by kernel_rfl
 have h2 : szT Tryz.prog 31 = some 2 := by kernel_rfl
 simp [an, aA, h1, h2]
theorem RA : szT Tryz.prog 31 = some 2 := by kernel_rfl
theorem sB : vzl Tryz.prog 31 = some [.lit (.slice none 0 0), .lit (.slice none 0 0)] := by kernel_rfl
theorem RB {H : Nat → Option VObj} {cs : List VV} : aa Tryz.prog H 31 (.tp cs) 0 = some (.tp (cs.drop 0)) := by
 have h2 : szT Tryz.prog 22 = some 1 := by kernel_rfl
 simp [aa, Tryz.underlying31, h2]
theorem RC {H : Nat → Option VObj} {β o : Nat} : aa Tryz.prog H 31 (.ptr β o) 0 = if (H β).isSome = true then some (.ptr β (o + 0)) else none := by
 have h2 : szT Tryz.prog 22 = some 1 := by kernel_rfl
 simp [aa, Tryz.underlying31, h2]
theorem RE {c0 c1 : VV} : aq Tryz.prog 31 (.agg [c0, c1]) 0 = some (c0) := by
 have h1 : aggT Tryz.prog 22 = some false := by kernel_rfl
 have h2 : szT Tryz.prog 22 = some 1 := by kernel_rfl
 simp [aq, Tryz.underlying31, aA, h1, h2]
theorem RF {H : Nat → Option VObj} {cs : List VV} : aa Tryz.prog H 31 (.tp cs) 1 = some (.tp (cs.drop 1)) := by
 have h2 : szT Tryz.prog 29 = some 1 := by kernel_rfl
 simp [aa, Tryz.underlying31, h2]
theorem RG {H : Nat → Option VObj} {β o : Nat} : aa Tryz.prog H 31 (.ptr β o) 1 = if (H β).isSome = true then some (.ptr β (o + 1)) else none := by
 have h2 : szT Tryz.prog 29 = some 1 := by kernel_rfl
 simp [aa, Tryz.underlying31, h2]
theorem RH {c0 c1 : VV} : aq Tryz.prog 31 (.agg [c0, c1]) 1 = some (c1) := by
 have h1 : aggT Tryz.prog 29 = some false := by kernel_rfl
 have h2 : szT Tryz.prog 29 = some 1 := by kernel_rfl
 simp [aq, Tryz.underlying31, aA, h1, h2]
theorem RI {c : VV} {cs : List VV} : an Tryz.prog 35 (c :: cs) = some c := by
 have h1 : aggT Tryz.prog 35 = some false := by kernel_rfl
 simp [an, aA, h1]
theorem RJ : szT Tryz.prog 35 = some 1 := by kernel_rfl
theorem DU : vzl Tryz.prog 35 = some [.lit (.int .i64 0)] := by kernel_rfl
theorem RK {c : VV} {cs : List VV} : an Tryz.prog 44 (c :: cs) = some c := by
 have h1 : aggT Tryz.prog 44 = some false := by kernel_rfl
 simp [an, aA, h1]
theorem RL : szT Tryz.prog 44 = some 1 := by kernel_rfl
theorem DV : vzl Tryz.prog 44 = some [.lit (.slice none 0 0)] := by kernel_rfl
theorem DW {H : Nat → Option VObj} {cs : List VV} {n : Nat} {f : Bool} : vlen Tryz.prog H 44 (.sl cs n f) = some (.lit (.int .i64 n)) := by simp [vlen, Tryz.underlying44, sls]
theorem lenN44 {H : Nat → Option VObj} : vlen Tryz.prog H 44 (.lit (.slice none 0 0)) = some (.lit (.int .i64 0)) := by simp [vlen, Tryz.underlying44, sls]
theorem lenR44 {H : Nat → Option VObj} {β off n w c : Nat} : vlen Tryz.prog H 44 (.ref β off n w c) = (match H β with | some (.cells _ cs) => if off ≤ cs.length then some (.lit (.int .i64 n)) else none | _ => none) := lenR Tryz.underlying44
theorem RM : elemT Tryz.prog 44 = some 22 := by simp [elemT, Tryz.underlying44]
theorem RN {xs : List (List Int)} : (ad (eSl eI) xs).take (xs.length * 1) = ad (eSl eI) xs := sZ (fun _ => rfl)
theorem RO {a0 : VV} (h : leafL [a0] = true) : ah Tryz.prog 44 1 [(0, a0)] = some ([a0], 1) := by
 have h2 : szT Tryz.prog 22 = some 1 := by kernel_rfl
 have h3 : vzero Tryz.prog 22 = some #[.slice none 0 0] := by kernel_rfl
 simp only [fU, fT, Bool.and_true, Bool.and_eq_true] at h
 simp [ah, Tryz.underlying44, h2, h3, vfill, vcells1, h, overwrite, aZ, List.range_succ]
theorem RP {a0 a1 : VV} (h : leafL [a0, a1] = true) : ah Tryz.prog 44 2 [(0, a0), (1, a1)] = some ([a0, a1], 1) := by
 have h2 : szT Tryz.prog 22 = some 1 := by kernel_rfl
 have h3 : vzero Tryz.prog 22 = some #[.slice none 0 0] := by kernel_rfl
 simp only [fU, fT, Bool.and_true, Bool.and_eq_true] at h
 simp [ah, Tryz.underlying44, h2, h3, vfill, vcells1, h, overwrite, aZ, List.range_succ]
theorem RQ {a0 a1 a2 : VV} (h : leafL [a0, a1, a2] = true) : ah Tryz.prog 44 3 [(0, a0), (1, a1), (2, a2)] = some ([a0, a1, a2], 1) := by
 have h2 : szT Tryz.prog 22 = some 1 := by kernel_rfl
 have h3 : vzero Tryz.prog 22 = some #[.slice none 0 0] := by kernel_rfl
 simp only [fU, fT, Bool.and_true, Bool.and_eq_true] at h
 simp [ah, Tryz.underlying44, h2, h3, vfill, vcells1, h, overwrite, aZ, List.range_succ]
theorem RT {c : VV} {cs : List VV} : an Tryz.prog 47 (c :: cs) = some c := by
 have h1 : aggT Tryz.prog 47 = some false := by kernel_rfl
 simp [an, aA, h1]
theorem RU : szT Tryz.prog 47 = some 1 := by kernel_rfl
theorem DX : vzl Tryz.prog 47 = some [.lit (.slice none 0 0)] := by kernel_rfl
theorem DY {H : Nat → Option VObj} {cs : List VV} {n : Nat} {f : Bool} : vlen Tryz.prog H 47 (.sl cs n f) = some (.lit (.int .i64 n)) := by simp [vlen, Tryz.underlying47, sls]
theorem lenN47 {H : Nat → Option VObj} : vlen Tryz.prog H 47 (.lit (.slice none 0 0)) = some (.lit (.int .i64 0)) := by simp [vlen, Tryz.underlying47, sls]
theorem lenR47 {H : Nat → Option VObj} {β off n w c : Nat} : vlen Tryz.prog H 47 (.ref β off n w c) = (match H β with | some (.cells _ cs) => if off ≤ cs.length then some (.lit (.int .i64 n)) else none | _ => none) := lenR Tryz.underlying47
theorem RV : elemT Tryz.prog 47 = some 49 := by simp [elemT, Tryz.underlying47]
theorem RW {xs : List (List Gmahlstickref01Letter)} : (ad (eSl aW) xs).take (xs.length * 1) = ad (eSl aW) xs := sZ (fun _ => rfl)
theorem RX {a0 : VV} (h : leafL [a0] = true) : ah Tryz.prog 47 1 [(0, a0)] = some ([a0], 1) := by
 have h2 : szT Tryz.prog 49 = some 1 := by kernel_rfl
 have h3 : vzero Tryz.prog 49 = some #[.slice none 0 0] := by kernel_rfl
 simp only [fU, fT, Bool.and_true, Bool.and_eq_true] at h
 simp [ah, Tryz.underlying47, h2, h3, vfill, vcells1, h, overwrite, aZ, List.range_succ]
theorem RY {a0 a1 : VV} (h : leafL [a0, a1] = true) : ah Tryz.prog 47 2 [(0, a0), (1, a1)] = some ([a0, a1], 1) := by
 have h2 : szT Tryz.prog 49 = some 1 := by kernel_rfl
 have h3 : vzero Tryz.prog 49 = some #[.slice none 0 0] := by kernel_rfl
 simp only [fU, fT, Bool.and_true, Bool.and_eq_true] at h
 simp [ah, Tryz.underlying47, h2, h3, vfill, vcells1, h, overwrite, aZ, List.range_succ]
theorem RZ {a0 a1 a2 : VV} (h : leafL [a0, a1, a2] = true) : ah Tryz.prog 47 3 [(0, a0), (1, a1), (2, a2)] = some ([a0, a1, a2], 1) := by
 have h2 : szT Tryz.prog 49 = some 1 := by kernel_rfl
 have h3 : vzero Tryz.prog 49 = some #[.slice none 0 0] := by kernel_rfl
 simp only [fU, fT, Bool.and_true, Bool.and_eq_true] at h
 simp [ah, Tryz.underlying47, h2, h3, vfill, vcells1, h, overwrite, aZ, List.range_succ]
theorem Sa {c : VV} {cs : List VV} : an Tryz.prog 49 (c :: cs) = some c := by
 have h1 : aggT Tryz.prog 49 = some false := by kernel_rfl
 simp [an, aA, h1]
theorem Sb : szT Tryz.prog 49 = some 1 := by kernel_rfl
theorem DZ : vzl Tryz.prog 49 = some [.lit (.slice none 0 0)] := by kernel_rfl
theorem Ea {H : Nat → Option VObj} {cs : List VV} {n : Nat} {f : Bool} : vlen Tryz.prog H 49 (.sl cs n f) = some (.lit (.int .i64 n)) := by simp [vlen, Tryz.underlying49, sls]
theorem lenN49 {H : Nat → Option VObj} : vlen Tryz.prog H 49 (.lit (.slice none 0 0)) = some (.lit (.int .i64 0)) := by simp [vlen, Tryz.underlying49, sls]
theorem lenR49 {H : Nat → Option VObj} {β off n w c : Nat} : vlen Tryz.prog H 49 (.ref β off n w c) = (match H β with | some (.cells _ cs) => if off ≤ cs.length then some (.lit (.int .i64 n)) else none | _ => none) := lenR Tryz.underlying49
theorem Sc : elemT Tryz.prog 49 = some 51 := by simp [elemT, Tryz.underlying49]
theorem Sd {xs : List Gmahlstickref01Letter} : (ad aW xs).take (xs.length * 2) = ad aW xs := sZ (fun _ => rfl)
theorem Se {c0 c1 : VV} (h : leafL [c0, c1] = true) : ah Tryz.prog 49 1 [(0, .agg [c0, c1])] = some ([c0, c1], 2) := by
 have h2 : szT Tryz.prog 51 = some 2 := by kernel_rfl
 have h3 : vzero Tryz.prog 51 = some #[.int .i64 0, .int .i64 0] := by kernel_rfl
 simp only [fU, fT, Bool.and_true, Bool.and_eq_true] at h
 simp [ah, Tryz.underlying49, h2, h3, vfill, aS, h, overwrite, aZ]
theorem Sf {c0 c1 : VV} {cs : List VV} : an Tryz.prog 51 (c0 :: c1 :: cs) = some (.agg [c0, c1]) := by
 have h1 : aggT Tryz.prog 51 = some true := by kernel_rfl
 have h2 : szT Tryz.prog 51 = some 2 := by kernel_rfl
 simp [an, aA, h1, h2]
theorem Sg : szT Tryz.prog 51 = some 2 := by kernel_rfl
theorem vM : vzl Tryz.prog 51 = some [.lit (.int .i64 0), .lit (.int .i64 0)] := by kernel_rfl
theorem Si {H : Nat → Option VObj} {cs : List VV} : aa Tryz.prog H 51 (.tp cs) 0 = some (.tp (cs.drop 0)) := by
 have h2 : szT Tryz.prog 3 = some 1 := by kernel_rfl
 simp [aa, Tryz.underlying51, h2]
theorem Sj {H : Nat → Option VObj} {β o : Nat} : aa Tryz.prog H 51 (.ptr β o) 0 = if (H β).isSome = true then some (.ptr β (o + 0)) else none := by
 have h2 : szT Tryz.prog 3 = some 1 := by kernel_rfl
 simp [aa, Tryz.underlying51, h2]
theorem Sk {c0 c1 : VV} : aq Tryz.prog 51 (.agg [c0, c1]) 0 = some (c0) := by
 have h1 : aggT Tryz.prog 3 = some false := by kernel_rfl
 have h2 : szT Tryz.prog 3 = some 1 := by kernel_rfl
 simp [aq, Tryz.underlying51, aA, h1, h2]
theorem Sl {H : Nat → Option VObj} {cs : List VV} : aa Tryz.prog H 51 (.tp cs) 1 = some (.tp (cs.drop 1)) := by
 have h2 : szT Tryz.prog 3 = some 1 := by kernel_rfl
 simp [aa, Tryz.underlying51, h2]
theorem Sm {H : Nat → Option VObj} {β o : Nat} : aa Tryz.prog H 51 (.ptr β o) 1 = if (H β).isSome = true then some (.ptr β (o + 1)) else none := by
 have h2 : szT Tryz.prog 3 = some 1 := by kernel_rfl
 simp [aa, Tryz.underlying51, h2]
theorem Sn {c0 c1 : VV} : aq Tryz.prog 51 (.agg [c0, c1]) 1 = some (c1) := by
 have h1 : aggT Tryz.prog 3 = some false := by kernel_rfl
 have h2 : szT Tryz.prog 3 = some 1 := by kernel_rfl
 simp [aq, Tryz.underlying51, aA, h1, h2]
theorem So {c0 c1 c2 : VV} {cs : List VV} : an Tryz.prog 79 (c0 :: c1 :: c2 :: cs) = some (.agg [c0, c1, c2]) := by
 have h1 : aggT Tryz.prog 79 = some true := by kernel_rfl
 have h2 : szT Tryz.prog 79 = some 3 := by kernel_rfl
 simp [an, aA, h1, h2]
theorem Sp : szT Tryz.prog 79 = some 3 := by kernel_rfl
theorem sC : vzl Tryz.prog 79 = some [.lit (.slice none 0 0), .lit (.slice none 0 0), .lit (.bool false)] := by kernel_rfl
theorem Sq {H : Nat → Option VObj} {cs : List VV} : aa Tryz.prog H 79 (.tp cs) 0 = some (.tp (cs.drop 0)) := by
 have h2 : szT Tryz.prog 22 = some 1 := by kernel_rfl
 simp [aa, Tryz.underlying79, h2]
theorem Sr {H : Nat → Option VObj} {β o : Nat} : aa Tryz.prog H 79 (.ptr β o) 0 = if (H β).isSome = true then some (.ptr β (o + 0)) else none := by
 have h2 : szT Tryz.prog 22 = some 1 := by kernel_rfl
 simp [aa, Tryz.underlying79, h2]
theorem Ss {c0 c1 c2 : VV} : aq Tryz.prog 79 (.agg [c0, c1, c2]) 0 = some (c0) := by
 have h1 : aggT Tryz.prog 22 = some false := by kernel_rfl
 have h2 : szT Tryz.prog 22 = some 1 := by kernel_rfl
 simp [aq, Tryz.underlying79, aA, h1, h2]
theorem Su {H : Nat → Option VObj} {cs : List VV} : aa Tryz.prog H 79 (.tp cs) 1 = some (.tp (cs.drop 1)) := by
 have h2 : szT Tryz.prog 22 = some 1 := by kernel_rfl
 simp [aa, Tryz.underlying79, h2]
theorem Sv {H : Nat → Option VObj} {β o : Nat} : aa Tryz.prog H 79 (.ptr β o) 1 = if (H β).isSome = true then some (.ptr β (o + 1)) else none := by
 have h2 : szT Tryz.prog 22 = some 1 := by kernel_rfl
 simp [aa, Tryz.underlying79, h2]
theorem Sw {c0 c1 c2 : VV} : aq Tryz.prog 79 (.agg [c0, c1, c2]) 1 = some (c1) := by
 have h1 : aggT Tryz.prog 22 = some false := by kernel_rfl
 have h2 : szT Tryz.prog 22 = some 1 := by kernel_rfl
 simp [aq, Tryz.underlying79, aA, h1, h2]
theorem Sx {H : Nat → Option VObj} {cs : List VV} : aa Tryz.prog H 79 (.tp cs) 2 = some (.tp (cs.drop 2)) := by
 have h2 : szT Tryz.prog 4 = some 1 := by kernel_rfl
 simp [aa, Tryz.underlying79, h2]
theorem Sy {H : Nat → Option VObj} {β o : Nat} : aa Tryz.prog H 79 (.ptr β o) 2 = if (H β).isSome = true then some (.ptr β (o + 2)) else none := by
 have h2 : szT Tryz.prog 4 = some 1 := by kernel_rfl
 simp [aa, Tryz.underlying79, h2]
theorem Sz {c0 c1 c2 : VV} : aq Tryz.prog 79 (.agg [c0, c1, c2]) 2 = some (c2) := by
 have h1 : aggT Tryz.prog 4 = some false := by kernel_rfl
 have h2 : szT Tryz.prog 4 = some 1 := by kernel_rfl
 simp [aq, Tryz.underlying79, aA, h1, h2]
theorem S0 {c : VV} {cs : List VV} : an Tryz.prog 91 (c :: cs) = some c := by
 have h1 : aggT Tryz.prog 91 = some false := by kernel_rfl
 simp [an, aA, h1]
theorem S1 : szT Tryz.prog 91 = some 1 := by kernel_rfl
theorem Eb : vzl Tryz.prog 91 = some [.lit (.slice none 0 0)] := by kernel_rfl
theorem Ec {H : Nat → Option VObj} {cs : List VV} {n : Nat} {f : Bool} : vlen Tryz.prog H 91 (.sl cs n f) = some (.lit (.int .i64 n)) := by simp [vlen, Tryz.underlying91, sls]
theorem lenN91 {H : Nat → Option VObj} : vlen Tryz.prog H 91 (.lit (.slice none 0 0)) = some (.lit (.int .i64 0)) := by simp [vlen, Tryz.underlying91, sls]
theorem lenR91 {H : Nat → Option VObj} {β off n w c : Nat} : vlen Tryz.prog H 91 (.ref β off n w c) = (match H β with | some (.cells _ cs) => if off ≤ cs.length then some (.lit (.int .i64 n)) else none | _ => none) := lenR Tryz.underlying91
theorem hC : elemT Tryz.prog 91 = some 144 := by simp [elemT, Tryz.underlying91]
theorem ma : appOk Tryz.prog 91 = some (144, 4, 32) := by kernel_rfl
theorem S2 {xs : List Glm} : (ad cGlm xs).take (xs.length * 4) = ad cGlm xs := sZ (fun _ => rfl)
theorem lZ : ∀ x : Glm, leafL (cGlm x) = true := fun x => by simp only [eI_eq, tP, eB_eq, eS_eq, tQ, DI, fT, fU, FW, FX, FY, FZ, Ga, Bool.and_self]
theorem S3 {c0 c1 c2 c3 : VV} (h : leafL [c0, c1, c2, c3] = true) : ah Tryz.prog 91 1 [(0, .agg [c0, c1, c2, c3])] = some ([c0, c1, c2, c3], 4) := by
 have h2 : szT Tryz.prog 144 = some 4 := by kernel_rfl
 have h3 : vzero Tryz.prog 144 = some #[.int .i64 0, .int .i64 0, .int .i64 0, .bool false] := by kernel_rfl
 simp only [fU, fT, Bool.and_true, Bool.and_eq_true] at h
 simp [ah, Tryz.underlying91, h2, h3, vfill, aS, h, overwrite, aZ]
theorem bk {H : Nat → Option VObj} {xs : List Glm} {x : Glm} {f : Bool} {k : IntKind} {i : Int} (h : getI xs i = some x) : aC Tryz.prog H 91 (.sl (ad cGlm xs) xs.length f) (.lit (.int k i)) = some (.tp (cGlm x ++ ad cGlm (xs.drop (i.toNat + 1)))) :=
 ixG Tryz.underlying91 (by kernel_rfl : szT Tryz.prog 144 = some 4) (by decide) (fun _ => rfl) h
theorem S4 {c0 c1 c2 c3 c4 c5 c6 c7 c8 c9 mA nh qp n0 qq : VV} {cs : List VV} : an Tryz.prog 93 (c0 :: c1 :: c2 :: c3 :: c4 :: c5 :: c6 :: c7 :: c8 :: c9 :: mA :: nh :: qp :: n0 :: qq :: cs) = some (.agg [c0, c1, c2, c3, c4, c5, c6, c7, c8, c9, mA, nh, qp, n0, qq]) := by
 have h1 : aggT Tryz.prog 93 = some true := by kernel_rfl
 have h2 : szT Tryz.prog 93 = some 15 := by kernel_rfl
 simp [an, aA, h1, h2]
theorem S5 : szT Tryz.prog 93 = some 15 := by kernel_rfl
theorem sD : vzl Tryz.prog 93 = some [.lit (.slice none 0 0), .lit (.slice none 0 0), .lit (.int .i64 0), .lit (.int .i64 0), .lit (.int .i64 0), .lit (.int .i64 0), .lit (.int .i64 0), .lit (.slice none 0 0), .lit (.int .i64 0), .lit (.int .i64 0), .lit (.slice none 0 0), .lit (.slice none 0 0), .lit (.int .i64 0), .lit (.map none), .lit (.slice none 0 0)] := by kernel_rfl
theorem S6 {H : Nat → Option VObj} {cs : List VV} : aa Tryz.prog H 93 (.tp cs) 0 = some (.tp (cs.drop 0)) := by
 have h2 : szT Tryz.prog 28 = some 10 := by kernel_rfl
 simp [aa, Tryz.underlying93, h2]
theorem S7 {H : Nat → Option VObj} {β o : Nat} : aa Tryz.prog H 93 (.ptr β o) 0 = if (H β).isSome = true then some (.ptr β (o + 0)) else none := by
 have h2 : szT Tryz.prog 28 = some 10 := by kernel_rfl
 simp [aa, Tryz.underlying93, h2]
theorem S8 {c0 c1 c2 c3 c4 c5 c6 c7 c8 c9 mA nh qp n0 qq : VV} : aq Tryz.prog 93 (.agg [c0, c1, c2, c3, c4, c5, c6, c7, c8, c9, mA, nh, qp, n0, qq]) 0 = some (.agg [c0, c1, c2, c3, c4, c5, c6, c7, c8, c9]) := by
 have h1 : aggT Tryz.prog 28 = some true := by kernel_rfl
 have h2 : szT Tryz.prog 28 = some 10 := by kernel_rfl
 simp [aq, Tryz.underlying93, aA, h1, h2]
theorem S9 {H : Nat → Option VObj} {cs : List VV} : aa Tryz.prog H 93 (.tp cs) 1 = some (.tp (cs.drop 10)) := by
 have h2 : szT Tryz.prog 31 = some 2 := by kernel_rfl
 simp [aa, Tryz.underlying93, h2]
theorem SA {H : Nat → Option VObj} {β o : Nat} : aa Tryz.prog H 93 (.ptr β o) 1 = if (H β).isSome = true then some (.ptr β (o + 10)) else none := by
 have h2 : szT Tryz.prog 31 = some 2 := by kernel_rfl
 simp [aa, Tryz.underlying93, h2]
theorem SB {c0 c1 c2 c3 c4 c5 c6 c7 c8 c9 mA nh qp n0 qq : VV} : aq Tryz.prog 93 (.agg [c0, c1, c2, c3, c4, c5, c6, c7, c8, c9, mA, nh, qp, n0, qq]) 1 = some (.agg [mA, nh]) := by
 have h1 : aggT Tryz.prog 31 = some true := by kernel_rfl
 have h2 : szT Tryz.prog 31 = some 2 := by kernel_rfl
 simp [aq, Tryz.underlying93, aA, h1, h2]
theorem SC {H : Nat → Option VObj} {cs : List VV} : aa Tryz.prog H 93 (.tp cs) 2 = some (.tp (cs.drop 12)) := by
 have h2 : szT Tryz.prog 3 = some 1 := by kernel_rfl
 simp [aa, Tryz.underlying93, h2]
theorem SD {H : Nat → Option VObj} {β o : Nat} : aa Tryz.prog H 93 (.ptr β o) 2 = if (H β).isSome = true then some (.ptr β (o + 12)) else none := by
 have h2 : szT Tryz.prog 3 = some 1 := by kernel_rfl
 simp [aa, Tryz.underlying93, h2]
theorem SE {c0 c1 c2 c3 c4 c5 c6 c7 c8 c9 mA nh qp n0 qq : VV} : aq Tryz.prog 93 (.agg [c0, c1, c2, c3, c4, c5, c6, c7, c8, c9, mA, nh, qp, n0, qq]) 2 = some (qp) := by
 have h1 : aggT Tryz.prog 3 = some false := by kernel_rfl
 have h2 : szT Tryz.prog 3 = some 1 := by kernel_rfl
 simp [aq, Tryz.underlying93, aA, h1, h2]
theorem SF {H : Nat → Option VObj} {cs : List VV} : aa Tryz.prog H 93 (.tp cs) 3 = some (.tp (cs.drop 13)) := by
 have h2 : szT Tryz.prog 90 = some 1 := by kernel_rfl
 simp [aa, Tryz.underlying93, h2]
theorem SG {H : Nat → Option VObj} {β o : Nat} : aa Tryz.prog H 93 (.ptr β o) 3 = if (H β).isSome = true then some (.ptr β (o + 13)) else none := by
 have h2 : szT Tryz.prog 90 = some 1 := by kernel_rfl
 simp [aa, Tryz.underlying93, h2]
theorem SH {c0 c1 c2 c3 c4 c5 c6 c7 c8 c9 mA nh qp n0 qq : VV} : aq Tryz.prog 93 (.agg [c0, c1, c2, c3, c4, c5, c6, c7, c8, c9, mA, nh, qp, n0, qq]) 3 = some (n0) := by
 have h1 : aggT Tryz.prog 90 = some false := by kernel_rfl
 have h2 : szT Tryz.prog 90 = some 1 := by kernel_rfl
 simp [aq, Tryz.underlying93, aA, h1, h2]
theorem SI {H : Nat → Option VObj} {cs : List VV} : aa Tryz.prog H 93 (.tp cs) 4 = some (.tp (cs.drop 14)) := by
 have h2 : szT Tryz.prog 91 = some 1 := by kernel_rfl
 simp [aa, Tryz.underlying93, h2]
theorem SJ {H : Nat → Option VObj} {β o : Nat} : aa Tryz.prog H 93 (.ptr β o) 4 = if (H β).isSome = true then some (.ptr β (o + 14)) else none := by
 have h2 : szT Tryz.prog 91 = some 1 := by kernel_rfl
 simp [aa, Tryz.underlying93, h2]
theorem SK {c0 c1 c2 c3 c4 c5 c6 c7 c8 c9 mA nh qp n0 qq : VV} : aq Tryz.prog 93 (.agg [c0, c1, c2, c3, c4, c5, c6, c7, c8, c9, mA, nh, qp, n0, qq]) 4 = some (qq) := by
 have h1 : aggT Tryz.prog 91 = some false := by kernel_rfl
 have h2 : szT Tryz.prog 91 = some 1 := by kernel_rfl
 simp [aq, Tryz.underlying93, aA, h1, h2]
theorem Ed {c0 c1 : VV} {cs : List VV} : an Tryz.prog 100 (c0 :: c1 :: cs) = some (.agg [c0, c1]) := by
 have h1 : aggT Tryz.prog 100 = some true := by kernel_rfl
 have h2 : szT Tryz.prog 100 = some 2 := by kernel_rfl
 simp [an, aA, h1, h2]
theorem Ee : szT Tryz.prog 100 = some 2 := by kernel_rfl
theorem sE : vzl Tryz.prog 100 = some [.lit (.int .i64 0), .lit (.int .i64 0)] := by kernel_rfl
theorem SL {H : Nat → Option VObj} {cs : List VV} : aa Tryz.prog H 100 (.tp cs) 0 = some (.tp (cs.drop 0)) := by
 have h2 : szT Tryz.prog 3 = some 1 := by kernel_rfl
 simp [aa, Tryz.underlying100, h2]
theorem SM {H : Nat → Option VObj} {β o : Nat} : aa Tryz.prog H 100 (.ptr β o) 0 = if (H β).isSome = true then some (.ptr β (o + 0)) else none := by
 have h2 : szT Tryz.prog 3 = some 1 := by kernel_rfl
 simp [aa, Tryz.underlying100, h2]
theorem SN {c0 c1 : VV} : aq Tryz.prog 100 (.agg [c0, c1]) 0 = some (c0) := by
 have h1 : aggT Tryz.prog 3 = some false := by kernel_rfl
 have h2 : szT Tryz.prog 3 = some 1 := by kernel_rfl
 simp [aq, Tryz.underlying100, aA, h1, h2]
theorem SO {H : Nat → Option VObj} {cs : List VV} : aa Tryz.prog H 100 (.tp cs) 1 = some (.tp (cs.drop 1)) := by
 have h2 : szT Tryz.prog 3 = some 1 := by kernel_rfl
 simp [aa, Tryz.underlying100, h2]
theorem SP {H : Nat → Option VObj} {β o : Nat} : aa Tryz.prog H 100 (.ptr β o) 1 = if (H β).isSome = true then some (.ptr β (o + 1)) else none := by
 have h2 : szT Tryz.prog 3 = some 1 := by kernel_rfl
 simp [aa, Tryz.underlying100, h2]
theorem SQ {c0 c1 : VV} : aq Tryz.prog 100 (.agg [c0, c1]) 1 = some (c1) := by
 have h1 : aggT Tryz.prog 3 = some false := by kernel_rfl
 have h2 : szT Tryz.prog 3 = some 1 := by kernel_rfl
 simp [aq, Tryz.underlying100, aA, h1, h2]
theorem Ef {c0 c1 c2 c3 : VV} {cs : List VV} : an Tryz.prog 108 (c0 :: c1 :: c2 :: c3 :: cs) = some (.agg [c0, c1, c2, c3]) := by
 have h1 : aggT Tryz.prog 108 = some true := by kernel_rfl
 have h2 : szT Tryz.prog 108 = some 4 := by kernel_rfl
 simp [an, aA, h1, h2]
theorem Eg : szT Tryz.prog 108 = some 4 := by kernel_rfl
theorem xX : vzl Tryz.prog 108 = some [.lit (.int .i64 0), .lit (.int .i64 0), .lit (.int .i64 0), .lit (.int .i64 0)] := by kernel_rfl
theorem SS {H : Nat → Option VObj} {cs : List VV} : aa Tryz.prog H 108 (.tp cs) 0 = some (.tp (cs.drop 0)) := by
 have h2 : szT Tryz.prog 3 = some 1 := by kernel_rfl
 simp [aa, Tryz.underlying108, h2]
theorem SU {H : Nat → Option VObj} {β o : Nat} : aa Tryz.prog H 108 (.ptr β o) 0 = if (H β).isSome = true then some (.ptr β (o + 0)) else none := by
 have h2 : szT Tryz.prog 3 = some 1 := by kernel_rfl
 simp [aa, Tryz.underlying108, h2]
theorem SV {c0 c1 c2 c3 : VV} : aq Tryz.prog 108 (.agg [c0, c1, c2, c3]) 0 = some (c0) := by
 have h1 : aggT Tryz.prog 3 = some false := by kernel_rfl
 have h2 : szT Tryz.prog 3 = some 1 := by kernel_rfl
 simp [aq, Tryz.underlying108, aA, h1, h2]
theorem SW {H : Nat → Option VObj} {cs : List VV} : aa Tryz.prog H 108 (.tp cs) 1 = some (.tp (cs.drop 1)) := by
 have h2 : szT Tryz.prog 3 = some 1 := by kernel_rfl
 simp [aa, Tryz.underlying108, h2]
theorem SX {H : Nat → Option VObj} {β o : Nat} : aa Tryz.prog H 108 (.ptr β o) 1 = if (H β).isSome = true then some (.ptr β (o + 1)) else none := by
 have h2 : szT Tryz.prog 3 = some 1 := by kernel_rfl
 simp [aa, Tryz.underlying108, h2]
theorem SY {c0 c1 c2 c3 : VV} : aq Tryz.prog 108 (.agg [c0, c1, c2, c3]) 1 = some (c1) := by
 have h1 : aggT Tryz.prog 3 = some false := by kernel_rfl
 have h2 : szT Tryz.prog 3 = some 1 := by kernel_rfl
 simp [aq, Tryz.underlying108, aA, h1, h2]
theorem SZ {H : Nat → Option VObj} {cs : List VV} : aa Tryz.prog H 108 (.tp cs) 2 = some (.tp (cs.drop 2)) := by
 have h2 : szT Tryz.prog 25 = some 2 := by kernel_rfl
 simp [aa, Tryz.underlying108, h2]
theorem Ta {H : Nat → Option VObj} {β o : Nat} : aa Tryz.prog H 108 (.ptr β o) 2 = if (H β).isSome = true then some (.ptr β (o + 2)) else none := by
 have h2 : szT Tryz.prog 25 = some 2 := by kernel_rfl
 simp [aa, Tryz.underlying108, h2]
theorem Tb {c0 c1 c2 c3 : VV} : aq Tryz.prog 108 (.agg [c0, c1, c2, c3]) 2 = some (.agg [c2, c3]) := by
 have h1 : aggT Tryz.prog 25 = some true := by kernel_rfl
 have h2 : szT Tryz.prog 25 = some 2 := by kernel_rfl
 simp [aq, Tryz.underlying108, aA, h1, h2]
theorem Eh {c : VV} {cs : List VV} : an Tryz.prog 117 (c :: cs) = some c := by
 have h1 : aggT Tryz.prog 117 = some false := by kernel_rfl
 simp [an, aA, h1]
theorem Ei : szT Tryz.prog 117 = some 1 := by kernel_rfl
theorem xY : vzl Tryz.prog 117 = some [.lit (.slice none 0 0)] := by kernel_rfl
theorem xZ {H : Nat → Option VObj} {cs : List VV} {n : Nat} {f : Bool} : vlen Tryz.prog H 117 (.sl cs n f) = some (.lit (.int .i64 n)) := by simp [vlen, Tryz.underlying117, sls]
theorem lenN117 {H : Nat → Option VObj} : vlen Tryz.prog H 117 (.lit (.slice none 0 0)) = some (.lit (.int .i64 0)) := by simp [vlen, Tryz.underlying117, sls]
theorem lenR117 {H : Nat → Option VObj} {β off n w c : Nat} : vlen Tryz.prog H 117 (.ref β off n w c) = (match H β with | some (.cells _ cs) => if off ≤ cs.length then some (.lit (.int .i64 n)) else none | _ => none) := lenR Tryz.underlying117
theorem Ej : elemT Tryz.prog 117 = some 31 := by simp [elemT, Tryz.underlying117]
theorem Ek {xs : List GLx} : (ad cGLx xs).take (xs.length * 2) = ad cGLx xs := sZ (fun _ => rfl)
theorem Tc {c0 c1 : VV} (h : leafL [c0, c1] = true) : ah Tryz.prog 117 1 [(0, .agg [c0, c1])] = some ([c0, c1], 2) := by
 have h2 : szT Tryz.prog 31 = some 2 := by kernel_rfl
 have h3 : vzero Tryz.prog 31 = some #[.slice none 0 0, .slice none 0 0] := by kernel_rfl
 simp only [fU, fT, Bool.and_true, Bool.and_eq_true] at h
 simp [ah, Tryz.underlying117, h2, h3, vfill, aS, h, overwrite, aZ]
theorem El {c0 c1 : VV} {cs : List VV} : an Tryz.prog 142 (c0 :: c1 :: cs) = some (.agg [c0, c1]) := by
 have h1 : aggT Tryz.prog 142 = some true := by kernel_rfl
 have h2 : szT Tryz.prog 142 = some 2 := by kernel_rfl
 simp [an, aA, h1, h2]
theorem Em : szT Tryz.prog 142 = some 2 := by kernel_rfl
theorem sF : vzl Tryz.prog 142 = some [.lit (.int .i64 0), .lit (.int .i64 0)] := by kernel_rfl
theorem Td {H : Nat → Option VObj} {cs : List VV} : aa Tryz.prog H 142 (.tp cs) 0 = some (.tp (cs.drop 0)) := by
 have h2 : szT Tryz.prog 3 = some 1 := by kernel_rfl
 simp [aa, Tryz.underlying142, h2]
theorem Te {H : Nat → Option VObj} {β o : Nat} : aa Tryz.prog H 142 (.ptr β o) 0 = if (H β).isSome = true then some (.ptr β (o + 0)) else none := by
 have h2 : szT Tryz.prog 3 = some 1 := by kernel_rfl
 simp [aa, Tryz.underlying142, h2]
theorem Tf {c0 c1 : VV} : aq Tryz.prog 142 (.agg [c0, c1]) 0 = some (c0) := by
 have h1 : aggT Tryz.prog 3 = some false := by kernel_rfl
 have h2 : szT Tryz.prog 3 = some 1 := by kernel_rfl
 simp [aq, Tryz.underlying142, aA, h1, h2]
theorem Tg {H : Nat → Option VObj} {cs : List VV} : aa Tryz.prog H 142 (.tp cs) 1 = some (.tp (cs.drop 1)) := by
 have h2 : szT Tryz.prog 3 = some 1 := by kernel_rfl
 simp [aa, Tryz.underlying142, h2]
theorem Th {H : Nat → Option VObj} {β o : Nat} : aa Tryz.prog H 142 (.ptr β o) 1 = if (H β).isSome = true then some (.ptr β (o + 1)) else none := by
 have h2 : szT Tryz.prog 3 = some 1 := by kernel_rfl
 simp [aa, Tryz.underlying142, h2]
theorem Ti {c0 c1 : VV} : aq Tryz.prog 142 (.agg [c0, c1]) 1 = some (c1) := by
 have h1 : aggT Tryz.prog 3 = some false := by kernel_rfl
 have h2 : szT Tryz.prog 3 = some 1 := by kernel_rfl
 simp [aq, Tryz.underlying142, aA, h1, h2]
theorem En {c0 c1 c2 c3 : VV} {cs : List VV} : an Tryz.prog 144 (c0 :: c1 :: c2 :: c3 :: cs) = some (.agg [c0, c1, c2, c3]) := by
 have h1 : aggT Tryz.prog 144 = some true := by kernel_rfl
 have h2 : szT Tryz.prog 144 = some 4 := by kernel_rfl
 simp [an, aA, h1, h2]
theorem Eo : szT Tryz.prog 144 = some 4 := by kernel_rfl
theorem sG : vzl Tryz.prog 144 = some [.lit (.int .i64 0), .lit (.int .i64 0), .lit (.int .i64 0), .lit (.bool false)] := by kernel_rfl
theorem Tj {H : Nat → Option VObj} {cs : List VV} : aa Tryz.prog H 144 (.tp cs) 0 = some (.tp (cs.drop 0)) := by
 have h2 : szT Tryz.prog 3 = some 1 := by kernel_rfl
 simp [aa, Tryz.underlying144, h2]
theorem Tk {H : Nat → Option VObj} {β o : Nat} : aa Tryz.prog H 144 (.ptr β o) 0 = if (H β).isSome = true then some (.ptr β (o + 0)) else none := by
 have h2 : szT Tryz.prog 3 = some 1 := by kernel_rfl
 simp [aa, Tryz.underlying144, h2]
theorem Tl {c0 c1 c2 c3 : VV} : aq Tryz.prog 144 (.agg [c0, c1, c2, c3]) 0 = some (c0) := by
 have h1 : aggT Tryz.prog 3 = some false := by kernel_rfl
 have h2 : szT Tryz.prog 3 = some 1 := by kernel_rfl
 simp [aq, Tryz.underlying144, aA, h1, h2]
theorem Tm {H : Nat → Option VObj} {cs : List VV} : aa Tryz.prog H 144 (.tp cs) 1 = some (.tp (cs.drop 1)) := by
 have h2 : szT Tryz.prog 3 = some 1 := by kernel_rfl
 simp [aa, Tryz.underlying144, h2]
theorem Tn {H : Nat → Option VObj} {β o : Nat} : aa Tryz.prog H 144 (.ptr β o) 1 = if (H β).isSome = true then some (.ptr β (o + 1)) else none := by
 have h2 : szT Tryz.prog 3 = some 1 := by kernel_rfl
 simp [aa, Tryz.underlying144, h2]
theorem To {c0 c1 c2 c3 : VV} : aq Tryz.prog 144 (.agg [c0, c1, c2, c3]) 1 = some (c1) := by
 have h1 : aggT Tryz.prog 3 = some false := by kernel_rfl
 have h2 : szT Tryz.prog 3 = some 1 := by kernel_rfl
 simp [aq, Tryz.underlying144, aA, h1, h2]
theorem Tp {H : Nat → Option VObj} {cs : List VV} : aa Tryz.prog H 144 (.tp cs) 2 = some (.tp (cs.drop 2)) := by
 have h2 : szT Tryz.prog 3 = some 1 := by kernel_rfl
 simp [aa, Tryz.underlying144, h2]
theorem Tq {H : Nat → Option VObj} {β o : Nat} : aa Tryz.prog H 144 (.ptr β o) 2 = if (H β).isSome = true then some (.ptr β (o + 2)) else none := by
 have h2 : szT Tryz.prog 3 = some 1 := by kernel_rfl
 simp [aa, Tryz.underlying144, h2]
theorem Ts {c0 c1 c2 c3 : VV} : aq Tryz.prog 144 (.agg [c0, c1, c2, c3]) 2 = some (c2) := by
 have h1 : aggT Tryz.prog 3 = some false := by kernel_rfl
 have h2 : szT Tryz.prog 3 = some 1 := by kernel_rfl
 simp [aq, Tryz.underlying144, aA, h1, h2]
theorem Tt {H : Nat → Option VObj} {cs : List VV} : aa Tryz.prog H 144 (.tp cs) 3 = some (.tp (cs.drop 3)) := by
 have h2 : szT Tryz.prog 4 = some 1 := by kernel_rfl
 simp [aa, Tryz.underlying144, h2]
theorem Tu {H : Nat → Option VObj} {β o : Nat} : aa Tryz.prog H 144 (.ptr β o) 3 = if (H β).isSome = true then some (.ptr β (o + 3)) else none := by
 have h2 : szT Tryz.prog 4 = some 1 := by kernel_rfl
 simp [aa, Tryz.underlying144, h2]
theorem Tv {c0 c1 c2 c3 : VV} : aq Tryz.prog 144 (.agg [c0, c1, c2, c3]) 3 = some (c3) := by
 have h1 : aggT Tryz.prog 4 = some false := by kernel_rfl
 have h2 : szT Tryz.prog 4 = some 1 := by kernel_rfl
 simp [aq, Tryz.underlying144, aA, h1, h2]
theorem Ep {c : VV} {cs : List VV} : an Tryz.prog 146 (c :: cs) = some c := by
 have h1 : aggT Tryz.prog 146 = some false := by kernel_rfl
 simp [an, aA, h1]
theorem Er : szT Tryz.prog 146 = some 1 := by kernel_rfl
theorem ya : vzl Tryz.prog 146 = some [.lit (.int .i64 0)] := by kernel_rfl
theorem Es {c : VV} {cs : List VV} : an Tryz.prog 158 (c :: cs) = some c := by
 have h1 : aggT Tryz.prog 158 = some false := by kernel_rfl
 simp [an, aA, h1]
theorem Et : szT Tryz.prog 158 = some 1 := by kernel_rfl
theorem yb : vzl Tryz.prog 158 = some [.lit (.slice none 0 0)] := by kernel_rfl
theorem yc {H : Nat → Option VObj} {cs : List VV} {n : Nat} {f : Bool} : vlen Tryz.prog H 158 (.sl cs n f) = some (.lit (.int .i64 n)) := by simp [vlen, Tryz.underlying158, sls]
theorem lenN158 {H : Nat → Option VObj} : vlen Tryz.prog H 158 (.lit (.slice none 0 0)) = some (.lit (.int .i64 0)) := by simp [vlen, Tryz.underlying158, sls]
theorem lenR158 {H : Nat → Option VObj} {β off n w c : Nat} : vlen Tryz.prog H 158 (.ref β off n w c) = (match H β with | some (.cells _ cs) => if off ≤ cs.length then some (.lit (.int .i64 n)) else none | _ => none) := lenR Tryz.underlying158
theorem Eu : elemT Tryz.prog 158 = some 29 := by simp [elemT, Tryz.underlying158]
theorem Ev {xs : List (List GLe)} : (ad (eSl cGLe) xs).take (xs.length * 1) = ad (eSl cGLe) xs := sZ (fun _ => rfl)
theorem Tw {a0 : VV} (h : leafL [a0] = true) : ah Tryz.prog 158 1 [(0, a0)] = some ([a0], 1) := by
 have h2 : szT Tryz.prog 29 = some 1 := by kernel_rfl
 have h3 : vzero Tryz.prog 29 = some #[.slice none 0 0] := by kernel_rfl
 simp only [fU, fT, Bool.and_true, Bool.and_eq_true] at h
 simp [ah, Tryz.underlying158, h2, h3, vfill, vcells1, h, overwrite, aZ, List.range_succ]
theorem Tx {a0 a1 : VV} (h : leafL [a0, a1] = true) : ah Tryz.prog 158 2 [(0, a0), (1, a1)] = some ([a0, a1], 1) := by
 have h2 : szT Tryz.prog 29 = some 1 := by kernel_rfl
 have h3 : vzero Tryz.prog 29 = some #[.slice none 0 0] := by kernel_rfl
 simp only [fU, fT, Bool.and_true, Bool.and_eq_true] at h
 simp [ah, Tryz.underlying158, h2, h3, vfill, vcells1, h, overwrite, aZ, List.range_succ]
theorem Ty {a0 a1 a2 : VV} (h : leafL [a0, a1, a2] = true) : ah Tryz.prog 158 3 [(0, a0), (1, a1), (2, a2)] = some ([a0, a1, a2], 1) := by
 have h2 : szT Tryz.prog 29 = some 1 := by kernel_rfl
 have h3 : vzero Tryz.prog 29 = some #[.slice none 0 0] := by kernel_rfl
 simp only [fU, fT, Bool.and_true, Bool.and_eq_true] at h
 simp [ah, Tryz.underlying158, h2, h3, vfill, vcells1, h, overwrite, aZ, List.range_succ]
theorem sz1 : szT Tryz.prog 1 = some 1 := by kernel_rfl
theorem ld1 {c : VV} {cs : List VV} : an Tryz.prog 1 (c :: cs) = some c := by
 have h1 : aggT Tryz.prog 1 = some false := by kernel_rfl
 simp [an, aA, h1]
theorem Tz : vzl Tryz.prog 1 = some [.lit .nilFunc] := by kernel_rfl
theorem T0 : szT Tryz.prog 33 = some 1 := by kernel_rfl
theorem T1 {c : VV} {cs : List VV} : an Tryz.prog 33 (c :: cs) = some c := by
 have h1 : aggT Tryz.prog 33 = some false := by kernel_rfl
 simp [an, aA, h1]
theorem Ew : vzl Tryz.prog 33 = some [.lit .nilFunc] := by kernel_rfl
theorem T2 : szT Tryz.prog 41 = some 1 := by kernel_rfl
theorem T3 {c : VV} {cs : List VV} : an Tryz.prog 41 (c :: cs) = some c := by
 have h1 : aggT Tryz.prog 41 = some false := by kernel_rfl
 simp [an, aA, h1]
theorem Ex : vzl Tryz.prog 41 = some [.lit .nilFunc] := by kernel_rfl
theorem T4 : szT Tryz.prog 64 = some 1 := by kernel_rfl
theorem T5 {c : VV} {cs : List VV} : an Tryz.prog 64 (c :: cs) = some c := by
 have h1 : aggT Tryz.prog 64 = some false := by kernel_rfl
 simp [an, aA, h1]
theorem Ey : vzl Tryz.prog 64 = some [.lit .nilFunc] := by kernel_rfl
theorem Ez : szT Tryz.prog 101 = some 1 := by kernel_rfl
theorem E0 {c : VV} {cs : List VV} : an Tryz.prog 101 (c :: cs) = some c := by
 have h1 : aggT Tryz.prog 101 = some false := by kernel_rfl
 simp [an, aA, h1]
theorem yd : vzl Tryz.prog 101 = some [.lit .nilFunc] := by kernel_rfl
theorem E1 : szT Tryz.prog 113 = some 1 := by kernel_rfl
theorem E2 {c : VV} {cs : List VV} : an Tryz.prog 113 (c :: cs) = some c := by
 have h1 : aggT Tryz.prog 113 = some false := by kernel_rfl
 simp [an, aA, h1]
theorem ye : vzl Tryz.prog 113 = some [.lit .nilFunc] := by kernel_rfl
theorem E3 : szT Tryz.prog 114 = some 1 := by kernel_rfl
theorem E4 {c : VV} {cs : List VV} : an Tryz.prog 114 (c :: cs) = some c := by
 have h1 : aggT Tryz.prog 114 = some false := by kernel_rfl
 simp [an, aA, h1]
theorem yf : vzl Tryz.prog 114 = some [.lit .nilFunc] := by kernel_rfl
theorem E5 : szT Tryz.prog 116 = some 1 := by kernel_rfl
theorem E6 {c : VV} {cs : List VV} : an Tryz.prog 116 (c :: cs) = some c := by
 have h1 : aggT Tryz.prog 116 = some false := by kernel_rfl
 simp [an, aA, h1]
theorem yg : vzl Tryz.prog 116 = some [.lit .nilFunc] := by kernel_rfl
theorem E7 : szT Tryz.prog 121 = some 1 := by kernel_rfl
theorem E8 {c : VV} {cs : List VV} : an Tryz.prog 121 (c :: cs) = some c := by
 have h1 : aggT Tryz.prog 121 = some false := by kernel_rfl
 simp [an, aA, h1]
theorem yh : vzl Tryz.prog 121 = some [.lit .nilFunc] := by kernel_rfl
theorem E9 : szT Tryz.prog 122 = some 1 := by kernel_rfl
theorem EA {c : VV} {cs : List VV} : an Tryz.prog 122 (c :: cs) = some c := by
 have h1 : aggT Tryz.prog 122 = some false := by kernel_rfl
 simp [an, aA, h1]
theorem yi : vzl Tryz.prog 122 = some [.lit .nilFunc] := by kernel_rfl
theorem EB : szT Tryz.prog 125 = some 1 := by kernel_rfl
theorem EC {c : VV} {cs : List VV} : an Tryz.prog 125 (c :: cs) = some c := by
 have h1 : aggT Tryz.prog 125 = some false := by kernel_rfl
 simp [an, aA, h1]
theorem yj : vzl Tryz.prog 125 = some [.lit .nilFunc] := by kernel_rfl
theorem ED : szT Tryz.prog 126 = some 1 := by kernel_rfl
theorem EE {c : VV} {cs : List VV} : an Tryz.prog 126 (c :: cs) = some c := by
 have h1 : aggT Tryz.prog 126 = some false := by kernel_rfl
 simp [an, aA, h1]
theorem yk : vzl Tryz.prog 126 = some [.lit .nilFunc] := by kernel_rfl
theorem EF : szT Tryz.prog 136 = some 1 := by kernel_rfl
theorem EG {c : VV} {cs : List VV} : an Tryz.prog 136 (c :: cs) = some c := by
 have h1 : aggT Tryz.prog 136 = some false := by kernel_rfl
 simp [an, aA, h1]
theorem ym : vzl Tryz.prog 136 = some [.lit .nilFunc] := by kernel_rfl
theorem EH : szT Tryz.prog 152 = some 1 := by kernel_rfl
theorem EI {c : VV} {cs : List VV} : an Tryz.prog 152 (c :: cs) = some c := by
 have h1 : aggT Tryz.prog 152 = some false := by kernel_rfl
 simp [an, aA, h1]
theorem yn : vzl Tryz.prog 152 = some [.lit .nilFunc] := by kernel_rfl
theorem EJ : szT Tryz.prog 155 = some 1 := by kernel_rfl
theorem EK {c : VV} {cs : List VV} : an Tryz.prog 155 (c :: cs) = some c := by
 have h1 : aggT Tryz.prog 155 = some false := by kernel_rfl
 simp [an, aA, h1]
theorem yo : vzl Tryz.prog 155 = some [.lit .nilFunc] := by kernel_rfl
theorem EL : szT Tryz.prog 178 = some 1 := by kernel_rfl
theorem EM {c : VV} {cs : List VV} : an Tryz.prog 178 (c :: cs) = some c := by
 have h1 : aggT Tryz.prog 178 = some false := by kernel_rfl
 simp [an, aA, h1]
theorem yp : vzl Tryz.prog 178 = some [.lit .nilFunc] := by kernel_rfl
theorem EN : szT Tryz.prog 180 = some 2 := by kernel_rfl
theorem sH : vzl Tryz.prog 180 = some [.lit .nilFunc, .lit .nilFunc] := by kernel_rfl
theorem EO {c0 c1 : VV} {cs : List VV} : an Tryz.prog 180 (c0 :: c1 :: cs) = some (.agg [c0, c1]) := by
 have h1 : aggT Tryz.prog 180 = some true := by kernel_rfl
 have h2 : szT Tryz.prog 180 = some 2 := by kernel_rfl
 simp [an, aA, h1, h2]
theorem T6 {c0 c1 : VV} {k : IntKind} : vindex Tryz.prog 180 (.agg [c0, c1]) (.lit (.int k 0)) = some c0 := by
 have h1 : aggT Tryz.prog 178 = some false := by kernel_rfl
 have h2 : szT Tryz.prog 178 = some 1 := by kernel_rfl
 simp [vindex, Tryz.underlying180, aA, h1, h2]
theorem T7 {H : Nat → Option VObj} {β o : Nat} {k : IntKind} : aC Tryz.prog H 180 (.ptr β o) (.lit (.int k 0)) = if (H β).isSome = true then some (.ptr β (o + 0)) else none := by
 have h2 : szT Tryz.prog 178 = some 1 := by kernel_rfl
 simp [aC, Tryz.underlying180, h2]
theorem T8 {c0 c1 : VV} {k : IntKind} : vindex Tryz.prog 180 (.agg [c0, c1]) (.lit (.int k 1)) = some c1 := by
 have h1 : aggT Tryz.prog 178 = some false := by kernel_rfl
 have h2 : szT Tryz.prog 178 = some 1 := by kernel_rfl
 simp [vindex, Tryz.underlying180, aA, h1, h2]
theorem T9 {H : Nat → Option VObj} {β o : Nat} {k : IntKind} : aC Tryz.prog H 180 (.ptr β o) (.lit (.int k 1)) = if (H β).isSome = true then some (.ptr β (o + 1)) else none := by
 have h2 : szT Tryz.prog 178 = some 1 := by kernel_rfl
 simp [aC, Tryz.underlying180, h2]
theorem TA {yq : VV} (h : leafL [yq] = true) : vbuild Tryz.prog 28 [(5, yq)] = some (.agg [.lit (.slice none 0 0), .lit (.slice none 0 0), .lit (.int .i64 0), .lit (.int .i64 0), .lit (.int .i64 0), .lit (.int .i64 0), .lit (.int .i64 0), yq, .lit (.int .i64 0), .lit (.int .i64 0)]) := by
 have p5 : placeT Tryz.prog 28 5 = some (7, 1) := by kernel_rfl
 simp only [fU, fT, Bool.and_true, Bool.and_eq_true] at h
 rw [qw vL (by kernel_rfl)]
 simp [vfill, p5, vcells1, h, overwrite]
theorem TB : vbuild Tryz.prog 31 [] = some (.agg [.lit (.slice none 0 0), .lit (.slice none 0 0)]) := by
 rw [qw sB (by kernel_rfl)]
 rfl
theorem TC {cv da : VV} (h : leafL [cv, da] = true) : vbuild Tryz.prog 31 [(0, cv), (1, da)] = some (.agg [cv, da]) := by
 have p0 : placeT Tryz.prog 31 0 = some (0, 1) := by kernel_rfl
 have p1 : placeT Tryz.prog 31 1 = some (1, 1) := by kernel_rfl
 simp only [fU, fT, Bool.and_true, Bool.and_eq_true] at h
 rw [qw sB (by kernel_rfl)]
 simp [vfill, p0, p1, vcells1, h, overwrite]
theorem TD {cv da : VV} (h : leafL [cv, da] = true) : vbuild Tryz.prog 51 [(0, cv), (1, da)] = some (.agg [cv, da]) := by
 have p0 : placeT Tryz.prog 51 0 = some (0, 1) := by kernel_rfl
 have p1 : placeT Tryz.prog 51 1 = some (1, 1) := by kernel_rfl
 simp only [fU, fT, Bool.and_true, Bool.and_eq_true] at h
 rw [qw vM (by kernel_rfl)]
 simp [vfill, p0, p1, vcells1, h, overwrite]
theorem TE {cv gy : VV} (h : leafL [cv, gy] = true) : vbuild Tryz.prog 79 [(0, cv), (2, gy)] = some (.agg [cv, .lit (.slice none 0 0), gy]) := by
 have p0 : placeT Tryz.prog 79 0 = some (0, 1) := by kernel_rfl
 have p2 : placeT Tryz.prog 79 2 = some (2, 1) := by kernel_rfl
 simp only [fU, fT, Bool.and_true, Bool.and_eq_true] at h
 rw [qw sC (by kernel_rfl)]
 simp [vfill, p0, p2, vcells1, h, overwrite]
theorem TF {gy : VV} (h : leafL [gy] = true) : vbuild Tryz.prog 79 [(2, gy)] = some (.agg [.lit (.slice none 0 0), .lit (.slice none 0 0), gy]) := by
 have p2 : placeT Tryz.prog 79 2 = some (2, 1) := by kernel_rfl
 simp only [fU, fT, Bool.and_true, Bool.and_eq_true] at h
 rw [qw sC (by kernel_rfl)]
 simp [vfill, p2, vcells1, h, overwrite]
theorem TG : vbuild Tryz.prog 93 [] = some (.agg [.lit (.slice none 0 0), .lit (.slice none 0 0), .lit (.int .i64 0), .lit (.int .i64 0), .lit (.int .i64 0), .lit (.int .i64 0), .lit (.int .i64 0), .lit (.slice none 0 0), .lit (.int .i64 0), .lit (.int .i64 0), .lit (.slice none 0 0), .lit (.slice none 0 0), .lit (.int .i64 0), .lit (.map none), .lit (.slice none 0 0)]) := by
 rw [qw sD (by kernel_rfl)]
 rfl
theorem zwp {cv sI sJ sK sL sM sN sO sP sQ da sR gy nQ : VV} (h : leafL [cv, sI, sJ, sK, sL, sM, sN, sO, sP, sQ, da, sR, gy, nQ] = true) : vbuild Tryz.prog 93 [(0, .agg [cv, sI, sJ, sK, sL, sM, sN, sO, sP, sQ]), (1, .agg [da, sR]), (2, gy), (3, nQ)] = some (.agg [cv, sI, sJ, sK, sL, sM, sN, sO, sP, sQ, da, sR, gy, nQ, .lit (.slice none 0 0)]) := by
 have p0 : placeT Tryz.prog 93 0 = some (0, 10) := by kernel_rfl
 have p1 : placeT Tryz.prog 93 1 = some (10, 2) := by kernel_rfl
 have p2 : placeT Tryz.prog 93 2 = some (12, 1) := by kernel_rfl
 have p3 : placeT Tryz.prog 93 3 = some (13, 1) := by kernel_rfl
 simp only [fU, fT, Bool.and_true, Bool.and_eq_true] at h
 have q0 : aS (.agg [cv, sI, sJ, sK, sL, sM, sN, sO, sP, sQ]) = some [cv, sI, sJ, sK, sL, sM, sN, sO, sP, sQ] := by rw [Mg]; simp [fU, fT, h]
 have q1 : aS (.agg [da, sR]) = some [da, sR] := by rw [Mg]; simp [fU, fT, h]
 rw [qw sD (by kernel_rfl)]
 simp [vfill, p0, p1, p2, p3, vcells1, h, overwrite, q0, q1]
theorem TH {cv da : VV} (h : leafL [cv, da] = true) : vbuild Tryz.prog 100 [(0, cv), (1, da)] = some (.agg [cv, da]) := by
 have p0 : placeT Tryz.prog 100 0 = some (0, 1) := by kernel_rfl
 have p1 : placeT Tryz.prog 100 1 = some (1, 1) := by kernel_rfl
 simp only [fU, fT, Bool.and_true, Bool.and_eq_true] at h
 rw [qw sE (by kernel_rfl)]
 simp [vfill, p0, p1, vcells1, h, overwrite]
theorem TI {cv da : VV} (h : leafL [cv, da] = true) : vbuild Tryz.prog 142 [(0, cv), (1, da)] = some (.agg [cv, da]) := by
 have p0 : placeT Tryz.prog 142 0 = some (0, 1) := by kernel_rfl
 have p1 : placeT Tryz.prog 142 1 = some (1, 1) := by kernel_rfl
 simp only [fU, fT, Bool.and_true, Bool.and_eq_true] at h
 rw [qw sF (by kernel_rfl)]
 simp [vfill, p0, p1, vcells1, h, overwrite]
theorem ztt {cv da gy nQ : VV} (h : leafL [cv, da, gy, nQ] = true) : vbuild Tryz.prog 144 [(0, cv), (1, da), (2, gy), (3, nQ)] = some (.agg [cv, da, gy, nQ]) := by
 have p0 : placeT Tryz.prog 144 0 = some (0, 1) := by kernel_rfl
 have p1 : placeT Tryz.prog 144 1 = some (1, 1) := by kernel_rfl
 have p2 : placeT Tryz.prog 144 2 = some (2, 1) := by kernel_rfl
 have p3 : placeT Tryz.prog 144 3 = some (3, 1) := by kernel_rfl
 simp only [fU, fT, Bool.and_true, Bool.and_eq_true] at h
 rw [qw sG (by kernel_rfl)]
 simp [vfill, p0, p1, p2, p3, vcells1, h, overwrite]
theorem EP : vbuild Tryz.prog 149 [] = some (.agg []) := by kernel_rfl
theorem ES : szT Tryz.prog 149 = some 0 := by kernel_rfl
theorem yr : vzl Tryz.prog 149 = some [] := by kernel_rfl
theorem ET {cs : List VV} : an Tryz.prog 149 cs = some (.agg []) := by
 have h1 : aggT Tryz.prog 149 = some true := by kernel_rfl
 have h2 : szT Tryz.prog 149 = some 0 := by kernel_rfl
 simp [an, aA, h1, h2]
theorem TJ {cv da : VV} (h : leafL [cv, da] = true) : vbuild Tryz.prog 180 [(0, cv), (1, da)] = some (.agg [cv, da]) := by
 have p0 : placeT Tryz.prog 180 0 = some (0, 1) := by kernel_rfl
 have p1 : placeT Tryz.prog 180 1 = some (1, 1) := by kernel_rfl
 simp only [fU, fT, Bool.and_true, Bool.and_eq_true] at h
 rw [qw sH (by kernel_rfl)]
 simp [vfill, p0, p1, vcells1, h, overwrite]
theorem mi9 {x : VV} : mkIfcV Tryz.prog 9 x = some (.ifc 9 x) := by simp [mkIfcV, Tryz.underlying9]
theorem EU {x : VV} : mkIfcV Tryz.prog 149 x = some (.ifc 149 x) := by simp [mkIfcV, Tryz.underlying149]
theorem vN : ((Tryz.prog.info? 149).bind (·.zero)).map (fun z => VV.tup [ofVal2 z, .lit (.bool false)]) = some (.tup [.agg [], .lit (.bool false)]) := by kernel_rfl
theorem EV : vtypeAssert Tryz.prog (.lit .nilIface) 149 true = some (.tup [.agg [], .lit (.bool false)]) := by
 simp only [vtypeAssert, Tryz.underlying149, if_true]
 exact vN
theorem TK {x : VV} : vtypeAssert Tryz.prog (.ifc 9 x) 149 true = some (.tup [.agg [], .lit (.bool false)]) := by
 simp only [vtypeAssert, Tryz.underlying149, if_true]
 rw [if_neg (by decide)]
 exact vN
theorem EW {x : VV} : vtypeAssert Tryz.prog (.ifc 149 x) 149 true = some (.tup [x, .lit (.bool true)]) := by
 simp [vtypeAssert, Tryz.underlying149]
theorem be4 {H : Nat → Option VObj} {x y : Operand} {a b : Bool} : binV Tryz.prog H .eql 4 x y (.lit (.bool a)) (.lit (.bool b)) = some (.lit (.bool (a == b))) := Jn Tryz.underlying4
theorem bn4 {H : Nat → Option VObj} {x y : Operand} {a b : Bool} : binV Tryz.prog H .neq 4 x y (.lit (.bool a)) (.lit (.bool b)) = some (.lit (.bool (a != b))) := Jo Tryz.underlying4
theorem vO {H : Nat → Option VObj} {x y : Operand} {a0 b0 : Int} {a1 b1 : Int} : binV Tryz.prog H .eql 100 x y (.agg [.lit (.int .i64 a0), .lit (.int .i64 a1)]) (.agg [.lit (.int .i64 b0), .lit (.int .i64 b1)]) = some (.lit (.bool (a0 == b0 && (a1 == b1)))) ∧ binV Tryz.prog H .neq 100 x y (.agg [.lit (.int .i64 a0), .lit (.int .i64 a1)]) (.agg [.lit (.int .i64 b0), .lit (.int .i64 b1)]) = some (.lit (.bool (!(a0 == b0 && (a1 == b1))))) := by
 refine binS (xs := [.int .i64 a0, .int .i64 a1]) (ys := [.int .i64 b0, .int .i64 b1]) (by simp [VV.val?, valL?]) (by simp [VV.val?, valL?]) Tryz.underlying100 (by kernel_rfl) (by kernel_rfl) ?_
 simp [eqF, qR, eq1, Tryz.underlying3]
theorem EX {H : Nat → Option VObj} {x y : Operand} {a0 b0 : Int} {a1 b1 : Int} : binV Tryz.prog H .eql 100 x y (.agg [.lit (.int .i64 a0), .lit (.int .i64 a1)]) (.agg [.lit (.int .i64 b0), .lit (.int .i64 b1)]) = some (.lit (.bool (a0 == b0 && (a1 == b1)))) := vO.1
theorem EY {H : Nat → Option VObj} {x y : Operand} {a0 b0 : Int} {a1 b1 : Int} : binV Tryz.prog H .neq 100 x y (.agg [.lit (.int .i64 a0), .lit (.int .i64 a1)]) (.agg [.lit (.int .i64 b0), .lit (.int .i64 b1)]) = some (.lit (.bool (!(a0 == b0 && (a1 == b1))))) := vO.2
theorem TL : (VV.lit Value.nilFunc).leaf = true := rfl
theorem TM : (VV.lit Value.nilIface).leaf = true := rfl
def tyf := (And.intro (And.intro (And.intro (And.intro (And.intro (And.intro (And.intro (And.intro @xG @Di) (And.intro @Dj (And.intro @Dk @zA))) (And.intro (And.intro @Dl @G8) (And.intro @DI (And.intro @G9 @DJ)))) (And.intro (And.intro (And.intro @ld2 @sz2) (And.intro @QC (And.intro @ld3 @sz3))) (And.intro (And.intro @QD (And.intro @ld4 @sz4)) (And.intro @QE (And.intro @ld9 @sz9))))) (And.intro (And.intro (And.intro (And.intro @QF @QG) (And.intro @QH (And.intro @DK @DL))) (And.intro (And.intro @lenN22 @lenR22) (And.intro @lq (And.intro @QI @QJ)))) (And.intro (And.intro (And.intro @QK @QL) (And.intro @QM (And.intro @QN @DM))) (And.intro (And.intro @DN (And.intro @lenN23 @lenR23)) (And.intro @QO (And.intro @QP @QQ)))))) (And.intro (And.intro (And.intro (And.intro (And.intro @QR @QS) (And.intro @DO (And.intro @QT @QU))) (And.intro (And.intro @QV @QW) (And.intro @QX (And.intro @QY @QZ)))) (And.intro (And.intro (And.intro @Ra @DP) (And.intro @DQ (And.intro @lenN26 @lenR26))) (And.intro (And.intro @Rb (And.intro @Rc @Rd)) (And.intro @Re (And.intro @Rf @vL))))) (And.intro (And.intro (And.intro (And.intro @Rg @Rh) (And.intro @Ri (And.intro @Rj @Rk))) (And.intro (And.intro @Rl (And.intro @Rm @Rn)) (And.intro @Ro (And.intro @Rq @Rr)))) (And.intro (And.intro (And.intro @Rs @Rt) (And.intro @Ru (And.intro @Rv @Rw))) (And.intro (And.intro @Rx (And.intro @Ry @Rz)) (And.intro @R0 (And.intro @R1 @R2))))))) (And.intro (And.intro (And.intro (And.intro (And.intro (And.intro @R3 @R4) (And.intro @R5 (And.intro @R6 @DS))) (And.intro (And.intro @DT @lenN29) (And.intro @lenR29 (And.intro @hZ @R7)))) (And.intro (And.intro (And.intro @R8 @R9) (And.intro @RA (And.intro @sB @RB))) (And.intro (And.intro @RC (And.intro @RE @RF)) (And.intro @RG (And.intro @RH @RI))))) (And.intro (And.intro (And.intro (And.intro @RJ @DU) (And.intro @RK (And.intro @RL @DV))) (And.intro (And.intro @DW (And.intro @lenN44 @lenR44)) (And.intro @RM (And.intro @RN @RO)))) (And.intro (And.intro (And.intro @RP @RQ) (And.intro @RT (And.intro @RU @DX))) (And.intro (And.intro @DY (And.intro @lenN47 @lenR47)) (And.intro @RV (And.intro @RW @RX)))))) (And.intro (And.intro (And.intro (And.intro (And.intro @RY @RZ) (And.intro @Sa (And.intro @Sb @DZ))) (And.intro (And.intro @Ea @lenN49) (And.intro @lenR49 (And.intro @Sc @Sd)))) (And.intro (And.intro (And.intro @Se @Sf) (And.intro @Sg (And.intro @vM @Si))) (And.intro (And.intro @Sj (And.intro @Sk @Sl)) (And.intro @Sm (And.intro @Sn @So))))) (And.intro (And.intro (And.intro (And.intro @Sp @sC) (And.intro @Sq (And.intro @Sr @Ss))) (And.intro (And.intro @Su (And.intro @Sv @Sw)) (And.intro @Sx (And.intro @Sy @Sz)))) (And.intro (And.intro (And.intro @S0 @S1) (And.intro @Eb (And.intro @Ec @lenN91))) (And.intro (And.intro @lenR91 (And.intro @hC @S2)) (And.intro @S3 (And.intro @S4 @S5)))))))) (And.intro (And.intro (And.intro (And.intro (And.intro (And.intro (And.intro @sD @S6) (And.intro @S7 (And.intro @S8 @S9))) (And.intro (And.intro @SA @SB) (And.intro @SC (And.intro @SD @SE)))) (And.intro (And.intro (And.intro @SF @SG) (And.intro @SH (And.intro @SI @SJ))) (And.intro (And.intro @SK (And.intro @Ed @Ee)) (And.intro @sE (And.intro @SL @SM))))) (And.intro (And.intro (And.intro (And.intro @SN @SO) (And.intro @SP (And.intro @SQ @Ef))) (And.intro (And.intro @Eg (And.intro @xX @SS)) (And.intro @SU (And.intro @SV @SW)))) (And.intro (And.intro (And.intro @SX @SY) (And.intro @SZ (And.intro @Ta @Tb))) (And.intro (And.intro @Eh (And.intro @Ei @xY)) (And.intro @xZ (And.intro @lenN117 @lenR117)))))) (And.intro (And.intro (And.intro (And.intro (And.intro @Ej @Ek) (And.intro @Tc (And.intro @El @Em))) (And.intro (And.intro @sF @Td) (And.intro @Te (And.intro @Tf @Tg)))) (And.intro (And.intro (And.intro @Th @Ti) (And.intro @En (And.intro @Eo @sG))) (And.intro (And.intro @Tj (And.intro @Tk @Tl)) (And.intro @Tm (And.intro @Tn @To))))) (And.intro (And.intro (And.intro (And.intro @Tp @Tq) (And.intro @Ts (And.intro @Tt @Tu))) (And.intro (And.intro @Tv (And.intro @Ep @Er)) (And.intro @ya (And.intro @Es @Et)))) (And.intro (And.intro (And.intro @yb @yc) (And.intro @lenN158 (And.intro @lenR158 @Eu))) (And.intro (And.intro @Ev (And.intro @Tw @Tx)) (And.intro @Ty (And.intro @sz1 @ld1))))))) (And.intro (And.intro (And.intro (And.intro (And.intro (And.intro @Tz @T0) (And.intro @T1 (And.intro @Ew @T2))) (And.intro (And.intro @T3 @Ex) (And.intro @T4 (And.intro @T5 @Ey)))) (And.intro (And.intro (And.intro @Ez @E0) (And.intro @yd (And.intro @E1 @E2))) (And.intro (And.intro @ye (And.intro @E3 @E4)) (And.intro @yf (And.intro @E5 @E6))))) (And.intro (And.intro (And.intro (And.intro @yg @E7) (And.intro @E8 (And.intro @yh @E9))) (And.intro (And.intro @EA (And.intro @yi @EB)) (And.intro @EC (And.intro @yj @ED)))) (And.intro (And.intro (And.intro @EE @yk) (And.intro @EF (And.intro @EG @ym))) (And.intro (And.intro @EH (And.intro @EI @yn)) (And.intro @EJ (And.intro @EK @yo)))))) (And.intro (And.intro (And.intro (And.intro (And.intro @EL @EM) (And.intro @yp (And.intro @EN @sH))) (And.intro (And.intro @EO @T6) (And.intro @T7 (And.intro @T8 @T9)))) (And.intro (And.intro (And.intro @TA @TB) (And.intro @TC (And.intro @TD @TE))) (And.intro (And.intro @TF (And.intro @TG @zwp)) (And.intro @TH (And.intro @TI @ztt))))) (And.intro (And.intro (And.intro (And.intro @EP @ES) (And.intro @yr (And.intro @ET @TJ))) (And.intro (And.intro @mi9 (And.intro @EU @EV)) (And.intro @TK (And.intro @EW @be4)))) (And.intro (And.intro (And.intro @bn4 @EX) (And.intro @EY (And.intro @TL @TM))) (And.intro (And.intro @Jp (And.intro @eI_eq @tP)) (And.intro @eB_eq (And.intro @eS_eq @tQ)))))))))
def aE := (And.intro (And.intro (And.intro (And.intro (And.intro @cJ.norm (And.intro @cJ.normL @cJ.shown)) (And.intro @cJ.showL (And.intro @dq.norm @dq.normL))) (And.intro (And.intro @dq.shown (And.intro @dq.showL @dU.norm)) (And.intro (And.intro @dU.normL @dU.shown) (And.intro @dU.showL @eD.norm)))) (And.intro (And.intro (And.intro @eD.normL (And.intro @eD.shown @eD.showL)) (And.intro (And.intro @fq.norm @fq.normL) (And.intro @fq.shown @fq.showL))) (And.intro (And.intro @gk.norm (And.intro @gk.normL @gk.shown)) (And.intro (And.intro @gk.showL @ik.norm) (And.intro @ik.normL @ik.shown))))) (And.intro (And.intro (And.intro (And.intro @ik.showL (And.intro @kI.norm @kI.normL)) (And.intro @kI.shown (And.intro @kI.showL @oQ.norm))) (And.intro (And.intro @oQ.normL (And.intro @oQ.shown @oQ.showL)) (And.intro (And.intro @F3 @Av) (And.intro @zK.norm @zK.normL)))) (And.intro (And.intro (And.intro @zK.shown (And.intro @zK.showL @zL.norm)) (And.intro (And.intro @zL.normL @zL.shown) (And.intro @zL.showL @zM.norm))) (And.intro (And.intro @zM.normL (And.intro @zM.shown @zM.showL)) (And.intro (And.intro @zN.norm @zN.normL) (And.intro @zN.shown @zN.showL))))))
def aF := (And.intro (And.intro (And.intro (And.intro @cJ.tree (And.intro @cJ.treeL @dq.tree)) (And.intro @dq.treeL (And.intro @dU.tree @dU.treeL))) (And.intro (And.intro @eD.tree (And.intro @eD.treeL @fq.tree)) (And.intro (And.intro @fq.treeL @gk.tree) (And.intro @gk.treeL @ik.tree)))) (And.intro (And.intro (And.intro @ik.treeL (And.intro @kI.tree @kI.treeL)) (And.intro (And.intro @oQ.tree @oQ.treeL) (And.intro @rh @zK.tree))) (And.intro (And.intro @zK.treeL (And.intro @zL.tree @zL.treeL)) (And.intro (And.intro @zM.tree @zM.treeL) (And.intro @zN.tree @zN.treeL)))))
end Go.V
namespace Go.V
open Go Go.Proofs
theorem ktA {P : Program} {G : Glob} {d : Option Tmp} {γ : Nat} {tm : Nat → VV} {H : Nat → Option VObj} {nx : Nat} {df : List VDef} {K : St → Prop} {Qp : VV → St → Prop} {f : FuncId} {args args0 : List VV} {x : VV} (hp : ag P G f args0 (.tree x)) (h : fin d γ tm H nx df K x .none) (hn : normL args = args0 := by first | (simp only [nrm, aE] <;> rfl) | rfl) (ht : treeL args = true := by simp only [tre, aF, Bool.and_self]) : callK P G f args ⟨tm, H, nx, df⟩ d γ K Qp := ktree hn ht hp h
theorem dktA {P : Program} {G : Glob} {d : Option Tmp} {γ : Nat} {tm : Nat → VV} {H : Nat → Option VObj} {nx : Nat} {df : List VDef} {K : List Nat → List Nat → St → Prop} {f : FuncId} {args args0 : List VV} {x : VV} (hp : ag P G f args0 (.tree x)) (h : fin d γ tm H nx df (K [] []) x .none) (hn : normL args = args0 := by first | (simp only [nrm, aE] <;> rfl) | rfl) (ht : treeL args = true := by simp only [tre, aF, Bool.and_self]) : dcallK P G f args tm H nx df d γ K := dktree hn ht hp h
theorem optI {α β : Type} {K : Option β → Prop} {X : Option α} {F : α → Option β} (h : K (Option.bind X F)) (kN : ¬ K none) : ∃ r, X = some r ∧ K (F r) := by
  cases X with
  | none => exact absurd h kN
  | some r => exact ⟨r, rfl, h⟩
end Go.V
end
