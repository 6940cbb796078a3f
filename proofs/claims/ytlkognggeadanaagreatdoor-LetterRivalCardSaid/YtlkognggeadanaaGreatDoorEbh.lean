/- Part of a proof. -/
import Derived.Test.YtlkognggeadanaaGreatDoorEbg
import Derived.Test.YtlkognggeadanaaGreatDoorEay
import Derived.Test.YtlkognggeadanaaGreatDoorProg
set_option linter.all false
set_option maxRecDepth 4000
set_option maxHeartbeats 40000000
section
namespace Go.V
open Go Go.Proofs IntKind
theorem mixed : Tryz.prog.follows .mixedOrders = true := by kernel_rfl
structure GSpan where
 Low : Int
 High : Int
 deriving Inhabited, DecidableEq
def cGSpan (x : GSpan) : List VV := [.lit (.int .i64 x.Low), .lit (.int .i64 x.High)]
theorem uc {x : GSpan} : cGSpan x = [.lit (.int .i64 x.Low), .lit (.int .i64 x.High)] := rfl
theorem cJ : EncOk cGSpan := EncOk.of (fun x => by simp only [uc, tre, Bool.and_self]) (fun x => by simp only [uc, nrm]) (fun x H d => by simp only [uc, nrm, List.map_cons, List.map_nil])
structure GLp where
 Left : Int
 Right : Int
 Space : GSpan
 deriving Inhabited, DecidableEq
def cGLp (x : GLp) : List VV := [.lit (.int .i64 x.Left), .lit (.int .i64 x.Right), .lit (.int .i64 x.Space.Low), .lit (.int .i64 x.Space.High)]
theorem yK {x : GLp} : cGLp x = [.lit (.int .i64 x.Left), .lit (.int .i64 x.Right), .lit (.int .i64 x.Space.Low), .lit (.int .i64 x.Space.High)] := rfl
theorem dv : EncOk cGLp := EncOk.of (fun x => by simp only [yK, tre, cJ.tree, cJ.treeL, Bool.and_self]) (fun x => by simp only [yK, nrm, cJ.norm, cJ.normL, cJ.shown, cJ.showL]) (fun x H d => by simp only [yK, nrm, List.map_cons, List.map_nil])
structure GLw where
 Signs : List Int
 Cuts : List Int
 Free : Bool
 deriving Inhabited, DecidableEq
def cGLw (x : GLw) : List VV := [.sl (aa eI x.Signs) (List.length x.Signs) false, .sl (aa eI x.Cuts) (List.length x.Cuts) false, .lit (.bool x.Free)]
theorem yL {x : GLw} : cGLw x = [.sl (aa eI x.Signs) (List.length x.Signs) false, .sl (aa eI x.Cuts) (List.length x.Cuts) false, .lit (.bool x.Free)] := rfl
theorem dY : EncOk cGLw := EncOk.of (fun x => by simp only [yL, tre, cJ.tree, cJ.treeL, dv.tree, dv.treeL, Bool.and_self]) (fun x => by simp only [yL, nrm, cJ.norm, cJ.normL, cJ.shown, cJ.showL, dv.norm, dv.normL, dv.shown, dv.showL]) (fun x H d => by simp only [yL, nrm, List.map_cons, List.map_nil])
structure GLs where
 Widths : List Int
 Pairs : List GLp
 Other : GSpan
 Gap : GSpan
 Hyphen : Int
 Words : List GLw
 Wide : Int
 Rows : Int
 deriving Inhabited, DecidableEq
def cGLs (x : GLs) : List VV := [.sl (aa eI x.Widths) (List.length x.Widths) false, .sl (aa cGLp x.Pairs) (List.length x.Pairs) false, .lit (.int .i64 x.Other.Low), .lit (.int .i64 x.Other.High), .lit (.int .i64 x.Gap.Low), .lit (.int .i64 x.Gap.High), .lit (.int .i64 x.Hyphen), .sl (aa cGLw x.Words) (List.length x.Words) false, .lit (.int .i64 x.Wide), .lit (.int .i64 x.Rows)]
theorem yM {x : GLs} : cGLs x = [.sl (aa eI x.Widths) (List.length x.Widths) false, .sl (aa cGLp x.Pairs) (List.length x.Pairs) false, .lit (.int .i64 x.Other.Low), .lit (.int .i64 x.Other.High), .lit (.int .i64 x.Gap.Low), .lit (.int .i64 x.Gap.High), .lit (.int .i64 x.Hyphen), .sl (aa cGLw x.Words) (List.length x.Words) false, .lit (.int .i64 x.Wide), .lit (.int .i64 x.Rows)] := rfl
theorem eK : EncOk cGLs := EncOk.of (fun x => by simp only [yM, tre, cJ.tree, cJ.treeL, dv.tree, dv.treeL, dY.tree, dY.treeL, Bool.and_self]) (fun x => by simp only [yM, nrm, cJ.norm, cJ.normL, cJ.shown, cJ.showL, dv.norm, dv.normL, dv.shown, dv.showL, dY.norm, dY.normL, dY.shown, dY.showL]) (fun x H d => by simp only [yM, nrm, List.map_cons, List.map_nil])
structure GLe where
 Word : Int
 Letters : Int
 deriving Inhabited, DecidableEq
def cGLe (x : GLe) : List VV := [.lit (.int .i64 x.Word), .lit (.int .i64 x.Letters)]
theorem w5 {x : GLe} : cGLe x = [.lit (.int .i64 x.Word), .lit (.int .i64 x.Letters)] := rfl
theorem eA : EncOk cGLe := EncOk.of (fun x => by simp only [w5, tre, cJ.tree, cJ.treeL, dv.tree, dv.treeL, dY.tree, dY.treeL, eK.tree, eK.treeL, Bool.and_self]) (fun x => by simp only [w5, nrm, cJ.norm, cJ.normL, cJ.shown, cJ.showL, dv.norm, dv.normL, dv.shown, dv.showL, dY.norm, dY.normL, dY.shown, dY.showL, eK.norm, eK.normL, eK.shown, eK.showL]) (fun x H d => by simp only [w5, nrm, List.map_cons, List.map_nil])
structure GLx where
 Out : List Int
 Ends : List GLe
 deriving Inhabited, DecidableEq
def cGLx (x : GLx) : List VV := [.sl (aa eI x.Out) (List.length x.Out) false, .sl (aa cGLe x.Ends) (List.length x.Ends) false]
theorem yN {x : GLx} : cGLx x = [.sl (aa eI x.Out) (List.length x.Out) false, .sl (aa cGLe x.Ends) (List.length x.Ends) false] := rfl
theorem ik : EncOk cGLx := EncOk.of (fun x => by simp only [yN, tre, cJ.tree, cJ.treeL, dv.tree, dv.treeL, dY.tree, dY.treeL, eK.tree, eK.treeL, eA.tree, eA.treeL, Bool.and_self]) (fun x => by simp only [yN, nrm, cJ.norm, cJ.normL, cJ.shown, cJ.showL, dv.norm, dv.normL, dv.shown, dv.showL, dY.norm, dY.normL, dY.shown, dY.showL, eK.norm, eK.normL, eK.shown, eK.showL, eA.norm, eA.normL, eA.shown, eA.showL]) (fun x H d => by simp only [yN, nrm, List.map_cons, List.map_nil])
structure Grl where
 Word : Int
 Sign : Int
 deriving Inhabited, DecidableEq
def cGrl (x : Grl) : List VV := [.lit (.int .i64 x.Word), .lit (.int .i64 x.Sign)]
theorem CH {x : Grl} : cGrl x = [.lit (.int .i64 x.Word), .lit (.int .i64 x.Sign)] := rfl
theorem jO : EncOk cGrl := EncOk.of (fun x => by simp only [CH, tre, cJ.tree, cJ.treeL, dv.tree, dv.treeL, dY.tree, dY.treeL, eK.tree, eK.treeL, eA.tree, eA.treeL, ik.tree, ik.treeL, Bool.and_self]) (fun x => by simp only [CH, nrm, cJ.norm, cJ.normL, cJ.shown, cJ.showL, dv.norm, dv.normL, dv.shown, dv.showL, dY.norm, dY.normL, dY.shown, dY.showL, eK.norm, eK.normL, eK.shown, eK.showL, eA.norm, eA.normL, eA.shown, eA.showL, ik.norm, ik.normL, ik.shown, ik.showL]) (fun x H d => by simp only [CH, nrm, List.map_cons, List.map_nil])
structure Glm where
 word : Int
 sign : Int
 row : Int
 hyphen : Bool
 deriving Inhabited, DecidableEq
def cGlm (x : Glm) : List VV := [.lit (.int .i64 x.word), .lit (.int .i64 x.sign), .lit (.int .i64 x.row), .lit (.bool x.hyphen)]
theorem yO {x : Glm} : cGlm x = [.lit (.int .i64 x.word), .lit (.int .i64 x.sign), .lit (.int .i64 x.row), .lit (.bool x.hyphen)] := rfl
theorem lg : EncOk cGlm := EncOk.of (fun x => by simp only [yO, tre, cJ.tree, cJ.treeL, dv.tree, dv.treeL, dY.tree, dY.treeL, eK.tree, eK.treeL, eA.tree, eA.treeL, ik.tree, ik.treeL, jO.tree, jO.treeL, Bool.and_self]) (fun x => by simp only [yO, nrm, cJ.norm, cJ.normL, cJ.shown, cJ.showL, dv.norm, dv.normL, dv.shown, dv.showL, dY.norm, dY.normL, dY.shown, dY.showL, eK.norm, eK.normL, eK.shown, eK.showL, eA.norm, eA.normL, eA.shown, eA.showL, ik.norm, ik.normL, ik.shown, ik.showL, jO.norm, jO.normL, jO.shown, jO.showL]) (fun x H d => by simp only [yO, nrm, List.map_cons, List.map_nil])
structure Glp where
 left : Int
 right : Int
 deriving Inhabited, DecidableEq
def cGlp (x : Glp) : List VV := [.lit (.int .i64 x.left), .lit (.int .i64 x.right)]
theorem CI {x : Glp} : cGlp x = [.lit (.int .i64 x.left), .lit (.int .i64 x.right)] := rfl
theorem sZ : EncOk cGlp := EncOk.of (fun x => by simp only [CI, tre, cJ.tree, cJ.treeL, dv.tree, dv.treeL, dY.tree, dY.treeL, eK.tree, eK.treeL, eA.tree, eA.treeL, ik.tree, ik.treeL, jO.tree, jO.treeL, lg.tree, lg.treeL, Bool.and_self]) (fun x => by simp only [CI, nrm, cJ.norm, cJ.normL, cJ.shown, cJ.showL, dv.norm, dv.normL, dv.shown, dv.showL, dY.norm, dY.normL, dY.shown, dY.showL, eK.norm, eK.normL, eK.shown, eK.showL, eA.norm, eA.normL, eA.shown, eA.showL, ik.norm, ik.normL, ik.shown, ik.showL, jO.norm, jO.normL, jO.shown, jO.showL, lg.norm, lg.normL, lg.shown, lg.showL]) (fun x H d => by simp only [CI, nrm, List.map_cons, List.map_nil])
def cP (k : Glp) : Value := .agg ⟨[.int .i64 k.left, .int .i64 k.right]⟩
def fh (n : GSpan) : VV := .agg (cGSpan n)
theorem px {l : List (Glp × GSpan)} : (VV.mt (mtK cP l) (mtV fh l)).tree = true := mt_tr fun v => by simp only [fh, tre, cJ.tree, cJ.treeL, dv.tree, dv.treeL, dY.tree, dY.treeL, eK.tree, eK.treeL, eA.tree, eA.treeL, ik.tree, ik.treeL, jO.tree, jO.treeL, lg.tree, lg.treeL, sZ.tree, sZ.treeL, Bool.and_self]
structure Gld where
 ls : GLs
 lx : GLx
 stretch : Int
 spaces : List (Glp × GSpan)
 marks : List Glm
 deriving Inhabited, DecidableEq
def cGld (x : Gld) : List VV := [.sl (aa eI x.ls.Widths) (List.length x.ls.Widths) false, .sl (aa cGLp x.ls.Pairs) (List.length x.ls.Pairs) false, .lit (.int .i64 x.ls.Other.Low), .lit (.int .i64 x.ls.Other.High), .lit (.int .i64 x.ls.Gap.Low), .lit (.int .i64 x.ls.Gap.High), .lit (.int .i64 x.ls.Hyphen), .sl (aa cGLw x.ls.Words) (List.length x.ls.Words) false, .lit (.int .i64 x.ls.Wide), .lit (.int .i64 x.ls.Rows), .sl (aa eI x.lx.Out) (List.length x.lx.Out) false, .sl (aa cGLe x.lx.Ends) (List.length x.lx.Ends) false, .lit (.int .i64 x.stretch), .mt (mtK cP x.spaces) (mtV fh x.spaces), .sl (aa cGlm x.marks) (List.length x.marks) false]
theorem yP {x : Gld} : cGld x = [.sl (aa eI x.ls.Widths) (List.length x.ls.Widths) false, .sl (aa cGLp x.ls.Pairs) (List.length x.ls.Pairs) false, .lit (.int .i64 x.ls.Other.Low), .lit (.int .i64 x.ls.Other.High), .lit (.int .i64 x.ls.Gap.Low), .lit (.int .i64 x.ls.Gap.High), .lit (.int .i64 x.ls.Hyphen), .sl (aa cGLw x.ls.Words) (List.length x.ls.Words) false, .lit (.int .i64 x.ls.Wide), .lit (.int .i64 x.ls.Rows), .sl (aa eI x.lx.Out) (List.length x.lx.Out) false, .sl (aa cGLe x.lx.Ends) (List.length x.lx.Ends) false, .lit (.int .i64 x.stretch), .mt (mtK cP x.spaces) (mtV fh x.spaces), .sl (aa cGlm x.marks) (List.length x.marks) false] := rfl
theorem Hw : EncOk cGld := EncOk.of (fun x => by simp only [yP, tre, cJ.tree, cJ.treeL, dv.tree, dv.treeL, dY.tree, dY.treeL, eK.tree, eK.treeL, eA.tree, eA.treeL, ik.tree, ik.treeL, jO.tree, jO.treeL, lg.tree, lg.treeL, sZ.tree, sZ.treeL, px, Bool.and_self]) (fun x => by simp only [yP, nrm, cJ.norm, cJ.normL, cJ.shown, cJ.showL, dv.norm, dv.normL, dv.shown, dv.showL, dY.norm, dY.normL, dY.shown, dY.showL, eK.norm, eK.normL, eK.shown, eK.showL, eA.norm, eA.normL, eA.shown, eA.showL, ik.norm, ik.normL, ik.shown, ik.showL, jO.norm, jO.normL, jO.shown, jO.showL, lg.norm, lg.normL, lg.shown, lg.showL, sZ.norm, sZ.normL, sZ.shown, sZ.showL, CJ, yQ]) (fun x H d => by simp only [yP, nrm, List.map_cons, List.map_nil, yQ])
theorem UQ {c : VV} {cs : List VV} : aV Tryz.prog 3 (c :: cs) = some c := by
 have h1 : aggT Tryz.prog 3 = some false := by kernel_rfl
 simp [aV, vpart, h1]
theorem UR : szT Tryz.prog 3 = some 1 := by kernel_rfl
theorem Hx : vzl Tryz.prog 3 = some [.lit (.int .i64 0)] := by kernel_rfl
theorem US {c : VV} {cs : List VV} : aV Tryz.prog 4 (c :: cs) = some c := by
 have h1 : aggT Tryz.prog 4 = some false := by kernel_rfl
 simp [aV, vpart, h1]
theorem UT : szT Tryz.prog 4 = some 1 := by kernel_rfl
theorem Hy : vzl Tryz.prog 4 = some [.lit (.bool false)] := by kernel_rfl
theorem Hz {c : VV} {cs : List VV} : aV Tryz.prog 22 (c :: cs) = some c := by
 have h1 : aggT Tryz.prog 22 = some false := by kernel_rfl
 simp [aV, vpart, h1]
theorem yR {H : Nat → Option VObj} {cs : List VV} {n : Nat} {f : Bool} : vlen Tryz.prog H 22 (.sl cs n f) = some (.lit (.int .i64 n)) := by simp [vlen, Tryz.underlying22, sls]
theorem lenN22 {H : Nat → Option VObj} : vlen Tryz.prog H 22 (.lit (.slice none 0 0)) = some (.lit (.int .i64 0)) := by simp [vlen, Tryz.underlying22, sls]
theorem lenR22 {H : Nat → Option VObj} {β off n w c : Nat} : vlen Tryz.prog H 22 (.ref β off n w c) = (match H β with | some (.cells _ cs) => if off ≤ cs.length then some (.lit (.int .i64 n)) else none | _ => none) := lenR Tryz.underlying22
theorem jE : elemT Tryz.prog 22 = some 3 := by simp [elemT, Tryz.underlying22]
theorem py : appOk Tryz.prog 22 = some (3, 1, 8) := by kernel_rfl
theorem H6 {xs : List Int} : (aa eI xs).take (xs.length * 1) = aa eI xs := HA (fun _ => rfl)
theorem pz : ∀ x : Int, leafL (eI x) = true := fun x => by simp only [eI_eq, rK, eB_eq, eS_eq, rL, lL, lM, CK, CL, CM, CN, CP, Bool.and_self]
theorem HB {a0 : VV} (h : leafL [a0] = true) : aQ Tryz.prog 22 1 [(0, a0)] = some ([a0], 1) := by
 have h2 : szT Tryz.prog 3 = some 1 := by kernel_rfl
 have h3 : vzero Tryz.prog 3 = some #[.int .i64 0] := by kernel_rfl
 simp only [lM, lL, Bool.and_true, Bool.and_eq_true] at h
 simp [aQ, Tryz.underlying22, h2, h3, vfill, vcells1, h, overwrite, vzeros, List.range_succ]
theorem HC {a0 a1 : VV} (h : leafL [a0, a1] = true) : aQ Tryz.prog 22 2 [(0, a0), (1, a1)] = some ([a0, a1], 1) := by
 have h2 : szT Tryz.prog 3 = some 1 := by kernel_rfl
 have h3 : vzero Tryz.prog 3 = some #[.int .i64 0] := by kernel_rfl
 simp only [lM, lL, Bool.and_true, Bool.and_eq_true] at h
 simp [aQ, Tryz.underlying22, h2, h3, vfill, vcells1, h, overwrite, vzeros, List.range_succ]
theorem aD {H : Nat → Option VObj} {xs : List Int} {x : Int} {f : Bool} {k : IntKind} {i : Int} (h : getI xs i = some x) : aF Tryz.prog H 22 (.sl (aa eI xs) xs.length f) (.lit (.int k i)) = some (.tp (eI x ++ aa eI (xs.drop (i.toNat + 1)))) :=
 ixG Tryz.underlying22 (by kernel_rfl : szT Tryz.prog 3 = some 1) (by decide) (fun _ => rfl) h
theorem HD {c : VV} {cs : List VV} : aV Tryz.prog 23 (c :: cs) = some c := by
 have h1 : aggT Tryz.prog 23 = some false := by kernel_rfl
 simp [aV, vpart, h1]
theorem yS {H : Nat → Option VObj} {cs : List VV} {n : Nat} {f : Bool} : vlen Tryz.prog H 23 (.sl cs n f) = some (.lit (.int .i64 n)) := by simp [vlen, Tryz.underlying23, sls]
theorem lenN23 {H : Nat → Option VObj} : vlen Tryz.prog H 23 (.lit (.slice none 0 0)) = some (.lit (.int .i64 0)) := by simp [vlen, Tryz.underlying23, sls]
theorem lenR23 {H : Nat → Option VObj} {β off n w c : Nat} : vlen Tryz.prog H 23 (.ref β off n w c) = (match H β with | some (.cells _ cs) => if off ≤ cs.length then some (.lit (.int .i64 n)) else none | _ => none) := lenR Tryz.underlying23
theorem cn {H : Nat → Option VObj} {xs : List GLp} {x : GLp} {f : Bool} {k : IntKind} {i : Int} (h : getI xs i = some x) : aF Tryz.prog H 23 (.sl (aa cGLp xs) xs.length f) (.lit (.int k i)) = some (.tp (cGLp x ++ aa cGLp (xs.drop (i.toNat + 1)))) :=
 ixG Tryz.underlying23 (by kernel_rfl : szT Tryz.prog 108 = some 4) (by decide) (fun _ => rfl) h
theorem HE {c0 c1 : VV} {cs : List VV} : aV Tryz.prog 25 (c0 :: c1 :: cs) = some (.agg [c0, c1]) := by
 have h1 : aggT Tryz.prog 25 = some true := by kernel_rfl
 have h2 : szT Tryz.prog 25 = some 2 := by kernel_rfl
 simp [aV, vpart, h1, h2]
theorem HF : szT Tryz.prog 25 = some 2 := by kernel_rfl
theorem yT : vzl Tryz.prog 25 = some [.lit (.int .i64 0), .lit (.int .i64 0)] := by kernel_rfl
theorem HG {H : Nat → Option VObj} {β o : Nat} : ae Tryz.prog H 25 (.ptr β o) 0 = if (H β).isSome = true then some (.ptr β (o + 0)) else none := by
 have h2 : szT Tryz.prog 3 = some 1 := by kernel_rfl
 simp [ae, Tryz.underlying25, h2]
theorem HH {H : Nat → Option VObj} {β o : Nat} : ae Tryz.prog H 25 (.ptr β o) 1 = if (H β).isSome = true then some (.ptr β (o + 1)) else none := by
 have h2 : szT Tryz.prog 3 = some 1 := by kernel_rfl
 simp [ae, Tryz.underlying25, h2]
theorem HI {c : VV} {cs : List VV} : aV Tryz.prog 26 (c :: cs) = some c := by
 have h1 : aggT Tryz.prog 26 = some false := by kernel_rfl
 simp [aV, vpart, h1]
theorem yU {H : Nat → Option VObj} {cs : List VV} {n : Nat} {f : Bool} : vlen Tryz.prog H 26 (.sl cs n f) = some (.lit (.int .i64 n)) := by simp [vlen, Tryz.underlying26, sls]
theorem lenN26 {H : Nat → Option VObj} : vlen Tryz.prog H 26 (.lit (.slice none 0 0)) = some (.lit (.int .i64 0)) := by simp [vlen, Tryz.underlying26, sls]
theorem lenR26 {H : Nat → Option VObj} {β off n w c : Nat} : vlen Tryz.prog H 26 (.ref β off n w c) = (match H β with | some (.cells _ cs) => if off ≤ cs.length then some (.lit (.int .i64 n)) else none | _ => none) := lenR Tryz.underlying26
theorem aE {H : Nat → Option VObj} {xs : List GLw} {x : GLw} {f : Bool} {k : IntKind} {i : Int} (h : getI xs i = some x) : aF Tryz.prog H 26 (.sl (aa cGLw xs) xs.length f) (.lit (.int k i)) = some (.tp (cGLw x ++ aa cGLw (xs.drop (i.toNat + 1)))) :=
 ixG Tryz.underlying26 (by kernel_rfl : szT Tryz.prog 79 = some 3) (by decide) (fun _ => rfl) h
theorem HJ {c0 c1 c2 c3 c4 c5 c6 c7 c8 c9 : VV} {cs : List VV} : aV Tryz.prog 28 (c0 :: c1 :: c2 :: c3 :: c4 :: c5 :: c6 :: c7 :: c8 :: c9 :: cs) = some (.agg [c0, c1, c2, c3, c4, c5, c6, c7, c8, c9]) := by
 have h1 : aggT Tryz.prog 28 = some true := by kernel_rfl
 have h2 : szT Tryz.prog 28 = some 10 := by kernel_rfl
 simp [aV, vpart, h1, h2]
theorem HK {H : Nat → Option VObj} {β o : Nat} : ae Tryz.prog H 28 (.ptr β o) 0 = if (H β).isSome = true then some (.ptr β (o + 0)) else none := by
 have h2 : szT Tryz.prog 22 = some 1 := by kernel_rfl
 simp [ae, Tryz.underlying28, h2]
theorem HL {H : Nat → Option VObj} {β o : Nat} : ae Tryz.prog H 28 (.ptr β o) 1 = if (H β).isSome = true then some (.ptr β (o + 1)) else none := by
 have h2 : szT Tryz.prog 23 = some 1 := by kernel_rfl
 simp [ae, Tryz.underlying28, h2]
theorem HM {H : Nat → Option VObj} {β o : Nat} : ae Tryz.prog H 28 (.ptr β o) 2 = if (H β).isSome = true then some (.ptr β (o + 2)) else none := by
 have h2 : szT Tryz.prog 25 = some 2 := by kernel_rfl
 simp [ae, Tryz.underlying28, h2]
theorem HN {H : Nat → Option VObj} {β o : Nat} : ae Tryz.prog H 28 (.ptr β o) 3 = if (H β).isSome = true then some (.ptr β (o + 4)) else none := by
 have h2 : szT Tryz.prog 25 = some 2 := by kernel_rfl
 simp [ae, Tryz.underlying28, h2]
theorem HO {H : Nat → Option VObj} {β o : Nat} : ae Tryz.prog H 28 (.ptr β o) 4 = if (H β).isSome = true then some (.ptr β (o + 6)) else none := by
 have h2 : szT Tryz.prog 3 = some 1 := by kernel_rfl
 simp [ae, Tryz.underlying28, h2]
theorem HP {H : Nat → Option VObj} {β o : Nat} : ae Tryz.prog H 28 (.ptr β o) 5 = if (H β).isSome = true then some (.ptr β (o + 7)) else none := by
 have h2 : szT Tryz.prog 26 = some 1 := by kernel_rfl
 simp [ae, Tryz.underlying28, h2]
theorem HQ {H : Nat → Option VObj} {β o : Nat} : ae Tryz.prog H 28 (.ptr β o) 6 = if (H β).isSome = true then some (.ptr β (o + 8)) else none := by
 have h2 : szT Tryz.prog 3 = some 1 := by kernel_rfl
 simp [ae, Tryz.underlying28, h2]
theorem HR {H : Nat → Option VObj} {cs : List VV} : ae Tryz.prog H 28 (.tp cs) 7 = some (.tp (cs.drop 9)) := by
 have h2 : szT Tryz.prog 3 = some 1 := by kernel_rfl
 simp [ae, Tryz.underlying28, h2]
theorem HS {H : Nat → Option VObj} {β o : Nat} : ae Tryz.prog H 28 (.ptr β o) 7 = if (H β).isSome = true then some (.ptr β (o + 9)) else none := by
 have h2 : szT Tryz.prog 3 = some 1 := by kernel_rfl
 simp [ae, Tryz.underlying28, h2]
theorem HT {c : VV} {cs : List VV} : aV Tryz.prog 29 (c :: cs) = some c := by
 have h1 : aggT Tryz.prog 29 = some false := by kernel_rfl
 simp [aV, vpart, h1]
theorem HU : szT Tryz.prog 29 = some 1 := by kernel_rfl
theorem yV : vzl Tryz.prog 29 = some [.lit (.slice none 0 0)] := by kernel_rfl
theorem yW {H : Nat → Option VObj} {cs : List VV} {n : Nat} {f : Bool} : vlen Tryz.prog H 29 (.sl cs n f) = some (.lit (.int .i64 n)) := by simp [vlen, Tryz.underlying29, sls]
theorem lenN29 {H : Nat → Option VObj} : vlen Tryz.prog H 29 (.lit (.slice none 0 0)) = some (.lit (.int .i64 0)) := by simp [vlen, Tryz.underlying29, sls]
theorem lenR29 {H : Nat → Option VObj} {β off n w c : Nat} : vlen Tryz.prog H 29 (.ref β off n w c) = (match H β with | some (.cells _ cs) => if off ≤ cs.length then some (.lit (.int .i64 n)) else none | _ => none) := lenR Tryz.underlying29
theorem gW : elemT Tryz.prog 29 = some 100 := by simp [elemT, Tryz.underlying29]
theorem gj : appOk Tryz.prog 29 = some (100, 2, 16) := by kernel_rfl
theorem HV {xs : List GLe} : (aa cGLe xs).take (xs.length * 2) = aa cGLe xs := HA (fun _ => rfl)
theorem gk : ∀ x : GLe, leafL (cGLe x) = true := fun x => by simp only [eI_eq, rK, eB_eq, eS_eq, rL, w5, lL, lM, CK, CL, CM, CN, CP, Bool.and_self]
theorem HW {c0 c1 : VV} (h : leafL [c0, c1] = true) : aQ Tryz.prog 29 1 [(0, .agg [c0, c1])] = some ([c0, c1], 2) := by
 have h2 : szT Tryz.prog 100 = some 2 := by kernel_rfl
 have h3 : vzero Tryz.prog 100 = some #[.int .i64 0, .int .i64 0] := by kernel_rfl
 simp only [lM, lL, Bool.and_true, Bool.and_eq_true] at h
 simp [aQ, Tryz.underlying29, h2, h3, vfill, aX, h, overwrite, vzeros]
theorem aG {H : Nat → Option VObj} {xs : List GLe} {x : GLe} {f : Bool} {k : IntKind} {i : Int} (h : getI xs i = some x) : aF Tryz.prog H 29 (.sl (aa cGLe xs) xs.length f) (.lit (.int k i)) = some (.tp (cGLe x ++ aa cGLe (xs.drop (i.toNat + 1)))) :=
 ixG Tryz.underlying29 (by kernel_rfl : szT Tryz.prog 100 = some 2) (by decide) (fun _ => rfl) h
theorem HX {c0 c1 : VV} {cs : List VV} : aV Tryz.prog 31 (c0 :: c1 :: cs) = some (.agg [c0, c1]) := by
 have h1 : aggT Tryz.prog 31 = some true := by kernel_rfl
 have h2 : szT Tryz.prog 31 = some 2 := by kernel_rfl
 simp [aV, vpart, h1, h2]
theorem HY : szT Tryz.prog 31 = some 2 := by kernel_rfl
theorem p8 : vzl Tryz.prog 31 = some [.lit (.slice none 0 0), .lit (.slice none 0 0)] := by kernel_rfl
theorem HZ {H : Nat → Option VObj} {β o : Nat} : ae Tryz.prog H 31 (.ptr β o) 0 = if (H β).isSome = true then some (.ptr β (o + 0)) else none := by
 have h2 : szT Tryz.prog 22 = some 1 := by kernel_rfl
 simp [ae, Tryz.underlying31, h2]
theorem Ia {H : Nat → Option VObj} {β o : Nat} : ae Tryz.prog H 31 (.ptr β o) 1 = if (H β).isSome = true then some (.ptr β (o + 1)) else none := by
 have h2 : szT Tryz.prog 29 = some 1 := by kernel_rfl
 simp [ae, Tryz.underlying31, h2]
theorem yX {H : Nat → Option VObj} {cs : List VV} {n : Nat} {f : Bool} : vlen Tryz.prog H 44 (.sl cs n f) = some (.lit (.int .i64 n)) := by simp [vlen, Tryz.underlying44, sls]
theorem lenN44 {H : Nat → Option VObj} : vlen Tryz.prog H 44 (.lit (.slice none 0 0)) = some (.lit (.int .i64 0)) := by simp [vlen, Tryz.underlying44, sls]
theorem lenR44 {H : Nat → Option VObj} {β off n w c : Nat} : vlen Tryz.prog H 44 (.ref β off n w c) = (match H β with | some (.cells _ cs) => if off ≤ cs.length then some (.lit (.int .i64 n)) else none | _ => none) := lenR Tryz.underlying44
theorem yY {H : Nat → Option VObj} {cs : List VV} {n : Nat} {f : Bool} : vlen Tryz.prog H 47 (.sl cs n f) = some (.lit (.int .i64 n)) := by simp [vlen, Tryz.underlying47, sls]
theorem lenN47 {H : Nat → Option VObj} : vlen Tryz.prog H 47 (.lit (.slice none 0 0)) = some (.lit (.int .i64 0)) := by simp [vlen, Tryz.underlying47, sls]
theorem lenR47 {H : Nat → Option VObj} {β off n w c : Nat} : vlen Tryz.prog H 47 (.ref β off n w c) = (match H β with | some (.cells _ cs) => if off ≤ cs.length then some (.lit (.int .i64 n)) else none | _ => none) := lenR Tryz.underlying47
theorem yZ {H : Nat → Option VObj} {cs : List VV} {n : Nat} {f : Bool} : vlen Tryz.prog H 49 (.sl cs n f) = some (.lit (.int .i64 n)) := by simp [vlen, Tryz.underlying49, sls]
theorem lenN49 {H : Nat → Option VObj} : vlen Tryz.prog H 49 (.lit (.slice none 0 0)) = some (.lit (.int .i64 0)) := by simp [vlen, Tryz.underlying49, sls]
theorem lenR49 {H : Nat → Option VObj} {β off n w c : Nat} : vlen Tryz.prog H 49 (.ref β off n w c) = (match H β with | some (.cells _ cs) => if off ≤ cs.length then some (.lit (.int .i64 n)) else none | _ => none) := lenR Tryz.underlying49
theorem Ib {c0 c1 c2 : VV} {cs : List VV} : aV Tryz.prog 79 (c0 :: c1 :: c2 :: cs) = some (.agg [c0, c1, c2]) := by
 have h1 : aggT Tryz.prog 79 = some true := by kernel_rfl
 have h2 : szT Tryz.prog 79 = some 3 := by kernel_rfl
 simp [aV, vpart, h1, h2]
theorem Ic : szT Tryz.prog 79 = some 3 := by kernel_rfl
theorem za : vzl Tryz.prog 79 = some [.lit (.slice none 0 0), .lit (.slice none 0 0), .lit (.bool false)] := by kernel_rfl
theorem Ie {H : Nat → Option VObj} {cs : List VV} : ae Tryz.prog H 79 (.tp cs) 0 = some (.tp (cs.drop 0)) := by
 have h2 : szT Tryz.prog 22 = some 1 := by kernel_rfl
 simp [ae, Tryz.underlying79, h2]
theorem Ig {H : Nat → Option VObj} {β o : Nat} : ae Tryz.prog H 79 (.ptr β o) 0 = if (H β).isSome = true then some (.ptr β (o + 0)) else none := by
 have h2 : szT Tryz.prog 22 = some 1 := by kernel_rfl
 simp [ae, Tryz.underlying79, h2]
theorem Ih {H : Nat → Option VObj} {cs : List VV} : ae Tryz.prog H 79 (.tp cs) 1 = some (.tp (cs.drop 1)) := by
 have h2 : szT Tryz.prog 22 = some 1 := by kernel_rfl
 simp [ae, Tryz.underlying79, h2]
theorem Ii {H : Nat → Option VObj} {β o : Nat} : ae Tryz.prog H 79 (.ptr β o) 1 = if (H β).isSome = true then some (.ptr β (o + 1)) else none := by
 have h2 : szT Tryz.prog 22 = some 1 := by kernel_rfl
 simp [ae, Tryz.underlying79, h2]
theorem Ij {H : Nat → Option VObj} {cs : List VV} : ae Tryz.prog H 79 (.tp cs) 2 = some (.tp (cs.drop 2)) := by
 have h2 : szT Tryz.prog 4 = some 1 := by kernel_rfl
 simp [ae, Tryz.underlying79, h2]
theorem Ik {c : VV} {cs : List VV} : aV Tryz.prog 91 (c :: cs) = some c := by
 have h1 : aggT Tryz.prog 91 = some false := by kernel_rfl
 simp [aV, vpart, h1]
theorem Il : szT Tryz.prog 91 = some 1 := by kernel_rfl
theorem zb {H : Nat → Option VObj} {cs : List VV} {n : Nat} {f : Bool} : vlen Tryz.prog H 91 (.sl cs n f) = some (.lit (.int .i64 n)) := by simp [vlen, Tryz.underlying91, sls]
theorem lenN91 {H : Nat → Option VObj} : vlen Tryz.prog H 91 (.lit (.slice none 0 0)) = some (.lit (.int .i64 0)) := by simp [vlen, Tryz.underlying91, sls]
theorem lenR91 {H : Nat → Option VObj} {β off n w c : Nat} : vlen Tryz.prog H 91 (.ref β off n w c) = (match H β with | some (.cells _ cs) => if off ≤ cs.length then some (.lit (.int .i64 n)) else none | _ => none) := lenR Tryz.underlying91
theorem gX : elemT Tryz.prog 91 = some 144 := by simp [elemT, Tryz.underlying91]
theorem lh : appOk Tryz.prog 91 = some (144, 4, 32) := by kernel_rfl
theorem Im {xs : List Glm} : (aa cGlm xs).take (xs.length * 4) = aa cGlm xs := HA (fun _ => rfl)
theorem lj : ∀ x : Glm, leafL (cGlm x) = true := fun x => by simp only [eI_eq, rK, eB_eq, eS_eq, rL, yO, lL, lM, CK, CL, CM, CN, CP, Bool.and_self]
theorem Io {c0 c1 c2 c3 : VV} (h : leafL [c0, c1, c2, c3] = true) : aQ Tryz.prog 91 1 [(0, .agg [c0, c1, c2, c3])] = some ([c0, c1, c2, c3], 4) := by
 have h2 : szT Tryz.prog 144 = some 4 := by kernel_rfl
 have h3 : vzero Tryz.prog 144 = some #[.int .i64 0, .int .i64 0, .int .i64 0, .bool false] := by kernel_rfl
 simp only [lM, lL, Bool.and_true, Bool.and_eq_true] at h
 simp [aQ, Tryz.underlying91, h2, h3, vfill, aX, h, overwrite, vzeros]
theorem bk {H : Nat → Option VObj} {xs : List Glm} {x : Glm} {f : Bool} {k : IntKind} {i : Int} (h : getI xs i = some x) : aF Tryz.prog H 91 (.sl (aa cGlm xs) xs.length f) (.lit (.int k i)) = some (.tp (cGlm x ++ aa cGlm (xs.drop (i.toNat + 1)))) :=
 ixG Tryz.underlying91 (by kernel_rfl : szT Tryz.prog 144 = some 4) (by decide) (fun _ => rfl) h
theorem Ip {c0 c1 c2 c3 c4 c5 c6 c7 c8 c9 Iq CQ QO QP QQ : VV} {cs : List VV} : aV Tryz.prog 93 (c0 :: c1 :: c2 :: c3 :: c4 :: c5 :: c6 :: c7 :: c8 :: c9 :: Iq :: CQ :: QO :: QP :: QQ :: cs) = some (.agg [c0, c1, c2, c3, c4, c5, c6, c7, c8, c9, Iq, CQ, QO, QP, QQ]) := by
 have h1 : aggT Tryz.prog 93 = some true := by kernel_rfl
 have h2 : szT Tryz.prog 93 = some 15 := by kernel_rfl
 simp [aV, vpart, h1, h2]
theorem Ir : szT Tryz.prog 93 = some 15 := by kernel_rfl
theorem pE : vzl Tryz.prog 93 = some [.lit (.slice none 0 0), .lit (.slice none 0 0), .lit (.int .i64 0), .lit (.int .i64 0), .lit (.int .i64 0), .lit (.int .i64 0), .lit (.int .i64 0), .lit (.slice none 0 0), .lit (.int .i64 0), .lit (.int .i64 0), .lit (.slice none 0 0), .lit (.slice none 0 0), .lit (.int .i64 0), .lit (.map none), .lit (.slice none 0 0)] := by kernel_rfl
theorem Is {H : Nat → Option VObj} {β o : Nat} : ae Tryz.prog H 93 (.ptr β o) 0 = if (H β).isSome = true then some (.ptr β (o + 0)) else none := by
 have h2 : szT Tryz.prog 28 = some 10 := by kernel_rfl
 simp [ae, Tryz.underlying93, h2]
theorem It {H : Nat → Option VObj} {β o : Nat} : ae Tryz.prog H 93 (.ptr β o) 1 = if (H β).isSome = true then some (.ptr β (o + 10)) else none := by
 have h2 : szT Tryz.prog 31 = some 2 := by kernel_rfl
 simp [ae, Tryz.underlying93, h2]
theorem Iu {H : Nat → Option VObj} {β o : Nat} : ae Tryz.prog H 93 (.ptr β o) 2 = if (H β).isSome = true then some (.ptr β (o + 12)) else none := by
 have h2 : szT Tryz.prog 3 = some 1 := by kernel_rfl
 simp [ae, Tryz.underlying93, h2]
theorem Iv {H : Nat → Option VObj} {β o : Nat} : ae Tryz.prog H 93 (.ptr β o) 3 = if (H β).isSome = true then some (.ptr β (o + 13)) else none := by
 have h2 : szT Tryz.prog 90 = some 1 := by kernel_rfl
 simp [ae, Tryz.underlying93, h2]
theorem Iw {H : Nat → Option VObj} {β o : Nat} : ae Tryz.prog H 93 (.ptr β o) 4 = if (H β).isSome = true then some (.ptr β (o + 14)) else none := by
 have h2 : szT Tryz.prog 91 = some 1 := by kernel_rfl
 simp [ae, Tryz.underlying93, h2]
theorem zc {c0 c1 : VV} {cs : List VV} : aV Tryz.prog 100 (c0 :: c1 :: cs) = some (.agg [c0, c1]) := by
 have h1 : aggT Tryz.prog 100 = some true := by kernel_rfl
 have h2 : szT Tryz.prog 100 = some 2 := by kernel_rfl
 simp [aV, vpart, h1, h2]
theorem zd : szT Tryz.prog 100 = some 2 := by kernel_rfl
theorem pF : vzl Tryz.prog 100 = some [.lit (.int .i64 0), .lit (.int .i64 0)] := by kernel_rfl
theorem Ix {H : Nat → Option VObj} {β o : Nat} : ae Tryz.prog H 100 (.ptr β o) 0 = if (H β).isSome = true then some (.ptr β (o + 0)) else none := by
 have h2 : szT Tryz.prog 3 = some 1 := by kernel_rfl
 simp [ae, Tryz.underlying100, h2]
theorem Iy {H : Nat → Option VObj} {β o : Nat} : ae Tryz.prog H 100 (.ptr β o) 1 = if (H β).isSome = true then some (.ptr β (o + 1)) else none := by
 have h2 : szT Tryz.prog 3 = some 1 := by kernel_rfl
 simp [ae, Tryz.underlying100, h2]
theorem ze {c0 c1 c2 c3 : VV} {cs : List VV} : aV Tryz.prog 108 (c0 :: c1 :: c2 :: c3 :: cs) = some (.agg [c0, c1, c2, c3]) := by
 have h1 : aggT Tryz.prog 108 = some true := by kernel_rfl
 have h2 : szT Tryz.prog 108 = some 4 := by kernel_rfl
 simp [aV, vpart, h1, h2]
theorem zf : szT Tryz.prog 108 = some 4 := by kernel_rfl
theorem ud : vzl Tryz.prog 108 = some [.lit (.int .i64 0), .lit (.int .i64 0), .lit (.int .i64 0), .lit (.int .i64 0)] := by kernel_rfl
theorem Iz {H : Nat → Option VObj} {cs : List VV} : ae Tryz.prog H 108 (.tp cs) 0 = some (.tp (cs.drop 0)) := by
 have h2 : szT Tryz.prog 3 = some 1 := by kernel_rfl
 simp [ae, Tryz.underlying108, h2]
theorem I0 {H : Nat → Option VObj} {β o : Nat} : ae Tryz.prog H 108 (.ptr β o) 0 = if (H β).isSome = true then some (.ptr β (o + 0)) else none := by
 have h2 : szT Tryz.prog 3 = some 1 := by kernel_rfl
 simp [ae, Tryz.underlying108, h2]
theorem I1 {H : Nat → Option VObj} {cs : List VV} : ae Tryz.prog H 108 (.tp cs) 1 = some (.tp (cs.drop 1)) := by
 have h2 : szT Tryz.prog 3 = some 1 := by kernel_rfl
 simp [ae, Tryz.underlying108, h2]
theorem I2 {H : Nat → Option VObj} {β o : Nat} : ae Tryz.prog H 108 (.ptr β o) 1 = if (H β).isSome = true then some (.ptr β (o + 1)) else none := by
 have h2 : szT Tryz.prog 3 = some 1 := by kernel_rfl
 simp [ae, Tryz.underlying108, h2]
theorem I8 {H : Nat → Option VObj} {β o : Nat} : ae Tryz.prog H 108 (.ptr β o) 2 = if (H β).isSome = true then some (.ptr β (o + 2)) else none := by
 have h2 : szT Tryz.prog 25 = some 2 := by kernel_rfl
 simp [ae, Tryz.underlying108, h2]
theorem ue {H : Nat → Option VObj} {cs : List VV} {n : Nat} {f : Bool} : vlen Tryz.prog H 117 (.sl cs n f) = some (.lit (.int .i64 n)) := by simp [vlen, Tryz.underlying117, sls]
theorem lenN117 {H : Nat → Option VObj} : vlen Tryz.prog H 117 (.lit (.slice none 0 0)) = some (.lit (.int .i64 0)) := by simp [vlen, Tryz.underlying117, sls]
theorem lenR117 {H : Nat → Option VObj} {β off n w c : Nat} : vlen Tryz.prog H 117 (.ref β off n w c) = (match H β with | some (.cells _ cs) => if off ≤ cs.length then some (.lit (.int .i64 n)) else none | _ => none) := lenR Tryz.underlying117
theorem uf : vzl Tryz.prog 142 = some [.lit (.int .i64 0), .lit (.int .i64 0)] := by kernel_rfl
theorem zg {c0 c1 c2 c3 : VV} {cs : List VV} : aV Tryz.prog 144 (c0 :: c1 :: c2 :: c3 :: cs) = some (.agg [c0, c1, c2, c3]) := by
 have h1 : aggT Tryz.prog 144 = some true := by kernel_rfl
 have h2 : szT Tryz.prog 144 = some 4 := by kernel_rfl
 simp [aV, vpart, h1, h2]
theorem zh : szT Tryz.prog 144 = some 4 := by kernel_rfl
theorem pG : vzl Tryz.prog 144 = some [.lit (.int .i64 0), .lit (.int .i64 0), .lit (.int .i64 0), .lit (.bool false)] := by kernel_rfl
theorem IA {H : Nat → Option VObj} {β o : Nat} : ae Tryz.prog H 144 (.ptr β o) 0 = if (H β).isSome = true then some (.ptr β (o + 0)) else none := by
 have h2 : szT Tryz.prog 3 = some 1 := by kernel_rfl
 simp [ae, Tryz.underlying144, h2]
theorem IB {H : Nat → Option VObj} {β o : Nat} : ae Tryz.prog H 144 (.ptr β o) 1 = if (H β).isSome = true then some (.ptr β (o + 1)) else none := by
 have h2 : szT Tryz.prog 3 = some 1 := by kernel_rfl
 simp [ae, Tryz.underlying144, h2]
theorem IC {H : Nat → Option VObj} {β o : Nat} : ae Tryz.prog H 144 (.ptr β o) 2 = if (H β).isSome = true then some (.ptr β (o + 2)) else none := by
 have h2 : szT Tryz.prog 3 = some 1 := by kernel_rfl
 simp [ae, Tryz.underlying144, h2]
theorem ID {H : Nat → Option VObj} {β o : Nat} : ae Tryz.prog H 144 (.ptr β o) 3 = if (H β).isSome = true then some (.ptr β (o + 3)) else none := by
 have h2 : szT Tryz.prog 4 = some 1 := by kernel_rfl
 simp [ae, Tryz.underlying144, h2]
theorem ug {H : Nat → Option VObj} {cs : List VV} {n : Nat} {f : Bool} : vlen Tryz.prog H 158 (.sl cs n f) = some (.lit (.int .i64 n)) := by simp [vlen, Tryz.underlying158, sls]
theorem lenN158 {H : Nat → Option VObj} : vlen Tryz.prog H 158 (.lit (.slice none 0 0)) = some (.lit (.int .i64 0)) := by simp [vlen, Tryz.underlying158, sls]
theorem lenR158 {H : Nat → Option VObj} {β off n w c : Nat} : vlen Tryz.prog H 158 (.ref β off n w c) = (match H β with | some (.cells _ cs) => if off ≤ cs.length then some (.lit (.int .i64 n)) else none | _ => none) := lenR Tryz.underlying158
theorem IE {c : VV} {cs : List VV} : aV Tryz.prog 33 (c :: cs) = some c := by
 have h1 : aggT Tryz.prog 33 = some false := by kernel_rfl
 simp [aV, vpart, h1]
theorem zi {c : VV} {cs : List VV} : aV Tryz.prog 116 (c :: cs) = some c := by
 have h1 : aggT Tryz.prog 116 = some false := by kernel_rfl
 simp [aV, vpart, h1]
theorem zj {c : VV} {cs : List VV} : aV Tryz.prog 152 (c :: cs) = some c := by
 have h1 : aggT Tryz.prog 152 = some false := by kernel_rfl
 simp [aV, vpart, h1]
theorem zk : szT Tryz.prog 155 = some 1 := by kernel_rfl
theorem zl {c : VV} {cs : List VV} : aV Tryz.prog 155 (c :: cs) = some c := by
 have h1 : aggT Tryz.prog 155 = some false := by kernel_rfl
 simp [aV, vpart, h1]
theorem uh : vzl Tryz.prog 155 = some [.lit .nilFunc] := by kernel_rfl
theorem zm {c : VV} {cs : List VV} : aV Tryz.prog 178 (c :: cs) = some c := by
 have h1 : aggT Tryz.prog 178 = some false := by kernel_rfl
 simp [aV, vpart, h1]
theorem zn : szT Tryz.prog 180 = some 2 := by kernel_rfl
theorem pH : vzl Tryz.prog 180 = some [.lit .nilFunc, .lit .nilFunc] := by kernel_rfl
theorem IF {H : Nat → Option VObj} {β o : Nat} {k : IntKind} : aF Tryz.prog H 180 (.ptr β o) (.lit (.int k 0)) = if (H β).isSome = true then some (.ptr β (o + 0)) else none := by
 have h2 : szT Tryz.prog 178 = some 1 := by kernel_rfl
 simp [aF, Tryz.underlying180, h2]
theorem IG : vbuild Tryz.prog 31 [] = some (.agg [.lit (.slice none 0 0), .lit (.slice none 0 0)]) := by
 rw [sW p8 (by kernel_rfl)]
 rfl
theorem IH {dw dx : VV} (h : leafL [dw, dx] = true) : vbuild Tryz.prog 31 [(0, dw), (1, dx)] = some (.agg [dw, dx]) := by
 have p0 : placeT Tryz.prog 31 0 = some (0, 1) := by kernel_rfl
 have p1 : placeT Tryz.prog 31 1 = some (1, 1) := by kernel_rfl
 simp only [lM, lL, Bool.and_true, Bool.and_eq_true] at h
 rw [sW p8 (by kernel_rfl)]
 simp [vfill, p0, p1, vcells1, h, overwrite]
theorem II : vbuild Tryz.prog 93 [] = some (.agg [.lit (.slice none 0 0), .lit (.slice none 0 0), .lit (.int .i64 0), .lit (.int .i64 0), .lit (.int .i64 0), .lit (.int .i64 0), .lit (.int .i64 0), .lit (.slice none 0 0), .lit (.int .i64 0), .lit (.int .i64 0), .lit (.slice none 0 0), .lit (.slice none 0 0), .lit (.int .i64 0), .lit (.map none), .lit (.slice none 0 0)]) := by
 rw [sW pE (by kernel_rfl)]
 rfl
theorem UU {dw pI pJ pK pL pM pN pO pP pQ dx pR mw my : VV} (h : leafL [dw, pI, pJ, pK, pL, pM, pN, pO, pP, pQ, dx, pR, mw, my] = true) : vbuild Tryz.prog 93 [(0, .agg [dw, pI, pJ, pK, pL, pM, pN, pO, pP, pQ]), (1, .agg [dx, pR]), (2, mw), (3, my)] = some (.agg [dw, pI, pJ, pK, pL, pM, pN, pO, pP, pQ, dx, pR, mw, my, .lit (.slice none 0 0)]) := by
 have p0 : placeT Tryz.prog 93 0 = some (0, 10) := by kernel_rfl
 have p1 : placeT Tryz.prog 93 1 = some (10, 2) := by kernel_rfl
 have p2 : placeT Tryz.prog 93 2 = some (12, 1) := by kernel_rfl
 have p3 : placeT Tryz.prog 93 3 = some (13, 1) := by kernel_rfl
 simp only [lM, lL, Bool.and_true, Bool.and_eq_true] at h
 have q0 : aX (.agg [dw, pI, pJ, pK, pL, pM, pN, pO, pP, pQ]) = some [dw, pI, pJ, pK, pL, pM, pN, pO, pP, pQ] := by rw [IJ]; simp [lM, lL, h]
 have q1 : aX (.agg [dx, pR]) = some [dx, pR] := by rw [IJ]; simp [lM, lL, h]
 rw [sW pE (by kernel_rfl)]
 simp [vfill, p0, p1, p2, p3, vcells1, h, overwrite, q0, q1]
theorem IK {dw dx : VV} (h : leafL [dw, dx] = true) : vbuild Tryz.prog 100 [(0, dw), (1, dx)] = some (.agg [dw, dx]) := by
 have p0 : placeT Tryz.prog 100 0 = some (0, 1) := by kernel_rfl
 have p1 : placeT Tryz.prog 100 1 = some (1, 1) := by kernel_rfl
 simp only [lM, lL, Bool.and_true, Bool.and_eq_true] at h
 rw [sW pF (by kernel_rfl)]
 simp [vfill, p0, p1, vcells1, h, overwrite]
theorem IL {dw dx : VV} (h : leafL [dw, dx] = true) : vbuild Tryz.prog 142 [(0, dw), (1, dx)] = some (.agg [dw, dx]) := by
 have p0 : placeT Tryz.prog 142 0 = some (0, 1) := by kernel_rfl
 have p1 : placeT Tryz.prog 142 1 = some (1, 1) := by kernel_rfl
 simp only [lM, lL, Bool.and_true, Bool.and_eq_true] at h
 rw [sW uf (by kernel_rfl)]
 simp [vfill, p0, p1, vcells1, h, overwrite]
theorem UW {dw dx mw my : VV} (h : leafL [dw, dx, mw, my] = true) : vbuild Tryz.prog 144 [(0, dw), (1, dx), (2, mw), (3, my)] = some (.agg [dw, dx, mw, my]) := by
 have p0 : placeT Tryz.prog 144 0 = some (0, 1) := by kernel_rfl
 have p1 : placeT Tryz.prog 144 1 = some (1, 1) := by kernel_rfl
 have p2 : placeT Tryz.prog 144 2 = some (2, 1) := by kernel_rfl
 have p3 : placeT Tryz.prog 144 3 = some (3, 1) := by kernel_rfl
 simp only [lM, lL, Bool.and_true, Bool.and_eq_true] at h
 rw [sW pG (by kernel_rfl)]
 simp [vfill, p0, p1, p2, p3, vcells1, h, overwrite]
theorem zo : vbuild Tryz.prog 149 [] = some (.agg []) := by kernel_rfl
theorem zp : szT Tryz.prog 149 = some 0 := by kernel_rfl
theorem ui : vzl Tryz.prog 149 = some [] := by kernel_rfl
theorem IM {dw dx : VV} (h : leafL [dw, dx] = true) : vbuild Tryz.prog 180 [(0, dw), (1, dx)] = some (.agg [dw, dx]) := by
 have p0 : placeT Tryz.prog 180 0 = some (0, 1) := by kernel_rfl
 have p1 : placeT Tryz.prog 180 1 = some (1, 1) := by kernel_rfl
 simp only [lM, lL, Bool.and_true, Bool.and_eq_true] at h
 rw [sW pH (by kernel_rfl)]
 simp [vfill, p0, p1, vcells1, h, overwrite]
theorem UX {x : VV} : mkIfcV Tryz.prog 9 x = some (.ifc 9 x) := by simp [mkIfcV, Tryz.underlying9]
theorem zq {x : VV} : mkIfcV Tryz.prog 149 x = some (.ifc 149 x) := by simp [mkIfcV, Tryz.underlying149]
theorem ta : ((Tryz.prog.info? 149).bind (·.zero)).map (fun z => VV.tup [ofVal2 z, .lit (.bool false)]) = some (.tup [.agg [], .lit (.bool false)]) := by kernel_rfl
theorem zr : vtypeAssert Tryz.prog (.lit .nilIface) 149 true = some (.tup [.agg [], .lit (.bool false)]) := by
 simp only [vtypeAssert, Tryz.underlying149, if_true]
 exact ta
theorem IN {x : VV} : vtypeAssert Tryz.prog (.ifc 9 x) 149 true = some (.tup [.agg [], .lit (.bool false)]) := by
 simp only [vtypeAssert, Tryz.underlying149, if_true]
 rw [if_neg (by decide)]
 exact ta
theorem zt {x : VV} : vtypeAssert Tryz.prog (.ifc 149 x) 149 true = some (.tup [x, .lit (.bool true)]) := by
 simp [vtypeAssert, Tryz.underlying149]
theorem UY {H : Nat → Option VObj} {x y : Operand} {a b : Bool} : binV Tryz.prog H .eql 4 x y (.lit (.bool a)) (.lit (.bool b)) = some (.lit (.bool (a == b))) := Hq Tryz.underlying4
theorem UZ {H : Nat → Option VObj} {x y : Operand} {a b : Bool} : binV Tryz.prog H .neq 4 x y (.lit (.bool a)) (.lit (.bool b)) = some (.lit (.bool (a != b))) := Hr Tryz.underlying4
theorem tc {H : Nat → Option VObj} {x y : Operand} {a0 b0 : Int} {a1 b1 : Int} : binV Tryz.prog H .eql 100 x y (.agg [.lit (.int .i64 a0), .lit (.int .i64 a1)]) (.agg [.lit (.int .i64 b0), .lit (.int .i64 b1)]) = some (.lit (.bool (a0 == b0 && (a1 == b1)))) ∧ binV Tryz.prog H .neq 100 x y (.agg [.lit (.int .i64 a0), .lit (.int .i64 a1)]) (.agg [.lit (.int .i64 b0), .lit (.int .i64 b1)]) = some (.lit (.bool (!(a0 == b0 && (a1 == b1))))) := by
 refine binS (xs := [.int .i64 a0, .int .i64 a1]) (ys := [.int .i64 b0, .int .i64 b1]) (by simp [VV.val?, valL?]) (by simp [VV.val?, valL?]) Tryz.underlying100 (by kernel_rfl) (by kernel_rfl) ?_
 simp [eqF, pw, eq1, Tryz.underlying3]
theorem zu {H : Nat → Option VObj} {x y : Operand} {a0 b0 : Int} {a1 b1 : Int} : binV Tryz.prog H .eql 100 x y (.agg [.lit (.int .i64 a0), .lit (.int .i64 a1)]) (.agg [.lit (.int .i64 b0), .lit (.int .i64 b1)]) = some (.lit (.bool (a0 == b0 && (a1 == b1)))) := tc.1
theorem zw {H : Nat → Option VObj} {x y : Operand} {a0 b0 : Int} {a1 b1 : Int} : binV Tryz.prog H .neq 100 x y (.agg [.lit (.int .i64 a0), .lit (.int .i64 a1)]) (.agg [.lit (.int .i64 b0), .lit (.int .i64 b1)]) = some (.lit (.bool (!(a0 == b0 && (a1 == b1))))) := tc.2
theorem IP : (VV.lit Value.nilFunc).leaf = true := rfl
theorem IQ : (VV.lit Value.nilIface).leaf = true := rfl
def tyf := (And.intro (And.intro (And.intro (And.intro (And.intro (And.intro (And.intro @uc @yK) (And.intro @yL @yM)) (And.intro (And.intro @w5 @yN) (And.intro @CH (And.intro @yO @CI)))) (And.intro (And.intro (And.intro @yP @UQ) (And.intro @UR (And.intro @Hx @US))) (And.intro (And.intro @UT @Hy) (And.intro @Hz (And.intro @yR @lenN22))))) (And.intro (And.intro (And.intro (And.intro @lenR22 @jE) (And.intro @H6 (And.intro @HB @HC))) (And.intro (And.intro @HD @yS) (And.intro @lenN23 (And.intro @lenR23 @HE)))) (And.intro (And.intro (And.intro @HF @yT) (And.intro @HG (And.intro @HH @HI))) (And.intro (And.intro @yU @lenN26) (And.intro @lenR26 (And.intro @HJ @HK)))))) (And.intro (And.intro (And.intro (And.intro (And.intro @HL @HM) (And.intro @HN (And.intro @HO @HP))) (And.intro (And.intro @HQ @HR) (And.intro @HS (And.intro @HT @HU)))) (And.intro (And.intro (And.intro @yV @yW) (And.intro @lenN29 (And.intro @lenR29 @gW))) (And.intro (And.intro @HV @HW) (And.intro @HX (And.intro @HY @p8))))) (And.intro (And.intro (And.intro (And.intro @HZ @Ia) (And.intro @yX (And.intro @lenN44 @lenR44))) (And.intro (And.intro @yY @lenN47) (And.intro @lenR47 (And.intro @yZ @lenN49)))) (And.intro (And.intro (And.intro @lenR49 @Ib) (And.intro @Ic (And.intro @za @Ie))) (And.intro (And.intro @Ig @Ih) (And.intro @Ii (And.intro @Ij @Ik))))))) (And.intro (And.intro (And.intro (And.intro (And.intro (And.intro @Il @zb) (And.intro @lenN91 @lenR91)) (And.intro (And.intro @gX @Im) (And.intro @Io (And.intro @Ip @Ir)))) (And.intro (And.intro (And.intro @pE @Is) (And.intro @It (And.intro @Iu @Iv))) (And.intro (And.intro @Iw @zc) (And.intro @zd (And.intro @pF @Ix))))) (And.intro (And.intro (And.intro (And.intro @Iy @ze) (And.intro @zf (And.intro @ud @Iz))) (And.intro (And.intro @I0 @I1) (And.intro @I2 (And.intro @I8 @ue)))) (And.intro (And.intro (And.intro @lenN117 @lenR117) (And.intro @zg (And.intro @zh @pG))) (And.intro (And.intro @IA @IB) (And.intro @IC (And.intro @ID @ug)))))) (And.intro (And.intro (And.intro (And.intro (And.intro @lenN158 @lenR158) (And.intro @IE (And.intro @zi @zj))) (And.intro (And.intro @zk @zl) (And.intro @uh (And.intro @zm @zn)))) (And.intro (And.intro (And.intro @pH @IF) (And.intro @IG (And.intro @IH @II))) (And.intro (And.intro @UU @IK) (And.intro @IL (And.intro @UW @zo))))) (And.intro (And.intro (And.intro (And.intro @zp @ui) (And.intro @IM (And.intro @UX @zq))) (And.intro (And.intro @zr @IN) (And.intro @zt (And.intro @UY @UZ)))) (And.intro (And.intro (And.intro @zu @zw) (And.intro @IP (And.intro @IQ @Hs))) (And.intro (And.intro @eI_eq @rK) (And.intro @eB_eq (And.intro @eS_eq @rL))))))))
def ar := (And.intro (And.intro (And.intro @cJ.shown @dv.normL) (And.intro @dY.normL (And.intro @eA.normL @eA.showL))) (And.intro (And.intro @lg.normL (And.intro @lg.showL @CJ)) (And.intro @yQ (And.intro @Hw.norm @Hw.shown))))
def aw := (And.intro (And.intro @dv.treeL (And.intro @dY.treeL @eA.treeL)) (And.intro @lg.treeL (And.intro @px @Hw.tree)))
end Go.V
namespace Go.V
open Go Go.Proofs IntKind
theorem ktA {P : Program} {G : Glob} {d : Option Tmp} {γ : Nat} {tm : Nat → VV} {H : Nat → Option VObj} {nx : Nat} {df : List VDef} {K : St → Prop} {Qp : VV → St → Prop} {f : FuncId} {args args0 : List VV} {x : VV} (hp : ad P G f args0 (.tree x)) (h : fin d γ tm H nx df K x .none) (hn : normL args = args0 := by first | (simp only [nrm, ar] <;> rfl) | rfl) (ht : treeL args = true := by simp only [tre, aw, Bool.and_self]) : callK P G f args ⟨tm, H, nx, df⟩ d γ K Qp := ktree hn ht hp h
theorem dktA {P : Program} {G : Glob} {d : Option Tmp} {γ : Nat} {tm : Nat → VV} {H : Nat → Option VObj} {nx : Nat} {df : List VDef} {K : List Nat → List Nat → St → Prop} {f : FuncId} {args args0 : List VV} {x : VV} (hp : ad P G f args0 (.tree x)) (h : fin d γ tm H nx df (K [] []) x .none) (hn : normL args = args0 := by first | (simp only [nrm, ar] <;> rfl) | rfl) (ht : treeL args = true := by simp only [tre, aw, Bool.and_self]) : dcallK P G f args tm H nx df d γ K := dktree hn ht hp h
theorem optI {α β : Type} {K : Option β → Prop} {X : Option α} {F : α → Option β} (h : K (Option.bind X F)) (kN : ¬ K none) : ∃ r, X = some r ∧ K (F r) := by
  cases X with
  | none => exact absurd h kN
  | some r => exact ⟨r, rfl, h⟩
end Go.V
end
section
namespace Go.V
open Go Go.Proofs IntKind
def Dec (P : Program) (n : Nat) (t : TypeId) {α : Type} (enc : α → List VV) (R : α → Prop) : Prop := ∀ xs, ShapeT P n t xs → ∃ x : α, R x ∧ normL xs = enc x
theorem IS {P : Program} {n : Nat} {t : TypeId} (hu : P.underlying t = some (.int .i64)) : Dec P (n + 1) t eI (fun _ => True) := by
 intro xs h
 simp only [ShapeT, hu] at h
 obtain ⟨i, _, rfl⟩ := h
 exact ⟨i, trivial, by simp only [w6, w7, QR, eI]⟩
theorem IT {P : Program} {n : Nat} {t : TypeId} (hu : P.underlying t = some .bool) : Dec P (n + 1) t eB (fun _ => True) := by
 intro xs h
 simp only [ShapeT, hu] at h
 obtain ⟨b, rfl⟩ := h
 exact ⟨b, trivial, by simp only [w6, w7, IU, eB]⟩
theorem zx {P : Program} {n : Nat} {t : TypeId} {α : Type} {enc : α → List VV} {R : α → Prop} (h : Dec P n t enc R) : ∀ yss : List (List VV), (∀ ys ∈ yss, ShapeT P n t ys) → ∃ l : List α, l.length = yss.length ∧ (∀ x ∈ l, R x) ∧ normL yss.flatten = aa enc l
 | [], _ => ⟨[], rfl, fun _ hx => (by cases hx), rfl⟩
 | ys :: yss, hs => by
  obtain ⟨x, hx, e⟩ := h ys (hs ys (List.mem_cons_self ..))
  obtain ⟨l, h1, h2, h3⟩ := zx h yss (fun y hy => hs y (List.mem_cons_of_mem _ hy))
  refine ⟨x :: l, by simp [h1], fun y hy => ?_, by rw [List.flatten_cons, re, e, h3, fX]⟩
  rcases List.mem_cons.1 hy with rfl | hy
  ·exact hx
  ·exact h2 y hy
theorem CS {P : Program} {n : Nat} {t e : TypeId} {α : Type} {enc : α → List VV} {R : α → Prop} (hu : P.underlying t = some (.slice e)) (h : Dec P n e enc R) : Dec P (n + 1) t (fun l : List α => [.sl (aa enc l) l.length false]) (fun l => lenOk l = true ∧ ∀ x ∈ l, R x) := by
 intro xs hs
 simp only [ShapeT, hu] at hs
 rcases hs with rfl | ⟨yss, hl, hall, rfl⟩
 ·exact ⟨[], ⟨rfl, fun _ hx => (by cases hx)⟩, by simp only [w6, w7, QS]; rfl⟩
 ·obtain ⟨l, h1, h2, h3⟩ := zx h yss hall
  refine ⟨l, ⟨?_, h2⟩, by simp only [w6, w7, zy, h3, h1]⟩
  have : maxLen = 9223372036854775807 := by decide
  unfold lenOk
  exact decide_eq_true (by omega)
theorem IV {P : Program} {n : Nat} {t : TypeId} {fs : Array Field} {xs : List VV} (hu : P.underlying t = some (.struct fs)) (h : ShapeT P (n + 1) t xs) : ∃ yss, FieldsS (ShapeT P n) fs.toList yss ∧ xs = yss.flatten := by
 simp only [ShapeT, hu] at h
 exact h
def TypesS (S : TypeId → List VV → Prop) : List TypeId → List (List VV) → Prop
 | [], [] => True
 | t :: ts, ys :: yss => S t ys ∧ TypesS S ts yss
 | _, _ => False
theorem zz {S : TypeId → List VV → Prop} : ∀ (fs : List Field) (yss : List (List VV)), FieldsS S fs yss → TypesS S (fs.map Field.type) yss
 | [], [], _ => trivial
 | f :: fs, ys :: yss, ⟨h1, h2⟩ => ⟨h1, zz fs yss h2⟩
 | [], _ :: _, h => h
 | _ :: _, [], h => h
theorem w8 {P : Program} {n : Nat} {t : TypeId} {fs : Array Field} {ts : List TypeId} {xs : List VV} (hu : P.underlying t = some (.struct fs)) (ht : fs.toList.map Field.type = ts) (h : ShapeT P (n + 1) t xs) : ∃ yss, TypesS (ShapeT P n) ts yss ∧ xs = yss.flatten := by
 obtain ⟨yss, h1, h2⟩ := IV hu h
 exact ⟨yss, ht ▸ zz _ _ h1, h2⟩
theorem QT {P : Program} {n : Nat} {t : TypeId} {ts : List TypeId} {xs : List VV} (h : ArgsS P n (t :: ts) xs) : ∃ x xs', xs = x :: xs' ∧ ArgS P n t x ∧ ArgsS P n ts xs' := by
 match xs, h with
 | x :: xs', h => exact ⟨x, xs', rfl, h.1, h.2⟩
theorem IW {P : Program} {n : Nat} {xs : List VV} (h : ArgsS P n [] xs) : xs = [] := by
 match xs, h with
 | [], _ => rfl
theorem QU {P : Program} {n : Nat} {t : TypeId} {fs : Array Field} {x : VV} {α : Type} {enc : α → List VV} {R : α → Prop} (hu : P.underlying t = some (.struct fs)) (hd : Dec P n t enc R) (h : ArgS P n t x) : ∃ s, R s ∧ normV x = .agg (enc s) := by
 obtain ⟨ys, h1, h2⟩ := h
 rw [hu] at h2
 obtain rfl : x = .agg ys := h2
 obtain ⟨s, hs, e⟩ := hd ys h1
 exact ⟨s, hs, by rw [QV, e]⟩
end Go.V
end
section
set_option maxRecDepth 100000
namespace Go.V
open Go Go.Proofs IntKind
def IX (x : GLw) : Prop := lenOk x.Signs = true ∧ lenOk x.Cuts = true
def QW (x : GLs) : Prop := lenOk x.Widths = true ∧ lenOk x.Pairs = true ∧ lenOk x.Words = true ∧ ∀ y ∈ x.Words, IX y
def QX (x : GLx) : Prop := lenOk x.Out = true ∧ lenOk x.Ends = true
section
variable {P : Program} (gw : P.underlying 3 = some (.int .i64)) (cY : P.underlying 22 = some (.slice 3)) {QY : Array Field} (cZ : P.underlying 25 = some (.struct QY)) (da : QY.toList.map Field.type = [3, 3]) {z3 : Array Field} (bH : P.underlying 108 = some (.struct z3)) (bI : z3.toList.map Field.type = [3, 3, 25]) (db : P.underlying 23 = some (.slice 108)) (il : P.underlying 4 = some (.bool)) {QZ : Array Field} (dc : P.underlying 79 = some (.struct QZ)) (de : QZ.toList.map Field.type = [22, 22, 4]) (dg : P.underlying 26 = some (.slice 79)) {Ra : Array Field} (dh : P.underlying 28 = some (.struct Ra)) (di : Ra.toList.map Field.type = [22, 23, 25, 25, 3, 26, 3, 3]) {z4 : Array Field} (bJ : P.underlying 100 = some (.struct z4)) (bK : z4.toList.map Field.type = [3, 3]) (dj : P.underlying 29 = some (.slice 100)) {Rb : Array Field} (dk : P.underlying 31 = some (.struct Rb)) (dm : Rb.toList.map Field.type = [22, 29])
include gw cY cZ da bH bI db il dc de dg dh di bJ bK dj dk dm
theorem gd_3 {n : Nat} : Dec P (n + 1) 3 eI (fun _ => True) := IS gw
theorem gd_22 {n : Nat} : Dec P (n + 2) 22 (eSl eI) (fun l => lenOk l = true ∧ ∀ x ∈ l, True) := CS cY (gd_3 gw cY cZ da bH bI db il dc de dg dh di bJ bK dj dk dm (n := n))
theorem gd_25 {n : Nat} : Dec P (n + 2) 25 cGSpan (fun _ => True) := by
 intro xs h
 obtain ⟨yss, hf, rfl⟩ := w8 (n := n + 1) (ts := [3, 3]) cZ da h
 match yss, hf with
 | [y0, y1], ⟨h0, h1, _⟩ =>
  obtain ⟨x0, r0, e0⟩ := gd_3 gw cY cZ da bH bI db il dc de dg dh di bJ bK dj dk dm (n := n + 0) _ h0
  obtain ⟨x1, r1, e1⟩ := gd_3 gw cY cZ da bH bI db il dc de dg dh di bJ bK dj dk dm (n := n + 0) _ h1
  exact ⟨⟨x0, x1⟩, trivial, by simp only [List.flatten_cons, List.flatten_nil, List.append_nil, re, e0, e1, eI, td, eB, eS, eSl, uc, List.cons_append, List.nil_append]⟩
theorem IY {n : Nat} : Dec P (n + 3) 108 cGLp (fun _ => True) := by
 intro xs h
 obtain ⟨yss, hf, rfl⟩ := w8 (n := n + 2) (ts := [3, 3, 25]) bH bI h
 match yss, hf with
 | [y0, y1, y2], ⟨h0, h1, h2, _⟩ =>
  obtain ⟨x0, r0, e0⟩ := gd_3 gw cY cZ da bH bI db il dc de dg dh di bJ bK dj dk dm (n := n + 1) _ h0
  obtain ⟨x1, r1, e1⟩ := gd_3 gw cY cZ da bH bI db il dc de dg dh di bJ bK dj dk dm (n := n + 1) _ h1
  obtain ⟨x2, r2, e2⟩ := gd_25 gw cY cZ da bH bI db il dc de dg dh di bJ bK dj dk dm (n := n + 0) _ h2
  exact ⟨⟨x0, x1, x2⟩, trivial, by simp only [List.flatten_cons, List.flatten_nil, List.append_nil, re, e0, e1, e2, eI, td, eB, eS, eSl, yK, uc, List.cons_append, List.nil_append]⟩
theorem gd_23 {n : Nat} : Dec P (n + 4) 23 (eSl cGLp) (fun l => lenOk l = true ∧ ∀ x ∈ l, True) := CS db (IY gw cY cZ da bH bI db il dc de dg dh di bJ bK dj dk dm (n := n))
theorem gd_4 {n : Nat} : Dec P (n + 1) 4 eB (fun _ => True) := IT il
theorem gd_79 {n : Nat} : Dec P (n + 3) 79 cGLw (IX) := by
 intro xs h
 obtain ⟨yss, hf, rfl⟩ := w8 (n := n + 2) (ts := [22, 22, 4]) dc de h
 match yss, hf with
 | [y0, y1, y2], ⟨h0, h1, h2, _⟩ =>
  obtain ⟨x0, r0, e0⟩ := gd_22 gw cY cZ da bH bI db il dc de dg dh di bJ bK dj dk dm (n := n + 0) _ h0
  obtain ⟨x1, r1, e1⟩ := gd_22 gw cY cZ da bH bI db il dc de dg dh di bJ bK dj dk dm (n := n + 0) _ h1
  obtain ⟨x2, r2, e2⟩ := gd_4 gw cY cZ da bH bI db il dc de dg dh di bJ bK dj dk dm (n := n + 1) _ h2
  exact ⟨⟨x0, x1, x2⟩, ⟨r0.1, r1.1⟩, by simp only [List.flatten_cons, List.flatten_nil, List.append_nil, re, e0, e1, e2, eI, td, eB, eS, eSl, yL, List.cons_append, List.nil_append]⟩
theorem gd_26 {n : Nat} : Dec P (n + 4) 26 (eSl cGLw) (fun l => lenOk l = true ∧ ∀ x ∈ l, IX x) := CS dg (gd_79 gw cY cZ da bH bI db il dc de dg dh di bJ bK dj dk dm (n := n))
theorem gd_28 {n : Nat} : Dec P (n + 5) 28 cGLs (QW) := by
 intro xs h
 obtain ⟨yss, hf, rfl⟩ := w8 (n := n + 4) (ts := [22, 23, 25, 25, 3, 26, 3, 3]) dh di h
 match yss, hf with
 | [y0, y1, y2, y3, y4, y5, y6, y7], ⟨h0, h1, h2, h3, h4, h5, h6, h7, _⟩ =>
  obtain ⟨x0, r0, e0⟩ := gd_22 gw cY cZ da bH bI db il dc de dg dh di bJ bK dj dk dm (n := n + 2) _ h0
  obtain ⟨x1, r1, e1⟩ := gd_23 gw cY cZ da bH bI db il dc de dg dh di bJ bK dj dk dm (n := n + 0) _ h1
  obtain ⟨x2, r2, e2⟩ := gd_25 gw cY cZ da bH bI db il dc de dg dh di bJ bK dj dk dm (n := n + 2) _ h2
  obtain ⟨x3, r3, e3⟩ := gd_25 gw cY cZ da bH bI db il dc de dg dh di bJ bK dj dk dm (n := n + 2) _ h3
  obtain ⟨x4, r4, e4⟩ := gd_3 gw cY cZ da bH bI db il dc de dg dh di bJ bK dj dk dm (n := n + 3) _ h4
  obtain ⟨x5, r5, e5⟩ := gd_26 gw cY cZ da bH bI db il dc de dg dh di bJ bK dj dk dm (n := n + 0) _ h5
  obtain ⟨x6, r6, e6⟩ := gd_3 gw cY cZ da bH bI db il dc de dg dh di bJ bK dj dk dm (n := n + 3) _ h6
  obtain ⟨x7, r7, e7⟩ := gd_3 gw cY cZ da bH bI db il dc de dg dh di bJ bK dj dk dm (n := n + 3) _ h7
  exact ⟨⟨x0, x1, x2, x3, x4, x5, x6, x7⟩, ⟨r0.1, r1.1, r5.1, r5.2⟩, by simp only [List.flatten_cons, List.flatten_nil, List.append_nil, re, e0, e1, e2, e3, e4, e5, e6, e7, eI, td, eB, eS, eSl, yM, uc, List.cons_append, List.nil_append]⟩
theorem IZ {n : Nat} : Dec P (n + 2) 100 cGLe (fun _ => True) := by
 intro xs h
 obtain ⟨yss, hf, rfl⟩ := w8 (n := n + 1) (ts := [3, 3]) bJ bK h
 match yss, hf with
 | [y0, y1], ⟨h0, h1, _⟩ =>
  obtain ⟨x0, r0, e0⟩ := gd_3 gw cY cZ da bH bI db il dc de dg dh di bJ bK dj dk dm (n := n + 0) _ h0
  obtain ⟨x1, r1, e1⟩ := gd_3 gw cY cZ da bH bI db il dc de dg dh di bJ bK dj dk dm (n := n + 0) _ h1
  exact ⟨⟨x0, x1⟩, trivial, by simp only [List.flatten_cons, List.flatten_nil, List.append_nil, re, e0, e1, eI, td, eB, eS, eSl, w5, List.cons_append, List.nil_append]⟩
theorem gd_29 {n : Nat} : Dec P (n + 3) 29 (eSl cGLe) (fun l => lenOk l = true ∧ ∀ x ∈ l, True) := CS dj (IZ gw cY cZ da bH bI db il dc de dg dh di bJ bK dj dk dm (n := n))
theorem gd_31 {n : Nat} : Dec P (n + 4) 31 cGLx (QX) := by
 intro xs h
 obtain ⟨yss, hf, rfl⟩ := w8 (n := n + 3) (ts := [22, 29]) dk dm h
 match yss, hf with
 | [y0, y1], ⟨h0, h1, _⟩ =>
  obtain ⟨x0, r0, e0⟩ := gd_22 gw cY cZ da bH bI db il dc de dg dh di bJ bK dj dk dm (n := n + 1) _ h0
  obtain ⟨x1, r1, e1⟩ := gd_29 gw cY cZ da bH bI db il dc de dg dh di bJ bK dj dk dm (n := n + 0) _ h1
  exact ⟨⟨x0, x1⟩, ⟨r0.1, r1.1⟩, by simp only [List.flatten_cons, List.flatten_nil, List.append_nil, re, e0, e1, eI, td, eB, eS, eSl, yN, List.cons_append, List.nil_append]⟩
end
theorem Ja {n : Nat} : Dec Tryz.prog (n + 5) 28 cGLs (QW) := gd_28 Tryz.underlying3 Tryz.underlying22 Tryz.underlying25 (by kernel_rfl) Tryz.underlying108 (by kernel_rfl) Tryz.underlying23 Tryz.underlying4 Tryz.underlying79 (by kernel_rfl) Tryz.underlying26 Tryz.underlying28 (by kernel_rfl) Tryz.underlying100 (by kernel_rfl) Tryz.underlying29 Tryz.underlying31 (by kernel_rfl)
theorem Jb {n : Nat} : Dec Tryz.prog (n + 4) 31 cGLx (QX) := gd_31 Tryz.underlying3 Tryz.underlying22 Tryz.underlying25 (by kernel_rfl) Tryz.underlying108 (by kernel_rfl) Tryz.underlying23 Tryz.underlying4 Tryz.underlying79 (by kernel_rfl) Tryz.underlying26 Tryz.underlying28 (by kernel_rfl) Tryz.underlying100 (by kernel_rfl) Tryz.underlying29 Tryz.underlying31 (by kernel_rfl)
end Go.V
end
section
namespace Go.V
open Go Go.Proofs IntKind
def goB (b : Bool) : Option (LOut Bool Unit) := cond b (some (.go ())) (some (.ret false))
theorem lN (a b : Bool) : goB (a && b) = cond a (goB b) (some (.ret false)) := by cases a <;> rfl
theorem cnot {α : Type} (a : Bool) (x y : α) : cond (!a) x y = cond a y x := by cases a <;> rfl
theorem cand {α : Type} (a b : Bool) (x y : α) : cond (a && b) x y = cond a (cond b x y) y := by cases a <;> rfl
theorem csome (a b : Bool) : cond a (some b) (some false) = some (a && b) := by cases a <;> rfl
theorem te {X : Type} (b : Bool) (kr : Bool → Option X) (kg : Unit → Option X) (kb : Nat → Unit → Option X) : lbind (goB b) kr kg kb = cond b (kg ()) (kr false) := by cases b <;> rfl
def inB (a b n : Int) : Bool := decide (a ≤ n) && decide (n ≤ b)
theorem rM {a b n : Int} : inB a b n = true ↔ a ≤ n ∧ n ≤ b := by simp [inB]
theorem kf {n : Int} (h1 : -9223372036854775808 ≤ n) (h2 : n < 9223372036854775808) : i64.wrap n = n := IntWalk.i64_in _ (by omega)
theorem uj {α : Type} {xs : List α} (h : lenOk xs = true) : xs.length < 9223372036854775808 := by simpa [lenOk] using h
theorem oJ {α : Type} {xs : List α} (h : xs.length < 9223372036854775808) : lenOk xs = true := by simpa [lenOk] using h
theorem Rc {α : Type} {xs : List α} {i : Int} (h0 : 0 ≤ i) (h1 : i < xs.length) : ∃ x, getI xs i = some x ∧ x ∈ xs := by
 unfold getI
 rw [if_pos h0]
 have h : i.toNat < xs.length := by omega
 exact ⟨xs[i.toNat], List.getElem?_eq_getElem h, List.getElem_mem h⟩
theorem Jc {α : Type} {xs : List α} {i : Int} {x : α} (h : getI xs i = some x) : x ∈ xs := by
 unfold getI at h
 split at h
 ·exact List.mem_of_getElem? h
 ·cases h
theorem yq {α : Type} {xs : List α} {i : Int} {x : α} (h : getI xs i = some x) : 0 ≤ i ∧ i < xs.length := ⟨(z5 h).1, (z5 h).2.1⟩
theorem Jd {α : Type} {xs : List α} (h : 1 ≤ xs.length) (h2 : xs.length < 9223372036854775808) : getI xs (i64.wrap ((xs.length : Int) - 1)) = xs.getLast? := by
 rw [kf (by omega) (by omega)]
 unfold getI
 rw [if_pos (by omega), List.getLast?_eq_getElem?]
 congr 1
 omega
theorem mulR {a b A B : Int} (h1 : 0 ≤ a) (h2 : a ≤ A) (h3 : 0 ≤ b) (h4 : b ≤ B) : 0 ≤ a * b ∧ a * b ≤ A * B :=
 ⟨Int.mul_nonneg h1 h3, Int.mul_le_mul h2 h4 h3 (Int.le_trans h1 h2)⟩
def nL (aN : Int) (ep : Int) (ba : Int) : Option (Bool) := cond (decide (aN ≤ ep)) (some (decide (ep ≤ ba))) (some false)
theorem rN (aN : Int) (ep : Int) (ba : Int) (R : Bool) (h : nL aN ep ba = some R) : ad Tryz.prog G0 112 [.lit (.int .i64 aN), .lit (.int .i64 ep), .lit (.int .i64 ba)] (.tree (.lit (.bool R))) := by
 refine ad.runR mixed Tryz.call112 Tryz.func112 rfl (by simp [Tryz.ntmps112]; kernel_rfl) ?_
 obtain ⟨KF, h, kF, kN⟩ := dZ h
 simp only [nL] at h
 cases d1 : (decide (aN ≤ ep))
 ·simp only [d1, hs] at h
  try simp only [vz, tyf, d1, nm, seval]
  obtain rfl := kF _ h
  exact bc Tryz.results112 rfl
 simp only [d1, hs] at h
 try simp only [vz, tyf, d1, nm, seval]
 obtain rfl := kF _ h
 exact bc Tryz.results112 rfl
def w9 (aN : Int) (ba : Int) : List Int → Int → Option (LOut (Bool) (Unit))
 | [], im => some (.go ())
 | e0 :: p0, im => Option.bind (nL aN e0 ba) (fun r1 => cond (r1) (w9 aN ba p0 (im + 1)) (some (.ret false)))
def uk (aN : Int) (ah : List Int) (ba : Int) : Option (Bool) := cond (lenOk ah) (lbind (w9 aN ba ah 0) (fun r3 => some r3) (fun c2 => some true) (fun _ _ => none)) none
theorem Je (aN : Int) (ah : List Int) (ba : Int) (R : Bool) (h : uk aN ah ba = some R) : ad Tryz.prog G0 147 [.lit (.int .i64 aN), .sl (aa eI ah) (List.length ah) false, .lit (.int .i64 ba)] (.tree (.lit (.bool R))) := by
 refine ad.runR mixed Tryz.call147 Tryz.func147 rfl (by simp [Tryz.ntmps147]; kernel_rfl) ?_
 obtain ⟨KF, h, kF, kN⟩ := dZ h
 simp only [uk] at h
 cases g5 : (lenOk ah)
 ·simp only [g5, hs] at h
  exact absurd h kN
 simp only [g5, hs] at h
 simp only [vz, tyf, g5, nm, seval]
 obtain ⟨K4, h, Rd, Jf, Va, CT⟩ := gu h kN
 obtain ⟨f4, Jg, h⟩ := call2 h
 obtain ⟨I4, um⟩ : ∃ I : Nat → St → Prop, I = (fun m st => ∃ (p4 : List Int) (gA : Int), m = List.length p4 ∧ 0 ≤ gA ∧ List.drop (Int.toNat gA) ah = p4 ∧ st.df = [] ∧ 4 ≤ st.nx ∧ st.tm 0 = .lit (.int .i64 aN) ∧ st.tm 2 = .lit (.int .i64 ba) ∧ st.tm 9 = .sl (aa eI ah) (List.length ah) false ∧ st.tm 10 = .lit (.int .i64 (List.length ah : Int)) ∧ st.tm 11 = .lit (.int .i64 gA) ∧ K4 (f4 p4 gA)) := ⟨_, rfl⟩
 refine loopK mixed (by kernel_rfl) I4 (List.length ah) (by rw [um]; refine ⟨ah, 0, rfl, Int.le_refl _, rfl, rfl, (show 4 ≤ 4 by omega), ?_, ?_, ?_, ?_, ?_, h⟩ <;> first | (simp only [ua, nm, seval] <;> rfl) | rfl) ?_
 rintro m ⟨tm, H, z6, df⟩ hinv
 rw [um] at hinv
 obtain ⟨p4, gA, rfl, wA, z7, hdf, Jh, e6, e7, e8, e9, bh, h⟩ := hinv
 simp only at hdf Jh e6 e7 e8 e9 bh
 have lO := gv (m := 4) (b := z6) (by omega)
 subst hdf Jg
 cases p4 with
 | nil =>
  have dt : (decide (gA < (List.length ah : Int))) = false := fj wA z7
  simp only [w9, hs, reduceCtorEq] at h
  replace h := Jf _ h
  try dsimp only at h
  try simp only [hs] at h
  try simp only [vz, tyf, g5, lO, e6, e7, e8, e9, bh, dt, nm, seval]
  obtain rfl := kF _ h
  exact bc Tryz.results147 rfl
 | cons e4 p4 =>
  have bx : (decide (gA < (List.length ah : Int))) = true := fk wA z7
  have mQ := eg wA z7
  have mR := fm wA z7 g5
  simp only [w9, hs, reduceCtorEq] at h
  obtain ⟨tf, z8, h⟩ := optI h CT
  try simp only [hs] at h
  simp only [vz, tyf, g5, lO, e6, e7, e8, e9, bh, bx, (aD mQ), mR, nm, seval]
  refine ktA (rN _ _ _ _ z8) ?_
  refine bt (fun tm => tm 0 = .lit (.int .i64 aN) ∧ tm 2 = .lit (.int .i64 ba) ∧ tm 9 = .sl (aa eI ah) (List.length ah) false ∧ tm 10 = .lit (.int .i64 (List.length ah : Int)) ∧ tm 11 = .lit (.int .i64 gA) ∧ tm 18 = .lit (.bool tf) ∧ True) (by refine ⟨e6, e7, e8, e9, bh, ?_, trivial⟩ <;> first | (simp only [ua, lO, e6, e7, e8, e9, bh, bx, mR, nm, seval] <;> rfl) | rfl) ?_
  rintro tm ⟨cl, dM, gP, dL, bX, dz, _⟩
  cases lP : (tf)
  ·simp only [lP, hs] at h
   try simp only [vz, tyf, g5, lO, bx, (aD mQ), mR, cl, dM, gP, dL, bX, dz, lP, nm, seval]
   replace h := Rd _ h
   try dsimp only at h
   obtain rfl := kF _ h
   exact bc Tryz.results147 rfl
  simp only [lP, hs] at h
  simp only [vz, tyf, g5, lO, bx, (aD mQ), mR, cl, dM, gP, dL, bX, dz, lP, nm, seval]
  exact ⟨List.length p4, Nat.lt_succ_self _, by rw [um]; refine ⟨p4, gA + 1, rfl, Int.le_trans wA (Int.le_add_one (Int.le_refl _)), bS wA z7, rfl, (show 4 ≤ z6 + 11 by omega), cl, dM, gP, dL, ?_, (by first | exact h | (simp only [bx, lP]; exact h))⟩ <;> first | (simp only [ua, lO, bx, mR, cl, dM, gP, dL, bX, dz, lP, nm, seval] <;> rfl) | rfl⟩
def z9 (ct : List Int) : Option (Bool) := Option.bind (nL 1 (List.length ct : Int) 6) (fun r1 => cond (r1) (Option.bind (uk 1 ct 20) (fun r2 => some r2)) (some false))
theorem Vb (ct : List Int) (R : Bool) (h : z9 ct = some R) : ad Tryz.prog G0 109 [.sl (aa eI ct) (List.length ct) false] (.tree (.lit (.bool R))) := by
 refine ad.runR mixed Tryz.call109 Tryz.func109 rfl (by simp [Tryz.ntmps109]; kernel_rfl) ?_
 obtain ⟨KF, h, kF, kN⟩ := dZ h
 simp only [z9] at h
 obtain ⟨r3, o4, h⟩ := optI h kN
 try simp only [hs] at h
 simp only [vz, tyf, nm, seval]
 refine ktA (rN _ _ _ _ o4) ?_
 refine bt (fun tm => tm 0 = .sl (aa eI ct) (List.length ct) false ∧ tm 5 = .lit (.bool r3) ∧ True) (by refine ⟨?_, ?_, trivial⟩ <;> first | (simp only [ua, nm, seval] <;> rfl) | rfl) ?_
 rintro tm ⟨e5, e6, _⟩
 cases d7 : (r3)
 ·simp only [d7, hs] at h
  try simp only [vz, tyf, e5, e6, d7, nm, seval]
  obtain rfl := kF _ h
  exact bc Tryz.results109 rfl
 simp only [d7, hs] at h
 obtain ⟨r8, o9, h⟩ := optI h kN
 try simp only [hs] at h
 simp only [vz, tyf, e5, e6, d7, nm, seval]
 refine ktA (Je _ _ _ _ o9) ?_
 refine bt (fun tm => tm 6 = .lit (.bool true) ∧ tm 8 = .lit (.bool r8) ∧ True) (by refine ⟨?_, ?_, trivial⟩ <;> first | (simp only [ua, e5, e6, d7, nm, seval] <;> rfl) | rfl) ?_
 rintro tm ⟨bh, bj, _⟩
 try simp only [vz, tyf, d7, bh, bj, nm, seval]
 obtain rfl := kF _ h
 exact bc Tryz.results109 rfl
def uo (aN : Int) (bU : GSpan) (ba : Int) : Option (Bool) := cond (decide (aN ≤ bU.Low)) (cond (decide (bU.Low ≤ bU.High)) (some (decide (bU.High ≤ ba))) (some false)) (some false)
theorem Ji (aN : Int) (bU : GSpan) (ba : Int) (R : Bool) (h : uo aN bU ba = some R) : ad Tryz.prog G0 111 [.lit (.int .i64 aN), .agg (cGSpan bU), .lit (.int .i64 ba)] (.tree (.lit (.bool R))) := by
 refine ad.runR mixed Tryz.call111 Tryz.func111 rfl (by simp [Tryz.ntmps111]; kernel_rfl) ?_
 obtain ⟨KF, h, kF, kN⟩ := dZ h
 simp only [uo] at h
 cases d1 : (decide (aN ≤ bU.Low))
 ·simp only [d1, hs] at h
  try simp only [vz, tyf, d1, nm, seval]
  obtain rfl := kF _ h
  exact bc Tryz.results111 rfl
 simp only [d1, hs] at h
 cases d2 : (decide (bU.Low ≤ bU.High))
 ·simp only [d2, hs] at h
  try simp only [vz, tyf, d1, d2, nm, seval]
  obtain rfl := kF _ h
  exact bc Tryz.results111 rfl
 simp only [d2, hs] at h
 try simp only [vz, tyf, d1, d2, nm, seval]
 obtain rfl := kF _ h
 exact bc Tryz.results111 rfl
def zA (dN : Int) : Option (Bool) := some (dN != dN)
theorem Re (dN : Int) (R : Bool) (h : zA dN = some R) : ad Tryz.prog G0 154 [.lit (.int .i64 dN)] (.tree (.lit (.bool R))) := by
 refine ad.runR mixed Tryz.call154 Tryz.func154 rfl (by simp [Tryz.ntmps154]; kernel_rfl) ?_
 obtain ⟨KF, h, kF, kN⟩ := dZ h
 simp only [zA] at h
 try simp only [vz, tyf, nm, seval]
 obtain rfl := kF _ h
 exact bc Tryz.results154 rfl
end Go.V
end
