/- Part of a proof. -/
import Derived.Test.YtlkognggeadanaaGreatDoorGbg
import Derived.Test.YtlkognggeadanaaGreatDoorGay
import Derived.Test.YtlkognggeadanaaGreatDoorProg
set_option linter.all false
set_option maxRecDepth 4000
set_option maxHeartbeats 40000000
section
namespace Go.V
open Go Go.Proofs IntKind
theorem mixed : Tryz.prog.follows .mixedOrders = true := by kernel_rfl
structure GSpan where
 Low : Int
 High : Int
 deriving Inhabited, DecidableEq
def cGSpan (x : GSpan) : List VV := [.lit (.int .i64 x.Low), .lit (.int .i64 x.High)]
theorem uP {x : GSpan} : cGSpan x = [.lit (.int .i64 x.Low), .lit (.int .i64 x.High)] := rfl
theorem cN : EncOk cGSpan := EncOk.of (fun x => by simp only [uP, tre, Bool.and_self]) (fun x => by simp only [uP, nrm]) (fun x H d => by simp only [uP, nrm, List.map_cons, List.map_nil])
structure GLp where
 Left : Int
 Right : Int
 Space : GSpan
 deriving Inhabited, DecidableEq
def cGLp (x : GLp) : List VV := [.lit (.int .i64 x.Left), .lit (.int .i64 x.Right), .lit (.int .i64 x.Space.Low), .lit (.int .i64 x.Space.High)]
theorem Af {x : GLp} : cGLp x = [.lit (.int .i64 x.Left), .lit (.int .i64 x.Right), .lit (.int .i64 x.Space.Low), .lit (.int .i64 x.Space.High)] := rfl
theorem dw : EncOk cGLp := EncOk.of (fun x => by simp only [Af, tre, cN.tree, cN.treeL, Bool.and_self]) (fun x => by simp only [Af, nrm, cN.norm, cN.normL, cN.shown, cN.showL]) (fun x H d => by simp only [Af, nrm, List.map_cons, List.map_nil])
structure GLw where
 Signs : List Int
 Cuts : List Int
 Free : Bool
 deriving Inhabited, DecidableEq
def cGLw (x : GLw) : List VV := [.sl (aa eI x.Signs) (List.length x.Signs) false, .sl (aa eI x.Cuts) (List.length x.Cuts) false, .lit (.bool x.Free)]
theorem Ag {x : GLw} : cGLw x = [.sl (aa eI x.Signs) (List.length x.Signs) false, .sl (aa eI x.Cuts) (List.length x.Cuts) false, .lit (.bool x.Free)] := rfl
theorem dY : EncOk cGLw := EncOk.of (fun x => by simp only [Ag, tre, cN.tree, cN.treeL, dw.tree, dw.treeL, Bool.and_self]) (fun x => by simp only [Ag, nrm, cN.norm, cN.normL, cN.shown, cN.showL, dw.norm, dw.normL, dw.shown, dw.showL]) (fun x H d => by simp only [Ag, nrm, List.map_cons, List.map_nil])
structure GLs where
 Widths : List Int
 Pairs : List GLp
 Other : GSpan
 Gap : GSpan
 Hyphen : Int
 Words : List GLw
 Wide : Int
 Rows : Int
 deriving Inhabited, DecidableEq
def cGLs (x : GLs) : List VV := [.sl (aa eI x.Widths) (List.length x.Widths) false, .sl (aa cGLp x.Pairs) (List.length x.Pairs) false, .lit (.int .i64 x.Other.Low), .lit (.int .i64 x.Other.High), .lit (.int .i64 x.Gap.Low), .lit (.int .i64 x.Gap.High), .lit (.int .i64 x.Hyphen), .sl (aa cGLw x.Words) (List.length x.Words) false, .lit (.int .i64 x.Wide), .lit (.int .i64 x.Rows)]
theorem Ah {x : GLs} : cGLs x = [.sl (aa eI x.Widths) (List.length x.Widths) false, .sl (aa cGLp x.Pairs) (List.length x.Pairs) false, .lit (.int .i64 x.Other.Low), .lit (.int .i64 x.Other.High), .lit (.int .i64 x.Gap.Low), .lit (.int .i64 x.Gap.High), .lit (.int .i64 x.Hyphen), .sl (aa cGLw x.Words) (List.length x.Words) false, .lit (.int .i64 x.Wide), .lit (.int .i64 x.Rows)] := rfl
theorem eE : EncOk cGLs := EncOk.of (fun x => by simp only [Ah, tre, cN.tree, cN.treeL, dw.tree, dw.treeL, dY.tree, dY.treeL, Bool.and_self]) (fun x => by simp only [Ah, nrm, cN.norm, cN.normL, cN.shown, cN.showL, dw.norm, dw.normL, dw.shown, dw.showL, dY.norm, dY.normL, dY.shown, dY.showL]) (fun x H d => by simp only [Ah, nrm, List.map_cons, List.map_nil])
structure GLe where
 Word : Int
 Letters : Int
 deriving Inhabited, DecidableEq
def cGLe (x : GLe) : List VV := [.lit (.int .i64 x.Word), .lit (.int .i64 x.Letters)]
theorem wL {x : GLe} : cGLe x = [.lit (.int .i64 x.Word), .lit (.int .i64 x.Letters)] := rfl
theorem eD : EncOk cGLe := EncOk.of (fun x => by simp only [wL, tre, cN.tree, cN.treeL, dw.tree, dw.treeL, dY.tree, dY.treeL, eE.tree, eE.treeL, Bool.and_self]) (fun x => by simp only [wL, nrm, cN.norm, cN.normL, cN.shown, cN.showL, dw.norm, dw.normL, dw.shown, dw.showL, dY.norm, dY.normL, dY.shown, dY.showL, eE.norm, eE.normL, eE.shown, eE.showL]) (fun x H d => by simp only [wL, nrm, List.map_cons, List.map_nil])
structure GLx where
 Out : List Int
 Ends : List GLe
 deriving Inhabited, DecidableEq
def cGLx (x : GLx) : List VV := [.sl (aa eI x.Out) (List.length x.Out) false, .sl (aa cGLe x.Ends) (List.length x.Ends) false]
theorem Ai {x : GLx} : cGLx x = [.sl (aa eI x.Out) (List.length x.Out) false, .sl (aa cGLe x.Ends) (List.length x.Ends) false] := rfl
theorem iq : EncOk cGLx := EncOk.of (fun x => by simp only [Ai, tre, cN.tree, cN.treeL, dw.tree, dw.treeL, dY.tree, dY.treeL, eE.tree, eE.treeL, eD.tree, eD.treeL, Bool.and_self]) (fun x => by simp only [Ai, nrm, cN.norm, cN.normL, cN.shown, cN.showL, dw.norm, dw.normL, dw.shown, dw.showL, dY.norm, dY.normL, dY.shown, dY.showL, eE.norm, eE.normL, eE.shown, eE.showL, eD.norm, eD.normL, eD.shown, eD.showL]) (fun x H d => by simp only [Ai, nrm, List.map_cons, List.map_nil])
structure Grl where
 Word : Int
 Sign : Int
 deriving Inhabited, DecidableEq
def cGrl (x : Grl) : List VV := [.lit (.int .i64 x.Word), .lit (.int .i64 x.Sign)]
theorem Dc {x : Grl} : cGrl x = [.lit (.int .i64 x.Word), .lit (.int .i64 x.Sign)] := rfl
theorem jG : EncOk cGrl := EncOk.of (fun x => by simp only [Dc, tre, cN.tree, cN.treeL, dw.tree, dw.treeL, dY.tree, dY.treeL, eE.tree, eE.treeL, eD.tree, eD.treeL, iq.tree, iq.treeL, Bool.and_self]) (fun x => by simp only [Dc, nrm, cN.norm, cN.normL, cN.shown, cN.showL, dw.norm, dw.normL, dw.shown, dw.showL, dY.norm, dY.normL, dY.shown, dY.showL, eE.norm, eE.normL, eE.shown, eE.showL, eD.norm, eD.normL, eD.shown, eD.showL, iq.norm, iq.normL, iq.shown, iq.showL]) (fun x H d => by simp only [Dc, nrm, List.map_cons, List.map_nil])
structure Glm where
 word : Int
 sign : Int
 row : Int
 hyphen : Bool
 deriving Inhabited, DecidableEq
def cGlm (x : Glm) : List VV := [.lit (.int .i64 x.word), .lit (.int .i64 x.sign), .lit (.int .i64 x.row), .lit (.bool x.hyphen)]
theorem Aj {x : Glm} : cGlm x = [.lit (.int .i64 x.word), .lit (.int .i64 x.sign), .lit (.int .i64 x.row), .lit (.bool x.hyphen)] := rfl
theorem kZ : EncOk cGlm := EncOk.of (fun x => by simp only [Aj, tre, cN.tree, cN.treeL, dw.tree, dw.treeL, dY.tree, dY.treeL, eE.tree, eE.treeL, eD.tree, eD.treeL, iq.tree, iq.treeL, jG.tree, jG.treeL, Bool.and_self]) (fun x => by simp only [Aj, nrm, cN.norm, cN.normL, cN.shown, cN.showL, dw.norm, dw.normL, dw.shown, dw.showL, dY.norm, dY.normL, dY.shown, dY.showL, eE.norm, eE.normL, eE.shown, eE.showL, eD.norm, eD.normL, eD.shown, eD.showL, iq.norm, iq.normL, iq.shown, iq.showL, jG.norm, jG.normL, jG.shown, jG.showL]) (fun x H d => by simp only [Aj, nrm, List.map_cons, List.map_nil])
structure Glp where
 left : Int
 right : Int
 deriving Inhabited, DecidableEq
def cGlp (x : Glp) : List VV := [.lit (.int .i64 x.left), .lit (.int .i64 x.right)]
theorem Dd {x : Glp} : cGlp x = [.lit (.int .i64 x.left), .lit (.int .i64 x.right)] := rfl
theorem sK : EncOk cGlp := EncOk.of (fun x => by simp only [Dd, tre, cN.tree, cN.treeL, dw.tree, dw.treeL, dY.tree, dY.treeL, eE.tree, eE.treeL, eD.tree, eD.treeL, iq.tree, iq.treeL, jG.tree, jG.treeL, kZ.tree, kZ.treeL, Bool.and_self]) (fun x => by simp only [Dd, nrm, cN.norm, cN.normL, cN.shown, cN.showL, dw.norm, dw.normL, dw.shown, dw.showL, dY.norm, dY.normL, dY.shown, dY.showL, eE.norm, eE.normL, eE.shown, eE.showL, eD.norm, eD.normL, eD.shown, eD.showL, iq.norm, iq.normL, iq.shown, iq.showL, jG.norm, jG.normL, jG.shown, jG.showL, kZ.norm, kZ.normL, kZ.shown, kZ.showL]) (fun x H d => by simp only [Dd, nrm, List.map_cons, List.map_nil])
def cO (k : Glp) : Value := .agg ⟨[.int .i64 k.left, .int .i64 k.right]⟩
def ff (n : GSpan) : VV := .agg (cGSpan n)
theorem pF {l : List (Glp × GSpan)} : (VV.mt (mtK cO l) (mtV ff l)).tree = true := mt_tr fun v => by simp only [ff, tre, cN.tree, cN.treeL, dw.tree, dw.treeL, dY.tree, dY.treeL, eE.tree, eE.treeL, eD.tree, eD.treeL, iq.tree, iq.treeL, jG.tree, jG.treeL, kZ.tree, kZ.treeL, sK.tree, sK.treeL, Bool.and_self]
structure Gld where
 ls : GLs
 lx : GLx
 stretch : Int
 spaces : List (Glp × GSpan)
 marks : List Glm
 deriving Inhabited, DecidableEq
def cGld (x : Gld) : List VV := [.sl (aa eI x.ls.Widths) (List.length x.ls.Widths) false, .sl (aa cGLp x.ls.Pairs) (List.length x.ls.Pairs) false, .lit (.int .i64 x.ls.Other.Low), .lit (.int .i64 x.ls.Other.High), .lit (.int .i64 x.ls.Gap.Low), .lit (.int .i64 x.ls.Gap.High), .lit (.int .i64 x.ls.Hyphen), .sl (aa cGLw x.ls.Words) (List.length x.ls.Words) false, .lit (.int .i64 x.ls.Wide), .lit (.int .i64 x.ls.Rows), .sl (aa eI x.lx.Out) (List.length x.lx.Out) false, .sl (aa cGLe x.lx.Ends) (List.length x.lx.Ends) false, .lit (.int .i64 x.stretch), .mt (mtK cO x.spaces) (mtV ff x.spaces), .sl (aa cGlm x.marks) (List.length x.marks) false]
theorem zC {x : Gld} : cGld x = [.sl (aa eI x.ls.Widths) (List.length x.ls.Widths) false, .sl (aa cGLp x.ls.Pairs) (List.length x.ls.Pairs) false, .lit (.int .i64 x.ls.Other.Low), .lit (.int .i64 x.ls.Other.High), .lit (.int .i64 x.ls.Gap.Low), .lit (.int .i64 x.ls.Gap.High), .lit (.int .i64 x.ls.Hyphen), .sl (aa cGLw x.ls.Words) (List.length x.ls.Words) false, .lit (.int .i64 x.ls.Wide), .lit (.int .i64 x.ls.Rows), .sl (aa eI x.lx.Out) (List.length x.lx.Out) false, .sl (aa cGLe x.lx.Ends) (List.length x.lx.Ends) false, .lit (.int .i64 x.stretch), .mt (mtK cO x.spaces) (mtV ff x.spaces), .sl (aa cGlm x.marks) (List.length x.marks) false] := rfl
theorem IU : EncOk cGld := EncOk.of (fun x => by simp only [zC, tre, cN.tree, cN.treeL, dw.tree, dw.treeL, dY.tree, dY.treeL, eE.tree, eE.treeL, eD.tree, eD.treeL, iq.tree, iq.treeL, jG.tree, jG.treeL, kZ.tree, kZ.treeL, sK.tree, sK.treeL, pF, Bool.and_self]) (fun x => by simp only [zC, nrm, cN.norm, cN.normL, cN.shown, cN.showL, dw.norm, dw.normL, dw.shown, dw.showL, dY.norm, dY.normL, dY.shown, dY.showL, eE.norm, eE.normL, eE.shown, eE.showL, eD.norm, eD.normL, eD.shown, eD.showL, iq.norm, iq.normL, iq.shown, iq.showL, jG.norm, jG.normL, jG.shown, jG.showL, kZ.norm, kZ.normL, kZ.shown, kZ.showL, sK.norm, sK.normL, sK.shown, sK.showL, Cw, yq]) (fun x H d => by simp only [zC, nrm, List.map_cons, List.map_nil, yq])
theorem Vp {c : VV} {cs : List VV} : aV Tryz.prog 3 (c :: cs) = some c := by
 have h1 : aggT Tryz.prog 3 = some false := by kernel_rfl
 simp [aV, vpart, h1]
theorem Vq : szT Tryz.prog 3 = some 1 := by kernel_rfl
theorem IV : vzl Tryz.prog 3 = some [.lit (.int .i64 0)] := by kernel_rfl
theorem Vr {c : VV} {cs : List VV} : aV Tryz.prog 4 (c :: cs) = some c := by
 have h1 : aggT Tryz.prog 4 = some false := by kernel_rfl
 simp [aV, vpart, h1]
theorem Vs : szT Tryz.prog 4 = some 1 := by kernel_rfl
theorem IW : vzl Tryz.prog 4 = some [.lit (.bool false)] := by kernel_rfl
theorem IX {c : VV} {cs : List VV} : aV Tryz.prog 22 (c :: cs) = some c := by
 have h1 : aggT Tryz.prog 22 = some false := by kernel_rfl
 simp [aV, vpart, h1]
theorem Ak {H : Nat → Option VObj} {cs : List VV} {n : Nat} {f : Bool} : vlen Tryz.prog H 22 (.sl cs n f) = some (.lit (.int .i64 n)) := by simp [vlen, Tryz.underlying22, sls]
theorem lenN22 {H : Nat → Option VObj} : vlen Tryz.prog H 22 (.lit (.slice none 0 0)) = some (.lit (.int .i64 0)) := by simp [vlen, Tryz.underlying22, sls]
theorem lenR22 {H : Nat → Option VObj} {β off n w c : Nat} : vlen Tryz.prog H 22 (.ref β off n w c) = (match H β with | some (.cells _ cs) => if off ≤ cs.length then some (.lit (.int .i64 n)) else none | _ => none) := lenR Tryz.underlying22
theorem jo : elemT Tryz.prog 22 = some 3 := by simp [elemT, Tryz.underlying22]
theorem px : appOk Tryz.prog 22 = some (3, 1, 8) := by kernel_rfl
theorem IY {xs : List Int} : (aa eI xs).take (xs.length * 1) = aa eI xs := Eu (fun _ => rfl)
theorem pw : ∀ x : Int, leafL (eI x) = true := fun x => by simp only [eI_eq, rv, eB_eq, eS_eq, ry, lI, lJ, De, Df, Dg, Dh, Di, Bool.and_self]
theorem IZ {a0 : VV} (h : leafL [a0] = true) : aQ Tryz.prog 22 1 [(0, a0)] = some ([a0], 1) := by
 have h2 : szT Tryz.prog 3 = some 1 := by kernel_rfl
 have h3 : vzero Tryz.prog 3 = some #[.int .i64 0] := by kernel_rfl
 simp only [lJ, lI, Bool.and_true, Bool.and_eq_true] at h
 simp [aQ, Tryz.underlying22, h2, h3, vfill, vcells1, h, overwrite, vzeros, List.range_succ]
theorem Ja {a0 a1 : VV} (h : leafL [a0, a1] = true) : aQ Tryz.prog 22 2 [(0, a0), (1, a1)] = some ([a0, a1], 1) := by
 have h2 : szT Tryz.prog 3 = some 1 := by kernel_rfl
 have h3 : vzero Tryz.prog 3 = some #[.int .i64 0] := by kernel_rfl
 simp only [lJ, lI, Bool.and_true, Bool.and_eq_true] at h
 simp [aQ, Tryz.underlying22, h2, h3, vfill, vcells1, h, overwrite, vzeros, List.range_succ]
theorem aA {H : Nat → Option VObj} {xs : List Int} {x : Int} {f : Bool} {k : IntKind} {i : Int} (h : getI xs i = some x) : aF Tryz.prog H 22 (.sl (aa eI xs) xs.length f) (.lit (.int k i)) = some (.tp (eI x ++ aa eI (xs.drop (i.toNat + 1)))) :=
 ixG Tryz.underlying22 (by kernel_rfl : szT Tryz.prog 3 = some 1) (by decide) (fun _ => rfl) h
theorem Jb {c : VV} {cs : List VV} : aV Tryz.prog 23 (c :: cs) = some c := by
 have h1 : aggT Tryz.prog 23 = some false := by kernel_rfl
 simp [aV, vpart, h1]
theorem Al {H : Nat → Option VObj} {cs : List VV} {n : Nat} {f : Bool} : vlen Tryz.prog H 23 (.sl cs n f) = some (.lit (.int .i64 n)) := by simp [vlen, Tryz.underlying23, sls]
theorem lenN23 {H : Nat → Option VObj} : vlen Tryz.prog H 23 (.lit (.slice none 0 0)) = some (.lit (.int .i64 0)) := by simp [vlen, Tryz.underlying23, sls]
theorem lenR23 {H : Nat → Option VObj} {β off n w c : Nat} : vlen Tryz.prog H 23 (.ref β off n w c) = (match H β with | some (.cells _ cs) => if off ≤ cs.length then some (.lit (.int .i64 n)) else none | _ => none) := lenR Tryz.underlying23
theorem cn {H : Nat → Option VObj} {xs : List GLp} {x : GLp} {f : Bool} {k : IntKind} {i : Int} (h : getI xs i = some x) : aF Tryz.prog H 23 (.sl (aa cGLp xs) xs.length f) (.lit (.int k i)) = some (.tp (cGLp x ++ aa cGLp (xs.drop (i.toNat + 1)))) :=
 ixG Tryz.underlying23 (by kernel_rfl : szT Tryz.prog 108 = some 4) (by decide) (fun _ => rfl) h
theorem Jc {c0 c1 : VV} {cs : List VV} : aV Tryz.prog 25 (c0 :: c1 :: cs) = some (.agg [c0, c1]) := by
 have h1 : aggT Tryz.prog 25 = some true := by kernel_rfl
 have h2 : szT Tryz.prog 25 = some 2 := by kernel_rfl
 simp [aV, vpart, h1, h2]
theorem Jd : szT Tryz.prog 25 = some 2 := by kernel_rfl
theorem Am : vzl Tryz.prog 25 = some [.lit (.int .i64 0), .lit (.int .i64 0)] := by kernel_rfl
theorem Je {H : Nat → Option VObj} {β o : Nat} : ae Tryz.prog H 25 (.ptr β o) 0 = if (H β).isSome = true then some (.ptr β (o + 0)) else none := by
 have h2 : szT Tryz.prog 3 = some 1 := by kernel_rfl
 simp [ae, Tryz.underlying25, h2]
theorem Jf {H : Nat → Option VObj} {β o : Nat} : ae Tryz.prog H 25 (.ptr β o) 1 = if (H β).isSome = true then some (.ptr β (o + 1)) else none := by
 have h2 : szT Tryz.prog 3 = some 1 := by kernel_rfl
 simp [ae, Tryz.underlying25, h2]
theorem Jg {c : VV} {cs : List VV} : aV Tryz.prog 26 (c :: cs) = some c := by
 have h1 : aggT Tryz.prog 26 = some false := by kernel_rfl
 simp [aV, vpart, h1]
theorem An {H : Nat → Option VObj} {cs : List VV} {n : Nat} {f : Bool} : vlen Tryz.prog H 26 (.sl cs n f) = some (.lit (.int .i64 n)) := by simp [vlen, Tryz.underlying26, sls]
theorem lenN26 {H : Nat → Option VObj} : vlen Tryz.prog H 26 (.lit (.slice none 0 0)) = some (.lit (.int .i64 0)) := by simp [vlen, Tryz.underlying26, sls]
theorem lenR26 {H : Nat → Option VObj} {β off n w c : Nat} : vlen Tryz.prog H 26 (.ref β off n w c) = (match H β with | some (.cells _ cs) => if off ≤ cs.length then some (.lit (.int .i64 n)) else none | _ => none) := lenR Tryz.underlying26
theorem aE {H : Nat → Option VObj} {xs : List GLw} {x : GLw} {f : Bool} {k : IntKind} {i : Int} (h : getI xs i = some x) : aF Tryz.prog H 26 (.sl (aa cGLw xs) xs.length f) (.lit (.int k i)) = some (.tp (cGLw x ++ aa cGLw (xs.drop (i.toNat + 1)))) :=
 ixG Tryz.underlying26 (by kernel_rfl : szT Tryz.prog 79 = some 3) (by decide) (fun _ => rfl) h
theorem Jh {c0 c1 c2 c3 c4 c5 c6 c7 c8 c9 : VV} {cs : List VV} : aV Tryz.prog 28 (c0 :: c1 :: c2 :: c3 :: c4 :: c5 :: c6 :: c7 :: c8 :: c9 :: cs) = some (.agg [c0, c1, c2, c3, c4, c5, c6, c7, c8, c9]) := by
 have h1 : aggT Tryz.prog 28 = some true := by kernel_rfl
 have h2 : szT Tryz.prog 28 = some 10 := by kernel_rfl
 simp [aV, vpart, h1, h2]
theorem Ji {H : Nat → Option VObj} {β o : Nat} : ae Tryz.prog H 28 (.ptr β o) 0 = if (H β).isSome = true then some (.ptr β (o + 0)) else none := by
 have h2 : szT Tryz.prog 22 = some 1 := by kernel_rfl
 simp [ae, Tryz.underlying28, h2]
theorem Jj {H : Nat → Option VObj} {β o : Nat} : ae Tryz.prog H 28 (.ptr β o) 1 = if (H β).isSome = true then some (.ptr β (o + 1)) else none := by
 have h2 : szT Tryz.prog 23 = some 1 := by kernel_rfl
 simp [ae, Tryz.underlying28, h2]
theorem Jk {H : Nat → Option VObj} {β o : Nat} : ae Tryz.prog H 28 (.ptr β o) 2 = if (H β).isSome = true then some (.ptr β (o + 2)) else none := by
 have h2 : szT Tryz.prog 25 = some 2 := by kernel_rfl
 simp [ae, Tryz.underlying28, h2]
theorem Jl {H : Nat → Option VObj} {β o : Nat} : ae Tryz.prog H 28 (.ptr β o) 3 = if (H β).isSome = true then some (.ptr β (o + 4)) else none := by
 have h2 : szT Tryz.prog 25 = some 2 := by kernel_rfl
 simp [ae, Tryz.underlying28, h2]
theorem Jm {H : Nat → Option VObj} {β o : Nat} : ae Tryz.prog H 28 (.ptr β o) 4 = if (H β).isSome = true then some (.ptr β (o + 6)) else none := by
 have h2 : szT Tryz.prog 3 = some 1 := by kernel_rfl
 simp [ae, Tryz.underlying28, h2]
theorem Jn {H : Nat → Option VObj} {β o : Nat} : ae Tryz.prog H 28 (.ptr β o) 5 = if (H β).isSome = true then some (.ptr β (o + 7)) else none := by
 have h2 : szT Tryz.prog 26 = some 1 := by kernel_rfl
 simp [ae, Tryz.underlying28, h2]
theorem Jo {H : Nat → Option VObj} {β o : Nat} : ae Tryz.prog H 28 (.ptr β o) 6 = if (H β).isSome = true then some (.ptr β (o + 8)) else none := by
 have h2 : szT Tryz.prog 3 = some 1 := by kernel_rfl
 simp [ae, Tryz.underlying28, h2]
theorem Jp {H : Nat → Option VObj} {cs : List VV} : ae Tryz.prog H 28 (.tp cs) 7 = some (.tp (cs.drop 9)) := by
 have h2 : szT Tryz.prog 3 = some 1 := by kernel_rfl
 simp [ae, Tryz.underlying28, h2]
theorem Jq {H : Nat → Option VObj} {β o : Nat} : ae Tryz.prog H 28 (.ptr β o) 7 = if (H β).isSome = true then some (.ptr β (o + 9)) else none := by
 have h2 : szT Tryz.prog 3 = some 1 := by kernel_rfl
 simp [ae, Tryz.underlying28, h2]
theorem Jr {c : VV} {cs : List VV} : aV Tryz.prog 29 (c :: cs) = some c := by
 have h1 : aggT Tryz.prog 29 = some false := by kernel_rfl
 simp [aV, vpart, h1]
theorem Js : szT Tryz.prog 29 = some 1 := by kernel_rfl
theorem Ao : vzl Tryz.prog 29 = some [.lit (.slice none 0 0)] := by kernel_rfl
theorem Ap {H : Nat → Option VObj} {cs : List VV} {n : Nat} {f : Bool} : vlen Tryz.prog H 29 (.sl cs n f) = some (.lit (.int .i64 n)) := by simp [vlen, Tryz.underlying29, sls]
theorem lenN29 {H : Nat → Option VObj} : vlen Tryz.prog H 29 (.lit (.slice none 0 0)) = some (.lit (.int .i64 0)) := by simp [vlen, Tryz.underlying29, sls]
theorem lenR29 {H : Nat → Option VObj} {β off n w c : Nat} : vlen Tryz.prog H 29 (.ref β off n w c) = (match H β with | some (.cells _ cs) => if off ≤ cs.length then some (.lit (.int .i64 n)) else none | _ => none) := lenR Tryz.underlying29
theorem gW : elemT Tryz.prog 29 = some 100 := by simp [elemT, Tryz.underlying29]
theorem gg : appOk Tryz.prog 29 = some (100, 2, 16) := by kernel_rfl
theorem Jt {xs : List GLe} : (aa cGLe xs).take (xs.length * 2) = aa cGLe xs := Eu (fun _ => rfl)
theorem gf : ∀ x : GLe, leafL (cGLe x) = true := fun x => by simp only [eI_eq, rv, eB_eq, eS_eq, ry, wL, lI, lJ, De, Df, Dg, Dh, Di, Bool.and_self]
theorem Ju {c0 c1 : VV} (h : leafL [c0, c1] = true) : aQ Tryz.prog 29 1 [(0, .agg [c0, c1])] = some ([c0, c1], 2) := by
 have h2 : szT Tryz.prog 100 = some 2 := by kernel_rfl
 have h3 : vzero Tryz.prog 100 = some #[.int .i64 0, .int .i64 0] := by kernel_rfl
 simp only [lJ, lI, Bool.and_true, Bool.and_eq_true] at h
 simp [aQ, Tryz.underlying29, h2, h3, vfill, aX, h, overwrite, vzeros]
theorem aJ {H : Nat → Option VObj} {xs : List GLe} {x : GLe} {f : Bool} {k : IntKind} {i : Int} (h : getI xs i = some x) : aF Tryz.prog H 29 (.sl (aa cGLe xs) xs.length f) (.lit (.int k i)) = some (.tp (cGLe x ++ aa cGLe (xs.drop (i.toNat + 1)))) :=
 ixG Tryz.underlying29 (by kernel_rfl : szT Tryz.prog 100 = some 2) (by decide) (fun _ => rfl) h
theorem Jv {c0 c1 : VV} {cs : List VV} : aV Tryz.prog 31 (c0 :: c1 :: cs) = some (.agg [c0, c1]) := by
 have h1 : aggT Tryz.prog 31 = some true := by kernel_rfl
 have h2 : szT Tryz.prog 31 = some 2 := by kernel_rfl
 simp [aV, vpart, h1, h2]
theorem Jw : szT Tryz.prog 31 = some 2 := by kernel_rfl
theorem pG : vzl Tryz.prog 31 = some [.lit (.slice none 0 0), .lit (.slice none 0 0)] := by kernel_rfl
theorem Jx {H : Nat → Option VObj} {β o : Nat} : ae Tryz.prog H 31 (.ptr β o) 0 = if (H β).isSome = true then some (.ptr β (o + 0)) else none := by
 have h2 : szT Tryz.prog 22 = some 1 := by kernel_rfl
 simp [ae, Tryz.underlying31, h2]
theorem Jy {H : Nat → Option VObj} {β o : Nat} : ae Tryz.prog H 31 (.ptr β o) 1 = if (H β).isSome = true then some (.ptr β (o + 1)) else none := by
 have h2 : szT Tryz.prog 29 = some 1 := by kernel_rfl
 simp [ae, Tryz.underlying31, h2]
theorem Aq {H : Nat → Option VObj} {cs : List VV} {n : Nat} {f : Bool} : vlen Tryz.prog H 44 (.sl cs n f) = some (.lit (.int .i64 n)) := by simp [vlen, Tryz.underlying44, sls]
theorem lenN44 {H : Nat → Option VObj} : vlen Tryz.prog H 44 (.lit (.slice none 0 0)) = some (.lit (.int .i64 0)) := by simp [vlen, Tryz.underlying44, sls]
theorem lenR44 {H : Nat → Option VObj} {β off n w c : Nat} : vlen Tryz.prog H 44 (.ref β off n w c) = (match H β with | some (.cells _ cs) => if off ≤ cs.length then some (.lit (.int .i64 n)) else none | _ => none) := lenR Tryz.underlying44
theorem Ar {H : Nat → Option VObj} {cs : List VV} {n : Nat} {f : Bool} : vlen Tryz.prog H 47 (.sl cs n f) = some (.lit (.int .i64 n)) := by simp [vlen, Tryz.underlying47, sls]
theorem lenN47 {H : Nat → Option VObj} : vlen Tryz.prog H 47 (.lit (.slice none 0 0)) = some (.lit (.int .i64 0)) := by simp [vlen, Tryz.underlying47, sls]
theorem lenR47 {H : Nat → Option VObj} {β off n w c : Nat} : vlen Tryz.prog H 47 (.ref β off n w c) = (match H β with | some (.cells _ cs) => if off ≤ cs.length then some (.lit (.int .i64 n)) else none | _ => none) := lenR Tryz.underlying47
theorem As {H : Nat → Option VObj} {cs : List VV} {n : Nat} {f : Bool} : vlen Tryz.prog H 49 (.sl cs n f) = some (.lit (.int .i64 n)) := by simp [vlen, Tryz.underlying49, sls]
theorem lenN49 {H : Nat → Option VObj} : vlen Tryz.prog H 49 (.lit (.slice none 0 0)) = some (.lit (.int .i64 0)) := by simp [vlen, Tryz.underlying49, sls]
theorem lenR49 {H : Nat → Option VObj} {β off n w c : Nat} : vlen Tryz.prog H 49 (.ref β off n w c) = (match H β with | some (.cells _ cs) => if off ≤ cs.length then some (.lit (.int .i64 n)) else none | _ => none) := lenR Tryz.underlying49
theorem Jz {c0 c1 c2 : VV} {cs : List VV} : aV Tryz.prog 79 (c0 :: c1 :: c2 :: cs) = some (.agg [c0, c1, c2]) := by
 have h1 : aggT Tryz.prog 79 = some true := by kernel_rfl
 have h2 : szT Tryz.prog 79 = some 3 := by kernel_rfl
 simp [aV, vpart, h1, h2]
theorem J0 : szT Tryz.prog 79 = some 3 := by kernel_rfl
theorem At : vzl Tryz.prog 79 = some [.lit (.slice none 0 0), .lit (.slice none 0 0), .lit (.bool false)] := by kernel_rfl
theorem J1 {H : Nat → Option VObj} {cs : List VV} : ae Tryz.prog H 79 (.tp cs) 0 = some (.tp (cs.drop 0)) := by
 have h2 : szT Tryz.prog 22 = some 1 := by kernel_rfl
 simp [ae, Tryz.underlying79, h2]
theorem J2 {H : Nat → Option VObj} {β o : Nat} : ae Tryz.prog H 79 (.ptr β o) 0 = if (H β).isSome = true then some (.ptr β (o + 0)) else none := by
 have h2 : szT Tryz.prog 22 = some 1 := by kernel_rfl
 simp [ae, Tryz.underlying79, h2]
theorem J3 {H : Nat → Option VObj} {cs : List VV} : ae Tryz.prog H 79 (.tp cs) 1 = some (.tp (cs.drop 1)) := by
 have h2 : szT Tryz.prog 22 = some 1 := by kernel_rfl
 simp [ae, Tryz.underlying79, h2]
theorem J4 {H : Nat → Option VObj} {β o : Nat} : ae Tryz.prog H 79 (.ptr β o) 1 = if (H β).isSome = true then some (.ptr β (o + 1)) else none := by
 have h2 : szT Tryz.prog 22 = some 1 := by kernel_rfl
 simp [ae, Tryz.underlying79, h2]
theorem J5 {H : Nat → Option VObj} {cs : List VV} : ae Tryz.prog H 79 (.tp cs) 2 = some (.tp (cs.drop 2)) := by
 have h2 : szT Tryz.prog 4 = some 1 := by kernel_rfl
 simp [ae, Tryz.underlying79, h2]
theorem J6 {c : VV} {cs : List VV} : aV Tryz.prog 91 (c :: cs) = some c := by
 have h1 : aggT Tryz.prog 91 = some false := by kernel_rfl
 simp [aV, vpart, h1]
theorem J7 : szT Tryz.prog 91 = some 1 := by kernel_rfl
theorem Au {H : Nat → Option VObj} {cs : List VV} {n : Nat} {f : Bool} : vlen Tryz.prog H 91 (.sl cs n f) = some (.lit (.int .i64 n)) := by simp [vlen, Tryz.underlying91, sls]
theorem lenN91 {H : Nat → Option VObj} : vlen Tryz.prog H 91 (.lit (.slice none 0 0)) = some (.lit (.int .i64 0)) := by simp [vlen, Tryz.underlying91, sls]
theorem lenR91 {H : Nat → Option VObj} {β off n w c : Nat} : vlen Tryz.prog H 91 (.ref β off n w c) = (match H β with | some (.cells _ cs) => if off ≤ cs.length then some (.lit (.int .i64 n)) else none | _ => none) := lenR Tryz.underlying91
theorem gY : elemT Tryz.prog 91 = some 144 := by simp [elemT, Tryz.underlying91]
theorem ld : appOk Tryz.prog 91 = some (144, 4, 32) := by kernel_rfl
theorem J8 {xs : List Glm} : (aa cGlm xs).take (xs.length * 4) = aa cGlm xs := Eu (fun _ => rfl)
theorem lf : ∀ x : Glm, leafL (cGlm x) = true := fun x => by simp only [eI_eq, rv, eB_eq, eS_eq, ry, Aj, lI, lJ, De, Df, Dg, Dh, Di, Bool.and_self]
theorem J9 {c0 c1 c2 c3 : VV} (h : leafL [c0, c1, c2, c3] = true) : aQ Tryz.prog 91 1 [(0, .agg [c0, c1, c2, c3])] = some ([c0, c1, c2, c3], 4) := by
 have h2 : szT Tryz.prog 144 = some 4 := by kernel_rfl
 have h3 : vzero Tryz.prog 144 = some #[.int .i64 0, .int .i64 0, .int .i64 0, .bool false] := by kernel_rfl
 simp only [lJ, lI, Bool.and_true, Bool.and_eq_true] at h
 simp [aQ, Tryz.underlying91, h2, h3, vfill, aX, h, overwrite, vzeros]
theorem bl {H : Nat → Option VObj} {xs : List Glm} {x : Glm} {f : Bool} {k : IntKind} {i : Int} (h : getI xs i = some x) : aF Tryz.prog H 91 (.sl (aa cGlm xs) xs.length f) (.lit (.int k i)) = some (.tp (cGlm x ++ aa cGlm (xs.drop (i.toNat + 1)))) :=
 ixG Tryz.underlying91 (by kernel_rfl : szT Tryz.prog 144 = some 4) (by decide) (fun _ => rfl) h
theorem JA {c0 c1 c2 c3 c4 c5 c6 c7 c8 c9 JB Dj Rx Ry Rz : VV} {cs : List VV} : aV Tryz.prog 93 (c0 :: c1 :: c2 :: c3 :: c4 :: c5 :: c6 :: c7 :: c8 :: c9 :: JB :: Dj :: Rx :: Ry :: Rz :: cs) = some (.agg [c0, c1, c2, c3, c4, c5, c6, c7, c8, c9, JB, Dj, Rx, Ry, Rz]) := by
 have h1 : aggT Tryz.prog 93 = some true := by kernel_rfl
 have h2 : szT Tryz.prog 93 = some 15 := by kernel_rfl
 simp [aV, vpart, h1, h2]
theorem JC : szT Tryz.prog 93 = some 15 := by kernel_rfl
theorem pH : vzl Tryz.prog 93 = some [.lit (.slice none 0 0), .lit (.slice none 0 0), .lit (.int .i64 0), .lit (.int .i64 0), .lit (.int .i64 0), .lit (.int .i64 0), .lit (.int .i64 0), .lit (.slice none 0 0), .lit (.int .i64 0), .lit (.int .i64 0), .lit (.slice none 0 0), .lit (.slice none 0 0), .lit (.int .i64 0), .lit (.map none), .lit (.slice none 0 0)] := by kernel_rfl
theorem JD {H : Nat → Option VObj} {β o : Nat} : ae Tryz.prog H 93 (.ptr β o) 0 = if (H β).isSome = true then some (.ptr β (o + 0)) else none := by
 have h2 : szT Tryz.prog 28 = some 10 := by kernel_rfl
 simp [ae, Tryz.underlying93, h2]
theorem JE {H : Nat → Option VObj} {β o : Nat} : ae Tryz.prog H 93 (.ptr β o) 1 = if (H β).isSome = true then some (.ptr β (o + 10)) else none := by
 have h2 : szT Tryz.prog 31 = some 2 := by kernel_rfl
 simp [ae, Tryz.underlying93, h2]
theorem JF {H : Nat → Option VObj} {β o : Nat} : ae Tryz.prog H 93 (.ptr β o) 2 = if (H β).isSome = true then some (.ptr β (o + 12)) else none := by
 have h2 : szT Tryz.prog 3 = some 1 := by kernel_rfl
 simp [ae, Tryz.underlying93, h2]
theorem JG {H : Nat → Option VObj} {β o : Nat} : ae Tryz.prog H 93 (.ptr β o) 3 = if (H β).isSome = true then some (.ptr β (o + 13)) else none := by
 have h2 : szT Tryz.prog 90 = some 1 := by kernel_rfl
 simp [ae, Tryz.underlying93, h2]
theorem JH {H : Nat → Option VObj} {β o : Nat} : ae Tryz.prog H 93 (.ptr β o) 4 = if (H β).isSome = true then some (.ptr β (o + 14)) else none := by
 have h2 : szT Tryz.prog 91 = some 1 := by kernel_rfl
 simp [ae, Tryz.underlying93, h2]
theorem Av {c0 c1 : VV} {cs : List VV} : aV Tryz.prog 100 (c0 :: c1 :: cs) = some (.agg [c0, c1]) := by
 have h1 : aggT Tryz.prog 100 = some true := by kernel_rfl
 have h2 : szT Tryz.prog 100 = some 2 := by kernel_rfl
 simp [aV, vpart, h1, h2]
theorem Aw : szT Tryz.prog 100 = some 2 := by kernel_rfl
theorem pI : vzl Tryz.prog 100 = some [.lit (.int .i64 0), .lit (.int .i64 0)] := by kernel_rfl
theorem JI {H : Nat → Option VObj} {β o : Nat} : ae Tryz.prog H 100 (.ptr β o) 0 = if (H β).isSome = true then some (.ptr β (o + 0)) else none := by
 have h2 : szT Tryz.prog 3 = some 1 := by kernel_rfl
 simp [ae, Tryz.underlying100, h2]
theorem JJ {H : Nat → Option VObj} {β o : Nat} : ae Tryz.prog H 100 (.ptr β o) 1 = if (H β).isSome = true then some (.ptr β (o + 1)) else none := by
 have h2 : szT Tryz.prog 3 = some 1 := by kernel_rfl
 simp [ae, Tryz.underlying100, h2]
theorem Ax {c0 c1 c2 c3 : VV} {cs : List VV} : aV Tryz.prog 108 (c0 :: c1 :: c2 :: c3 :: cs) = some (.agg [c0, c1, c2, c3]) := by
 have h1 : aggT Tryz.prog 108 = some true := by kernel_rfl
 have h2 : szT Tryz.prog 108 = some 4 := by kernel_rfl
 simp [aV, vpart, h1, h2]
theorem Ay : szT Tryz.prog 108 = some 4 := by kernel_rfl
theorem uQ : vzl Tryz.prog 108 = some [.lit (.int .i64 0), .lit (.int .i64 0), .lit (.int .i64 0), .lit (.int .i64 0)] := by kernel_rfl
theorem JK {H : Nat → Option VObj} {cs : List VV} : ae Tryz.prog H 108 (.tp cs) 0 = some (.tp (cs.drop 0)) := by
 have h2 : szT Tryz.prog 3 = some 1 := by kernel_rfl
 simp [ae, Tryz.underlying108, h2]
theorem JL {H : Nat → Option VObj} {β o : Nat} : ae Tryz.prog H 108 (.ptr β o) 0 = if (H β).isSome = true then some (.ptr β (o + 0)) else none := by
 have h2 : szT Tryz.prog 3 = some 1 := by kernel_rfl
 simp [ae, Tryz.underlying108, h2]
theorem JM {H : Nat → Option VObj} {cs : List VV} : ae Tryz.prog H 108 (.tp cs) 1 = some (.tp (cs.drop 1)) := by
 have h2 : szT Tryz.prog 3 = some 1 := by kernel_rfl
 simp [ae, Tryz.underlying108, h2]
theorem JN {H : Nat → Option VObj} {β o : Nat} : ae Tryz.prog H 108 (.ptr β o) 1 = if (H β).isSome = true then some (.ptr β (o + 1)) else none := by
 have h2 : szT Tryz.prog 3 = some 1 := by kernel_rfl
 simp [ae, Tryz.underlying108, h2]
theorem JO {H : Nat → Option VObj} {β o : Nat} : ae Tryz.prog H 108 (.ptr β o) 2 = if (H β).isSome = true then some (.ptr β (o + 2)) else none := by
 have h2 : szT Tryz.prog 25 = some 2 := by kernel_rfl
 simp [ae, Tryz.underlying108, h2]
theorem uR {H : Nat → Option VObj} {cs : List VV} {n : Nat} {f : Bool} : vlen Tryz.prog H 117 (.sl cs n f) = some (.lit (.int .i64 n)) := by simp [vlen, Tryz.underlying117, sls]
theorem lenN117 {H : Nat → Option VObj} : vlen Tryz.prog H 117 (.lit (.slice none 0 0)) = some (.lit (.int .i64 0)) := by simp [vlen, Tryz.underlying117, sls]
theorem lenR117 {H : Nat → Option VObj} {β off n w c : Nat} : vlen Tryz.prog H 117 (.ref β off n w c) = (match H β with | some (.cells _ cs) => if off ≤ cs.length then some (.lit (.int .i64 n)) else none | _ => none) := lenR Tryz.underlying117
theorem uS : vzl Tryz.prog 142 = some [.lit (.int .i64 0), .lit (.int .i64 0)] := by kernel_rfl
theorem Az {c0 c1 c2 c3 : VV} {cs : List VV} : aV Tryz.prog 144 (c0 :: c1 :: c2 :: c3 :: cs) = some (.agg [c0, c1, c2, c3]) := by
 have h1 : aggT Tryz.prog 144 = some true := by kernel_rfl
 have h2 : szT Tryz.prog 144 = some 4 := by kernel_rfl
 simp [aV, vpart, h1, h2]
theorem AA : szT Tryz.prog 144 = some 4 := by kernel_rfl
theorem pJ : vzl Tryz.prog 144 = some [.lit (.int .i64 0), .lit (.int .i64 0), .lit (.int .i64 0), .lit (.bool false)] := by kernel_rfl
theorem JP {H : Nat → Option VObj} {β o : Nat} : ae Tryz.prog H 144 (.ptr β o) 0 = if (H β).isSome = true then some (.ptr β (o + 0)) else none := by
 have h2 : szT Tryz.prog 3 = some 1 := by kernel_rfl
 simp [ae, Tryz.underlying144, h2]
theorem JQ {H : Nat → Option VObj} {β o : Nat} : ae Tryz.prog H 144 (.ptr β o) 1 = if (H β).isSome = true then some (.ptr β (o + 1)) else none := by
 have h2 : szT Tryz.prog 3 = some 1 := by kernel_rfl
 simp [ae, Tryz.underlying144, h2]
theorem JR {H : Nat → Option VObj} {β o : Nat} : ae Tryz.prog H 144 (.ptr β o) 2 = if (H β).isSome = true then some (.ptr β (o + 2)) else none := by
 have h2 : szT Tryz.prog 3 = some 1 := by kernel_rfl
 simp [ae, Tryz.underlying144, h2]
theorem JS {H : Nat → Option VObj} {β o : Nat} : ae Tryz.prog H 144 (.ptr β o) 3 = if (H β).isSome = true then some (.ptr β (o + 3)) else none := by
 have h2 : szT Tryz.prog 4 = some 1 := by kernel_rfl
 simp [ae, Tryz.underlying144, h2]
theorem uT {H : Nat → Option VObj} {cs : List VV} {n : Nat} {f : Bool} : vlen Tryz.prog H 158 (.sl cs n f) = some (.lit (.int .i64 n)) := by simp [vlen, Tryz.underlying158, sls]
theorem lenN158 {H : Nat → Option VObj} : vlen Tryz.prog H 158 (.lit (.slice none 0 0)) = some (.lit (.int .i64 0)) := by simp [vlen, Tryz.underlying158, sls]
theorem lenR158 {H : Nat → Option VObj} {β off n w c : Nat} : vlen Tryz.prog H 158 (.ref β off n w c) = (match H β with | some (.cells _ cs) => if off ≤ cs.length then some (.lit (.int .i64 n)) else none | _ => none) := lenR Tryz.underlying158
theorem JT {c : VV} {cs : List VV} : aV Tryz.prog 33 (c :: cs) = some c := by
 have h1 : aggT Tryz.prog 33 = some false := by kernel_rfl
 simp [aV, vpart, h1]
theorem AB {c : VV} {cs : List VV} : aV Tryz.prog 116 (c :: cs) = some c := by
 have h1 : aggT Tryz.prog 116 = some false := by kernel_rfl
 simp [aV, vpart, h1]
theorem AD {c : VV} {cs : List VV} : aV Tryz.prog 152 (c :: cs) = some c := by
 have h1 : aggT Tryz.prog 152 = some false := by kernel_rfl
 simp [aV, vpart, h1]
theorem AE : szT Tryz.prog 155 = some 1 := by kernel_rfl
theorem AF {c : VV} {cs : List VV} : aV Tryz.prog 155 (c :: cs) = some c := by
 have h1 : aggT Tryz.prog 155 = some false := by kernel_rfl
 simp [aV, vpart, h1]
theorem uU : vzl Tryz.prog 155 = some [.lit .nilFunc] := by kernel_rfl
theorem AG {c : VV} {cs : List VV} : aV Tryz.prog 178 (c :: cs) = some c := by
 have h1 : aggT Tryz.prog 178 = some false := by kernel_rfl
 simp [aV, vpart, h1]
theorem AH : szT Tryz.prog 180 = some 2 := by kernel_rfl
theorem pK : vzl Tryz.prog 180 = some [.lit .nilFunc, .lit .nilFunc] := by kernel_rfl
theorem JU {H : Nat → Option VObj} {β o : Nat} {k : IntKind} : aF Tryz.prog H 180 (.ptr β o) (.lit (.int k 0)) = if (H β).isSome = true then some (.ptr β (o + 0)) else none := by
 have h2 : szT Tryz.prog 178 = some 1 := by kernel_rfl
 simp [aF, Tryz.underlying180, h2]
theorem JV : vbuild Tryz.prog 31 [] = some (.agg [.lit (.slice none 0 0), .lit (.slice none 0 0)]) := by
 rw [sM pG (by kernel_rfl)]
 rfl
theorem JW {dy dz : VV} (h : leafL [dy, dz] = true) : vbuild Tryz.prog 31 [(0, dy), (1, dz)] = some (.agg [dy, dz]) := by
 have p0 : placeT Tryz.prog 31 0 = some (0, 1) := by kernel_rfl
 have p1 : placeT Tryz.prog 31 1 = some (1, 1) := by kernel_rfl
 simp only [lJ, lI, Bool.and_true, Bool.and_eq_true] at h
 rw [sM pG (by kernel_rfl)]
 simp [vfill, p0, p1, vcells1, h, overwrite]
theorem JX : vbuild Tryz.prog 93 [] = some (.agg [.lit (.slice none 0 0), .lit (.slice none 0 0), .lit (.int .i64 0), .lit (.int .i64 0), .lit (.int .i64 0), .lit (.int .i64 0), .lit (.int .i64 0), .lit (.slice none 0 0), .lit (.int .i64 0), .lit (.int .i64 0), .lit (.slice none 0 0), .lit (.slice none 0 0), .lit (.int .i64 0), .lit (.map none), .lit (.slice none 0 0)]) := by
 rw [sM pH (by kernel_rfl)]
 rfl
theorem Vt {dy pL pM pN pO pP pQ pR pS pT dz pU mj ml : VV} (h : leafL [dy, pL, pM, pN, pO, pP, pQ, pR, pS, pT, dz, pU, mj, ml] = true) : vbuild Tryz.prog 93 [(0, .agg [dy, pL, pM, pN, pO, pP, pQ, pR, pS, pT]), (1, .agg [dz, pU]), (2, mj), (3, ml)] = some (.agg [dy, pL, pM, pN, pO, pP, pQ, pR, pS, pT, dz, pU, mj, ml, .lit (.slice none 0 0)]) := by
 have p0 : placeT Tryz.prog 93 0 = some (0, 10) := by kernel_rfl
 have p1 : placeT Tryz.prog 93 1 = some (10, 2) := by kernel_rfl
 have p2 : placeT Tryz.prog 93 2 = some (12, 1) := by kernel_rfl
 have p3 : placeT Tryz.prog 93 3 = some (13, 1) := by kernel_rfl
 simp only [lJ, lI, Bool.and_true, Bool.and_eq_true] at h
 have q0 : aX (.agg [dy, pL, pM, pN, pO, pP, pQ, pR, pS, pT]) = some [dy, pL, pM, pN, pO, pP, pQ, pR, pS, pT] := by rw [JY]; simp [lJ, lI, h]
 have q1 : aX (.agg [dz, pU]) = some [dz, pU] := by rw [JY]; simp [lJ, lI, h]
 rw [sM pH (by kernel_rfl)]
 simp [vfill, p0, p1, p2, p3, vcells1, h, overwrite, q0, q1]
theorem JZ {dy dz : VV} (h : leafL [dy, dz] = true) : vbuild Tryz.prog 100 [(0, dy), (1, dz)] = some (.agg [dy, dz]) := by
 have p0 : placeT Tryz.prog 100 0 = some (0, 1) := by kernel_rfl
 have p1 : placeT Tryz.prog 100 1 = some (1, 1) := by kernel_rfl
 simp only [lJ, lI, Bool.and_true, Bool.and_eq_true] at h
 rw [sM pI (by kernel_rfl)]
 simp [vfill, p0, p1, vcells1, h, overwrite]
theorem Ke {dy dz : VV} (h : leafL [dy, dz] = true) : vbuild Tryz.prog 142 [(0, dy), (1, dz)] = some (.agg [dy, dz]) := by
 have p0 : placeT Tryz.prog 142 0 = some (0, 1) := by kernel_rfl
 have p1 : placeT Tryz.prog 142 1 = some (1, 1) := by kernel_rfl
 simp only [lJ, lI, Bool.and_true, Bool.and_eq_true] at h
 rw [sM uS (by kernel_rfl)]
 simp [vfill, p0, p1, vcells1, h, overwrite]
theorem Vu {dy dz mj ml : VV} (h : leafL [dy, dz, mj, ml] = true) : vbuild Tryz.prog 144 [(0, dy), (1, dz), (2, mj), (3, ml)] = some (.agg [dy, dz, mj, ml]) := by
 have p0 : placeT Tryz.prog 144 0 = some (0, 1) := by kernel_rfl
 have p1 : placeT Tryz.prog 144 1 = some (1, 1) := by kernel_rfl
 have p2 : placeT Tryz.prog 144 2 = some (2, 1) := by kernel_rfl
 have p3 : placeT Tryz.prog 144 3 = some (3, 1) := by kernel_rfl
 simp only [lJ, lI, Bool.and_true, Bool.and_eq_true] at h
 rw [sM pJ (by kernel_rfl)]
 simp [vfill, p0, p1, p2, p3, vcells1, h, overwrite]
theorem AI : vbuild Tryz.prog 149 [] = some (.agg []) := by kernel_rfl
theorem AJ : szT Tryz.prog 149 = some 0 := by kernel_rfl
theorem uW : vzl Tryz.prog 149 = some [] := by kernel_rfl
theorem Kf {dy dz : VV} (h : leafL [dy, dz] = true) : vbuild Tryz.prog 180 [(0, dy), (1, dz)] = some (.agg [dy, dz]) := by
 have p0 : placeT Tryz.prog 180 0 = some (0, 1) := by kernel_rfl
 have p1 : placeT Tryz.prog 180 1 = some (1, 1) := by kernel_rfl
 simp only [lJ, lI, Bool.and_true, Bool.and_eq_true] at h
 rw [sM pK (by kernel_rfl)]
 simp [vfill, p0, p1, vcells1, h, overwrite]
theorem Vv {x : VV} : mkIfcV Tryz.prog 9 x = some (.ifc 9 x) := by simp [mkIfcV, Tryz.underlying9]
theorem AK {x : VV} : mkIfcV Tryz.prog 149 x = some (.ifc 149 x) := by simp [mkIfcV, Tryz.underlying149]
theorem sN : ((Tryz.prog.info? 149).bind (·.zero)).map (fun z => VV.tup [ofVal2 z, .lit (.bool false)]) = some (.tup [.agg [], .lit (.bool false)]) := by kernel_rfl
theorem AM : vtypeAssert Tryz.prog (.lit .nilIface) 149 true = some (.tup [.agg [], .lit (.bool false)]) := by
 simp only [vtypeAssert, Tryz.underlying149, if_true]
 exact sN
theorem Kg {x : VV} : vtypeAssert Tryz.prog (.ifc 9 x) 149 true = some (.tup [.agg [], .lit (.bool false)]) := by
 simp only [vtypeAssert, Tryz.underlying149, if_true]
 rw [if_neg (by decide)]
 exact sN
theorem AN {x : VV} : vtypeAssert Tryz.prog (.ifc 149 x) 149 true = some (.tup [x, .lit (.bool true)]) := by
 simp [vtypeAssert, Tryz.underlying149]
theorem Vw {H : Nat → Option VObj} {x y : Operand} {a b : Bool} : binV Tryz.prog H .eql 4 x y (.lit (.bool a)) (.lit (.bool b)) = some (.lit (.bool (a == b))) := Kh Tryz.underlying4
theorem Vx {H : Nat → Option VObj} {x y : Operand} {a b : Bool} : binV Tryz.prog H .neq 4 x y (.lit (.bool a)) (.lit (.bool b)) = some (.lit (.bool (a != b))) := Ki Tryz.underlying4
theorem sO {H : Nat → Option VObj} {x y : Operand} {a0 b0 : Int} {a1 b1 : Int} : binV Tryz.prog H .eql 100 x y (.agg [.lit (.int .i64 a0), .lit (.int .i64 a1)]) (.agg [.lit (.int .i64 b0), .lit (.int .i64 b1)]) = some (.lit (.bool (a0 == b0 && (a1 == b1)))) ∧ binV Tryz.prog H .neq 100 x y (.agg [.lit (.int .i64 a0), .lit (.int .i64 a1)]) (.agg [.lit (.int .i64 b0), .lit (.int .i64 b1)]) = some (.lit (.bool (!(a0 == b0 && (a1 == b1))))) := by
 refine binS (xs := [.int .i64 a0, .int .i64 a1]) (ys := [.int .i64 b0, .int .i64 b1]) (by simp [VV.val?, valL?]) (by simp [VV.val?, valL?]) Tryz.underlying100 (by kernel_rfl) (by kernel_rfl) ?_
 simp [eqF, pV, eq1, Tryz.underlying3]
theorem AO {H : Nat → Option VObj} {x y : Operand} {a0 b0 : Int} {a1 b1 : Int} : binV Tryz.prog H .eql 100 x y (.agg [.lit (.int .i64 a0), .lit (.int .i64 a1)]) (.agg [.lit (.int .i64 b0), .lit (.int .i64 b1)]) = some (.lit (.bool (a0 == b0 && (a1 == b1)))) := sO.1
theorem AP {H : Nat → Option VObj} {x y : Operand} {a0 b0 : Int} {a1 b1 : Int} : binV Tryz.prog H .neq 100 x y (.agg [.lit (.int .i64 a0), .lit (.int .i64 a1)]) (.agg [.lit (.int .i64 b0), .lit (.int .i64 b1)]) = some (.lit (.bool (!(a0 == b0 && (a1 == b1))))) := sO.2
theorem Kj : (VV.lit Value.nilFunc).leaf = true := rfl
theorem Kk : (VV.lit Value.nilIface).leaf = true := rfl
def tyf := (And.intro (And.intro (And.intro (And.intro (And.intro (And.intro (And.intro @uP @Af) (And.intro @Ag @Ah)) (And.intro (And.intro @wL @Ai) (And.intro @Dc (And.intro @Aj @Dd)))) (And.intro (And.intro (And.intro @zC @Vp) (And.intro @Vq (And.intro @IV @Vr))) (And.intro (And.intro @Vs @IW) (And.intro @IX (And.intro @Ak @lenN22))))) (And.intro (And.intro (And.intro (And.intro @lenR22 @jo) (And.intro @IY (And.intro @IZ @Ja))) (And.intro (And.intro @Jb @Al) (And.intro @lenN23 (And.intro @lenR23 @Jc)))) (And.intro (And.intro (And.intro @Jd @Am) (And.intro @Je (And.intro @Jf @Jg))) (And.intro (And.intro @An @lenN26) (And.intro @lenR26 (And.intro @Jh @Ji)))))) (And.intro (And.intro (And.intro (And.intro (And.intro @Jj @Jk) (And.intro @Jl (And.intro @Jm @Jn))) (And.intro (And.intro @Jo @Jp) (And.intro @Jq (And.intro @Jr @Js)))) (And.intro (And.intro (And.intro @Ao @Ap) (And.intro @lenN29 (And.intro @lenR29 @gW))) (And.intro (And.intro @Jt @Ju) (And.intro @Jv (And.intro @Jw @pG))))) (And.intro (And.intro (And.intro (And.intro @Jx @Jy) (And.intro @Aq (And.intro @lenN44 @lenR44))) (And.intro (And.intro @Ar @lenN47) (And.intro @lenR47 (And.intro @As @lenN49)))) (And.intro (And.intro (And.intro @lenR49 @Jz) (And.intro @J0 (And.intro @At @J1))) (And.intro (And.intro @J2 @J3) (And.intro @J4 (And.intro @J5 @J6))))))) (And.intro (And.intro (And.intro (And.intro (And.intro (And.intro @J7 @Au) (And.intro @lenN91 @lenR91)) (And.intro (And.intro @gY @J8) (And.intro @J9 (And.intro @JA @JC)))) (And.intro (And.intro (And.intro @pH @JD) (And.intro @JE (And.intro @JF @JG))) (And.intro (And.intro @JH @Av) (And.intro @Aw (And.intro @pI @JI))))) (And.intro (And.intro (And.intro (And.intro @JJ @Ax) (And.intro @Ay (And.intro @uQ @JK))) (And.intro (And.intro @JL @JM) (And.intro @JN (And.intro @JO @uR)))) (And.intro (And.intro (And.intro @lenN117 @lenR117) (And.intro @Az (And.intro @AA @pJ))) (And.intro (And.intro @JP @JQ) (And.intro @JR (And.intro @JS @uT)))))) (And.intro (And.intro (And.intro (And.intro (And.intro @lenN158 @lenR158) (And.intro @JT (And.intro @AB @AD))) (And.intro (And.intro @AE @AF) (And.intro @uU (And.intro @AG @AH)))) (And.intro (And.intro (And.intro @pK @JU) (And.intro @JV (And.intro @JW @JX))) (And.intro (And.intro @Vt @JZ) (And.intro @Ke (And.intro @Vu @AI))))) (And.intro (And.intro (And.intro (And.intro @AJ @uW) (And.intro @Kf (And.intro @Vv @AK))) (And.intro (And.intro @AM @Kg) (And.intro @AN (And.intro @Vw @Vx)))) (And.intro (And.intro (And.intro @AO @AP) (And.intro @Kj (And.intro @Kk @Kl))) (And.intro (And.intro @eI_eq @rv) (And.intro @eB_eq (And.intro @eS_eq @ry))))))))
def an := (And.intro (And.intro (And.intro @cN.shown @dw.normL) (And.intro @dY.normL (And.intro @eD.normL @eD.showL))) (And.intro (And.intro @kZ.normL (And.intro @kZ.showL @Cw)) (And.intro @yq (And.intro @IU.norm @IU.shown))))
def ar := (And.intro (And.intro @dw.treeL (And.intro @dY.treeL @eD.treeL)) (And.intro @kZ.treeL (And.intro @pF @IU.tree)))
end Go.V
namespace Go.V
open Go Go.Proofs IntKind
theorem ktA {P : Program} {G : Glob} {d : Option Tmp} {γ : Nat} {tm : Nat → VV} {H : Nat → Option VObj} {nx : Nat} {df : List VDef} {K : St → Prop} {Qp : VV → St → Prop} {f : FuncId} {args args0 : List VV} {x : VV} (hp : ad P G f args0 (.tree x)) (h : fin d γ tm H nx df K x .none) (hn : normL args = args0 := by first | (simp only [nrm, an] <;> rfl) | rfl) (ht : treeL args = true := by simp only [tre, ar, Bool.and_self]) : callK P G f args ⟨tm, H, nx, df⟩ d γ K Qp := ktree hn ht hp h
theorem dktA {P : Program} {G : Glob} {d : Option Tmp} {γ : Nat} {tm : Nat → VV} {H : Nat → Option VObj} {nx : Nat} {df : List VDef} {K : List Nat → List Nat → St → Prop} {f : FuncId} {args args0 : List VV} {x : VV} (hp : ad P G f args0 (.tree x)) (h : fin d γ tm H nx df (K [] []) x .none) (hn : normL args = args0 := by first | (simp only [nrm, an] <;> rfl) | rfl) (ht : treeL args = true := by simp only [tre, ar, Bool.and_self]) : dcallK P G f args tm H nx df d γ K := dktree hn ht hp h
theorem optI {α β : Type} {K : Option β → Prop} {X : Option α} {F : α → Option β} (h : K (Option.bind X F)) (kN : ¬ K none) : ∃ r, X = some r ∧ K (F r) := by
  cases X with
  | none => exact absurd h kN
  | some r => exact ⟨r, rfl, h⟩
end Go.V
end
section
namespace Go.V
open Go Go.Proofs IntKind
def Dec (P : Program) (n : Nat) (t : TypeId) {α : Type} (enc : α → List VV) (R : α → Prop) : Prop := ∀ xs, ShapeT P n t xs → ∃ x : α, R x ∧ normL xs = enc x
theorem Km {P : Program} {n : Nat} {t : TypeId} (hu : P.underlying t = some (.int .i64)) : Dec P (n + 1) t eI (fun _ => True) := by
 intro xs h
 simp only [ShapeT, hu] at h
 obtain ⟨i, _, rfl⟩ := h
 exact ⟨i, trivial, by simp only [wo, wq, AQ, eI]⟩
theorem Kn {P : Program} {n : Nat} {t : TypeId} (hu : P.underlying t = some .bool) : Dec P (n + 1) t eB (fun _ => True) := by
 intro xs h
 simp only [ShapeT, hu] at h
 obtain ⟨b, rfl⟩ := h
 exact ⟨b, trivial, by simp only [wo, wq, Ko, eB]⟩
theorem AR {P : Program} {n : Nat} {t : TypeId} {α : Type} {enc : α → List VV} {R : α → Prop} (h : Dec P n t enc R) : ∀ yss : List (List VV), (∀ ys ∈ yss, ShapeT P n t ys) → ∃ l : List α, l.length = yss.length ∧ (∀ x ∈ l, R x) ∧ normL yss.flatten = aa enc l
 | [], _ => ⟨[], rfl, fun _ hx => (by cases hx), rfl⟩
 | ys :: yss, hs => by
  obtain ⟨x, hx, e⟩ := h ys (hs ys (qZb ..))
  obtain ⟨l, h1, h2, h3⟩ := AR h yss (fun y hy => hs y (qZa _ hy))
  refine ⟨x :: l, by simp [h1], fun y hy => ?_, by rw [List.flatten_cons, qY, e, h3, fU]⟩
  rcases List.mem_cons.1 hy with rfl | hy
  ·exact hx
  ·exact h2 y hy
theorem Dk {P : Program} {n : Nat} {t e : TypeId} {α : Type} {enc : α → List VV} {R : α → Prop} (hu : P.underlying t = some (.slice e)) (h : Dec P n e enc R) : Dec P (n + 1) t (fun l : List α => [.sl (aa enc l) l.length false]) (fun l => lenOk l = true ∧ ∀ x ∈ l, R x) := by
 intro xs hs
 simp only [ShapeT, hu] at hs
 rcases hs with rfl | ⟨yss, hl, hall, rfl⟩
 ·exact ⟨[], ⟨rfl, fun _ hx => (by cases hx)⟩, by simp only [wo, wq, R0]; rfl⟩
 ·obtain ⟨l, h1, h2, h3⟩ := AR h yss hall
  refine ⟨l, ⟨?_, h2⟩, by simp only [wo, wq, AS, h3, h1]⟩
  have : maxLen = 9223372036854775807 := by decide
  unfold lenOk
  exact decide_eq_true (by omega)
theorem Kp {P : Program} {n : Nat} {t : TypeId} {fs : Array Field} {xs : List VV} (hu : P.underlying t = some (.struct fs)) (h : ShapeT P (n + 1) t xs) : ∃ yss, FieldsS (ShapeT P n) fs.toList yss ∧ xs = yss.flatten := by
 simp only [ShapeT, hu] at h
 exact h
def TypesS (S : TypeId → List VV → Prop) : List TypeId → List (List VV) → Prop
 | [], [] => True
 | t :: ts, ys :: yss => S t ys ∧ TypesS S ts yss
 | _, _ => False
theorem AT {S : TypeId → List VV → Prop} : ∀ (fs : List Field) (yss : List (List VV)), FieldsS S fs yss → TypesS S (fs.map Field.type) yss
 | [], [], _ => trivial
 | f :: fs, ys :: yss, ⟨h1, h2⟩ => ⟨h1, AT fs yss h2⟩
 | [], _ :: _, h => h
 | _ :: _, [], h => h
theorem wM {P : Program} {n : Nat} {t : TypeId} {fs : Array Field} {ts : List TypeId} {xs : List VV} (hu : P.underlying t = some (.struct fs)) (ht : fs.toList.map Field.type = ts) (h : ShapeT P (n + 1) t xs) : ∃ yss, TypesS (ShapeT P n) ts yss ∧ xs = yss.flatten := by
 obtain ⟨yss, h1, h2⟩ := Kp hu h
 exact ⟨yss, ht ▸ AT _ _ h1, h2⟩
theorem Q5 {P : Program} {n : Nat} {t : TypeId} {ts : List TypeId} {xs : List VV} (h : ArgsS P n (t :: ts) xs) : ∃ x xs', xs = x :: xs' ∧ ArgS P n t x ∧ ArgsS P n ts xs' := by
 match xs, h with
 | x :: xs', h => exact ⟨x, xs', rfl, h.1, h.2⟩
theorem GN {P : Program} {n : Nat} {xs : List VV} (h : ArgsS P n [] xs) : xs = [] := by
 match xs, h with
 | [], _ => rfl
theorem Q6 {P : Program} {n : Nat} {t : TypeId} {fs : Array Field} {x : VV} {α : Type} {enc : α → List VV} {R : α → Prop} (hu : P.underlying t = some (.struct fs)) (hd : Dec P n t enc R) (h : ArgS P n t x) : ∃ s, R s ∧ normV x = .agg (enc s) := by
 obtain ⟨ys, h1, h2⟩ := h
 rw [hu] at h2
 obtain rfl : x = .agg ys := h2
 obtain ⟨s, hs, e⟩ := hd ys h1
 exact ⟨s, hs, by rw [AU, e]⟩
end Go.V
end
section
set_option maxRecDepth 100000
namespace Go.V
open Go Go.Proofs IntKind
def Kq (x : GLw) : Prop := lenOk x.Signs = true ∧ lenOk x.Cuts = true
def R1 (x : GLs) : Prop := lenOk x.Widths = true ∧ lenOk x.Pairs = true ∧ lenOk x.Words = true ∧ ∀ y ∈ x.Words, Kq y
def R2 (x : GLx) : Prop := lenOk x.Out = true ∧ lenOk x.Ends = true
section
variable {P : Program} (gi : P.underlying 3 = some (.int .i64)) (dc : P.underlying 22 = some (.slice 3)) {R3 : Array Field} (de : P.underlying 25 = some (.struct R3)) (dg : R3.toList.map Field.type = [3, 3]) {AV : Array Field} (bI : P.underlying 108 = some (.struct AV)) (bJ : AV.toList.map Field.type = [3, 3, 25]) (dh : P.underlying 23 = some (.slice 108)) (ir : P.underlying 4 = some (.bool)) {R4 : Array Field} (di : P.underlying 79 = some (.struct R4)) (dj : R4.toList.map Field.type = [22, 22, 4]) (dk : P.underlying 26 = some (.slice 79)) {R5 : Array Field} (dm : P.underlying 28 = some (.struct R5)) (dp : R5.toList.map Field.type = [22, 23, 25, 25, 3, 26, 3, 3]) {AW : Array Field} (bK : P.underlying 100 = some (.struct AW)) (bL : AW.toList.map Field.type = [3, 3]) (dq : P.underlying 29 = some (.slice 100)) {R6 : Array Field} (dr : P.underlying 31 = some (.struct R6)) (dt : R6.toList.map Field.type = [22, 29])
include gi dc de dg bI bJ dh ir di dj dk dm dp bK bL dq dr dt
theorem gd_3 {n : Nat} : Dec P (n + 1) 3 eI (fun _ => True) := Km gi
theorem gd_22 {n : Nat} : Dec P (n + 2) 22 (eSl eI) (fun l => lenOk l = true ∧ ∀ x ∈ l, True) := Dk dc (gd_3 gi dc de dg bI bJ dh ir di dj dk dm dp bK bL dq dr dt (n := n))
theorem gd_25 {n : Nat} : Dec P (n + 2) 25 cGSpan (fun _ => True) := by
 intro xs h
 obtain ⟨yss, hf, rfl⟩ := wM (n := n + 1) (ts := [3, 3]) de dg h
 match yss, hf with
 | [y0, y1], ⟨h0, h1, _⟩ =>
  obtain ⟨x0, r0, e0⟩ := gd_3 gi dc de dg bI bJ dh ir di dj dk dm dp bK bL dq dr dt (n := n + 0) _ h0
  obtain ⟨x1, r1, e1⟩ := gd_3 gi dc de dg bI bJ dh ir di dj dk dm dp bK bL dq dr dt (n := n + 0) _ h1
  exact ⟨⟨x0, x1⟩, trivial, by simp only [List.flatten_cons, List.flatten_nil, List.append_nil, qY, e0, e1, eI, sP, eB, eS, eSl, uP, List.cons_append, List.nil_append]⟩
theorem Ks {n : Nat} : Dec P (n + 3) 108 cGLp (fun _ => True) := by
 intro xs h
 obtain ⟨yss, hf, rfl⟩ := wM (n := n + 2) (ts := [3, 3, 25]) bI bJ h
 match yss, hf with
 | [y0, y1, y2], ⟨h0, h1, h2, _⟩ =>
  obtain ⟨x0, r0, e0⟩ := gd_3 gi dc de dg bI bJ dh ir di dj dk dm dp bK bL dq dr dt (n := n + 1) _ h0
  obtain ⟨x1, r1, e1⟩ := gd_3 gi dc de dg bI bJ dh ir di dj dk dm dp bK bL dq dr dt (n := n + 1) _ h1
  obtain ⟨x2, r2, e2⟩ := gd_25 gi dc de dg bI bJ dh ir di dj dk dm dp bK bL dq dr dt (n := n + 0) _ h2
  exact ⟨⟨x0, x1, x2⟩, trivial, by simp only [List.flatten_cons, List.flatten_nil, List.append_nil, qY, e0, e1, e2, eI, sP, eB, eS, eSl, Af, uP, List.cons_append, List.nil_append]⟩
theorem gd_23 {n : Nat} : Dec P (n + 4) 23 (eSl cGLp) (fun l => lenOk l = true ∧ ∀ x ∈ l, True) := Dk dh (Ks gi dc de dg bI bJ dh ir di dj dk dm dp bK bL dq dr dt (n := n))
theorem gd_4 {n : Nat} : Dec P (n + 1) 4 eB (fun _ => True) := Kn ir
theorem gd_79 {n : Nat} : Dec P (n + 3) 79 cGLw (Kq) := by
 intro xs h
 obtain ⟨yss, hf, rfl⟩ := wM (n := n + 2) (ts := [22, 22, 4]) di dj h
 match yss, hf with
 | [y0, y1, y2], ⟨h0, h1, h2, _⟩ =>
  obtain ⟨x0, r0, e0⟩ := gd_22 gi dc de dg bI bJ dh ir di dj dk dm dp bK bL dq dr dt (n := n + 0) _ h0
  obtain ⟨x1, r1, e1⟩ := gd_22 gi dc de dg bI bJ dh ir di dj dk dm dp bK bL dq dr dt (n := n + 0) _ h1
  obtain ⟨x2, r2, e2⟩ := gd_4 gi dc de dg bI bJ dh ir di dj dk dm dp bK bL dq dr dt (n := n + 1) _ h2
  exact ⟨⟨x0, x1, x2⟩, ⟨r0.1, r1.1⟩, by simp only [List.flatten_cons, List.flatten_nil, List.append_nil, qY, e0, e1, e2, eI, sP, eB, eS, eSl, Ag, List.cons_append, List.nil_append]⟩
theorem gd_26 {n : Nat} : Dec P (n + 4) 26 (eSl cGLw) (fun l => lenOk l = true ∧ ∀ x ∈ l, Kq x) := Dk dk (gd_79 gi dc de dg bI bJ dh ir di dj dk dm dp bK bL dq dr dt (n := n))
theorem gd_28 {n : Nat} : Dec P (n + 5) 28 cGLs (R1) := by
 intro xs h
 obtain ⟨yss, hf, rfl⟩ := wM (n := n + 4) (ts := [22, 23, 25, 25, 3, 26, 3, 3]) dm dp h
 match yss, hf with
 | [y0, y1, y2, y3, y4, y5, y6, y7], ⟨h0, h1, h2, h3, h4, h5, h6, h7, _⟩ =>
  obtain ⟨x0, r0, e0⟩ := gd_22 gi dc de dg bI bJ dh ir di dj dk dm dp bK bL dq dr dt (n := n + 2) _ h0
  obtain ⟨x1, r1, e1⟩ := gd_23 gi dc de dg bI bJ dh ir di dj dk dm dp bK bL dq dr dt (n := n + 0) _ h1
  obtain ⟨x2, r2, e2⟩ := gd_25 gi dc de dg bI bJ dh ir di dj dk dm dp bK bL dq dr dt (n := n + 2) _ h2
  obtain ⟨x3, r3, e3⟩ := gd_25 gi dc de dg bI bJ dh ir di dj dk dm dp bK bL dq dr dt (n := n + 2) _ h3
  obtain ⟨x4, r4, e4⟩ := gd_3 gi dc de dg bI bJ dh ir di dj dk dm dp bK bL dq dr dt (n := n + 3) _ h4
  obtain ⟨x5, r5, e5⟩ := gd_26 gi dc de dg bI bJ dh ir di dj dk dm dp bK bL dq dr dt (n := n + 0) _ h5
  obtain ⟨x6, r6, e6⟩ := gd_3 gi dc de dg bI bJ dh ir di dj dk dm dp bK bL dq dr dt (n := n + 3) _ h6
  obtain ⟨x7, r7, e7⟩ := gd_3 gi dc de dg bI bJ dh ir di dj dk dm dp bK bL dq dr dt (n := n + 3) _ h7
  exact ⟨⟨x0, x1, x2, x3, x4, x5, x6, x7⟩, ⟨r0.1, r1.1, r5.1, r5.2⟩, by simp only [List.flatten_cons, List.flatten_nil, List.append_nil, qY, e0, e1, e2, e3, e4, e5, e6, e7, eI, sP, eB, eS, eSl, Ah, uP, List.cons_append, List.nil_append]⟩
theorem Kt {n : Nat} : Dec P (n + 2) 100 cGLe (fun _ => True) := by
 intro xs h
 obtain ⟨yss, hf, rfl⟩ := wM (n := n + 1) (ts := [3, 3]) bK bL h
 match yss, hf with
 | [y0, y1], ⟨h0, h1, _⟩ =>
  obtain ⟨x0, r0, e0⟩ := gd_3 gi dc de dg bI bJ dh ir di dj dk dm dp bK bL dq dr dt (n := n + 0) _ h0
  obtain ⟨x1, r1, e1⟩ := gd_3 gi dc de dg bI bJ dh ir di dj dk dm dp bK bL dq dr dt (n := n + 0) _ h1
  exact ⟨⟨x0, x1⟩, trivial, by simp only [List.flatten_cons, List.flatten_nil, List.append_nil, qY, e0, e1, eI, sP, eB, eS, eSl, wL, List.cons_append, List.nil_append]⟩
theorem gd_29 {n : Nat} : Dec P (n + 3) 29 (eSl cGLe) (fun l => lenOk l = true ∧ ∀ x ∈ l, True) := Dk dq (Kt gi dc de dg bI bJ dh ir di dj dk dm dp bK bL dq dr dt (n := n))
theorem gd_31 {n : Nat} : Dec P (n + 4) 31 cGLx (R2) := by
 intro xs h
 obtain ⟨yss, hf, rfl⟩ := wM (n := n + 3) (ts := [22, 29]) dr dt h
 match yss, hf with
 | [y0, y1], ⟨h0, h1, _⟩ =>
  obtain ⟨x0, r0, e0⟩ := gd_22 gi dc de dg bI bJ dh ir di dj dk dm dp bK bL dq dr dt (n := n + 1) _ h0
  obtain ⟨x1, r1, e1⟩ := gd_29 gi dc de dg bI bJ dh ir di dj dk dm dp bK bL dq dr dt (n := n + 0) _ h1
  exact ⟨⟨x0, x1⟩, ⟨r0.1, r1.1⟩, by simp only [List.flatten_cons, List.flatten_nil, List.append_nil, qY, e0, e1, eI, sP, eB, eS, eSl, Ai, List.cons_append, List.nil_append]⟩
end
theorem GL {n : Nat} : Dec Tryz.prog (n + 5) 28 cGLs (R1) := gd_28 Tryz.underlying3 Tryz.underlying22 Tryz.underlying25 (by kernel_rfl) Tryz.underlying108 (by kernel_rfl) Tryz.underlying23 Tryz.underlying4 Tryz.underlying79 (by kernel_rfl) Tryz.underlying26 Tryz.underlying28 (by kernel_rfl) Tryz.underlying100 (by kernel_rfl) Tryz.underlying29 Tryz.underlying31 (by kernel_rfl)
theorem GM {n : Nat} : Dec Tryz.prog (n + 4) 31 cGLx (R2) := gd_31 Tryz.underlying3 Tryz.underlying22 Tryz.underlying25 (by kernel_rfl) Tryz.underlying108 (by kernel_rfl) Tryz.underlying23 Tryz.underlying4 Tryz.underlying79 (by kernel_rfl) Tryz.underlying26 Tryz.underlying28 (by kernel_rfl) Tryz.underlying100 (by kernel_rfl) Tryz.underlying29 Tryz.underlying31 (by kernel_rfl)
end Go.V
end
section
namespace Go.V
open Go Go.Proofs IntKind
def goB (b : Bool) : Option (LOut Bool Unit) := cond b (some (.go ())) (some (.ret false))
theorem lF (a b : Bool) : goB (a && b) = cond a (goB b) (some (.ret false)) := by cases a <;> rfl
theorem cnot {α : Type} (a : Bool) (x y : α) : cond (!a) x y = cond a y x := by cases a <;> rfl
theorem cand {α : Type} (a b : Bool) (x y : α) : cond (a && b) x y = cond a (cond b x y) y := by cases a <;> rfl
theorem csome (a b : Bool) : cond a (some b) (some false) = some (a && b) := by cases a <;> rfl
theorem sB {X : Type} (b : Bool) (kr : Bool → Option X) (kg : Unit → Option X) (kb : Nat → Unit → Option X) : lbind (goB b) kr kg kb = cond b (kg ()) (kr false) := by cases b <;> rfl
def inB (a b n : Int) : Bool := decide (a ≤ n) && decide (n ≤ b)
theorem rk {a b n : Int} : inB a b n = true ↔ a ≤ n ∧ n ≤ b := by simp [inB]
theorem ka {n : Int} (h1 : -9223372036854775808 ≤ n) (h2 : n < 9223372036854775808) : i64.wrap n = n := IntWalk.i64_in _ (by omega)
theorem uu {α : Type} {xs : List α} (h : lenOk xs = true) : xs.length < 9223372036854775808 := by simpa [lenOk] using h
theorem ny {α : Type} {xs : List α} (h : xs.length < 9223372036854775808) : lenOk xs = true := by simpa [lenOk] using h
theorem QE {α : Type} {xs : List α} {i : Int} (h0 : 0 ≤ i) (h1 : i < xs.length) : ∃ x, getI xs i = some x ∧ x ∈ xs := by
 unfold getI
 rw [if_pos h0]
 have h : i.toNat < xs.length := by omega
 exact ⟨xs[i.toNat], qZi h, List.getElem_mem h⟩
theorem HT {α : Type} {xs : List α} {i : Int} {x : α} (h : getI xs i = some x) : x ∈ xs := by
 unfold getI at h
 split at h
 ·exact List.mem_of_getElem? h
 ·cases h
theorem HS {α : Type} {xs : List α} {i : Int} {x : α} (h : getI xs i = some x) : 0 ≤ i ∧ i < xs.length := ⟨(xt h).1, (xt h).2.1⟩
theorem Ku {α : Type} {xs : List α} (h : 1 ≤ xs.length) (h2 : xs.length < 9223372036854775808) : getI xs (i64.wrap ((xs.length : Int) - 1)) = xs.getLast? := by
 rw [ka (by omega) (by omega)]
 unfold getI
 rw [if_pos (by omega), List.getLast?_eq_getElem?]
 congr 1
 omega
theorem mulR {a b A B : Int} (h1 : 0 ≤ a) (h2 : a ≤ A) (h3 : 0 ≤ b) (h4 : b ≤ B) : 0 ≤ a * b ∧ a * b ≤ A * B :=
 ⟨Int.mul_nonneg h1 h3, Int.mul_le_mul h2 h4 h3 (Int.le_trans h1 h2)⟩
def m7 (aO : Int) (ej : Int) (bd : Int) : Option (Bool) := cond (decide (aO ≤ ej)) (some (decide (ej ≤ bd))) (some false)
theorem qq (aO : Int) (ej : Int) (bd : Int) (R : Bool) (h : m7 aO ej bd = some R) : ad Tryz.prog G0 112 [.lit (.int .i64 aO), .lit (.int .i64 ej), .lit (.int .i64 bd)] (.tree (.lit (.bool R))) := by
 refine ad.runR mixed Tryz.call112 Tryz.func112 rfl (by simp [Tryz.ntmps112]; kernel_rfl) ?_
 obtain ⟨KF, h, kF, kN⟩ := dC h
 simp only [m7] at h
 cases d1 : (decide (aO ≤ ej))
 ·simp only [d1, hs] at h
  try simp only [vz, tyf, d1, nm, seval]
  obtain rfl := kF _ h
  exact bk Tryz.results112 rfl
 simp only [d1, hs] at h
 try simp only [vz, tyf, d1, nm, seval]
 obtain rfl := kF _ h
 exact bk Tryz.results112 rfl
def wN (aO : Int) (bd : Int) : List Int → Int → Option (LOut (Bool) (Unit))
 | [], im => some (.go ())
 | e0 :: p0, im => Option.bind (m7 aO e0 bd) (fun r1 => cond (r1) (wN aO bd p0 (im + 1)) (some (.ret false)))
def tB (aO : Int) (ah : List Int) (bd : Int) : Option (Bool) := cond (lenOk ah) (lbind (wN aO bd ah 0) (fun r3 => some r3) (fun c2 => some true) (fun _ _ => none)) none
theorem ET (aO : Int) (ah : List Int) (bd : Int) (R : Bool) (h : tB aO ah bd = some R) : ad Tryz.prog G0 147 [.lit (.int .i64 aO), .sl (aa eI ah) (List.length ah) false, .lit (.int .i64 bd)] (.tree (.lit (.bool R))) := by
 refine ad.runR mixed Tryz.call147 Tryz.func147 rfl (by simp [Tryz.ntmps147]; kernel_rfl) ?_
 obtain ⟨KF, h, kF, kN⟩ := dC h
 simp only [tB] at h
 cases g5 : (lenOk ah)
 ·simp only [g5, hs] at h
  exact absurd h kN
 simp only [g5, hs] at h
 simp only [vz, tyf, g5, nm, seval]
 obtain ⟨K4, h, R7, Kv, Vy, Dl⟩ := fW h kN
 obtain ⟨f4, Kw, h⟩ := call2 h
 obtain ⟨I4, uX⟩ : ∃ I : Nat → St → Prop, I = (fun m st => ∃ (p4 : List Int) (gD : Int), m = List.length p4 ∧ 0 ≤ gD ∧ List.drop (Int.toNat gD) ah = p4 ∧ st.df = [] ∧ 4 ≤ st.nx ∧ st.tm 0 = .lit (.int .i64 aO) ∧ st.tm 2 = .lit (.int .i64 bd) ∧ st.tm 9 = .sl (aa eI ah) (List.length ah) false ∧ st.tm 10 = .lit (.int .i64 (List.length ah : Int)) ∧ st.tm 11 = .lit (.int .i64 gD) ∧ K4 (f4 p4 gD)) := ⟨_, rfl⟩
 refine loopK mixed (by kernel_rfl) I4 (List.length ah) (by rw [uX]; refine ⟨ah, 0, rfl, qZf _, rfl, rfl, (show 4 ≤ 4 by omega), ?_, ?_, ?_, ?_, ?_, h⟩ <;> first | (simp only [ua, nm, seval] <;> rfl) | rfl) ?_
 rintro m ⟨tm, H, AX, df⟩ hinv
 rw [uX] at hinv
 obtain ⟨p4, gD, rfl, wO, AY, hdf, Kx, e6, e7, e8, e9, aZ, h⟩ := hinv
 simp only at hdf Kx e6 e7 e8 e9 aZ
 have jF := fX (m := 4) (b := AX) (by omega)
 subst hdf Kw
 cases p4 with
 | nil =>
  have bz : (decide (gD < (List.length ah : Int))) = false := fc wO AY
  simp only [wN, hs, reduceCtorEq] at h
  replace h := Kv _ h
  try dsimp only at h
  try simp only [hs] at h
  try simp only [vz, tyf, g5, jF, e6, e7, e8, e9, aZ, bz, nm, seval]
  obtain rfl := kF _ h
  exact bk Tryz.results147 rfl
 | cons e4 p4 =>
  have br : (decide (gD < (List.length ah : Int))) = true := fb wO AY
  have ly := dZ wO AY
  have mN := fe wO AY g5
  simp only [wN, hs, reduceCtorEq] at h
  obtain ⟨s9, zk, h⟩ := optI h Dl
  try simp only [hs] at h
  simp only [vz, tyf, g5, jF, e6, e7, e8, e9, aZ, br, (aA ly), mN, nm, seval]
  refine ktA (qq _ _ _ _ zk) ?_
  refine bw (fun tm => tm 0 = .lit (.int .i64 aO) ∧ tm 2 = .lit (.int .i64 bd) ∧ tm 9 = .sl (aa eI ah) (List.length ah) false ∧ tm 10 = .lit (.int .i64 (List.length ah : Int)) ∧ tm 11 = .lit (.int .i64 gD) ∧ tm 18 = .lit (.bool s9) ∧ True) (by refine ⟨e6, e7, e8, e9, aZ, ?_, trivial⟩ <;> first | (simp only [ua, jF, e6, e7, e8, e9, aZ, br, mN, nm, seval] <;> rfl) | rfl) ?_
  rintro tm ⟨cj, dv, gJ, dQ, cg, cZ, _⟩
  cases lG : (s9)
  ·simp only [lG, hs] at h
   try simp only [vz, tyf, g5, jF, br, (aA ly), mN, cj, dv, gJ, dQ, cg, cZ, lG, nm, seval]
   replace h := R7 _ h
   try dsimp only at h
   obtain rfl := kF _ h
   exact bk Tryz.results147 rfl
  simp only [lG, hs] at h
  simp only [vz, tyf, g5, jF, br, (aA ly), mN, cj, dv, gJ, dQ, cg, cZ, lG, nm, seval]
  exact ⟨List.length p4, qZc _, by rw [uX]; refine ⟨p4, gD + 1, rfl, Int.le_trans wO (Int.le_add_one (qZf _)), bW wO AY, rfl, (show 4 ≤ AX + 11 by omega), cj, dv, gJ, dQ, ?_, (by first | exact h | (simp only [br, lG]; exact h))⟩ <;> first | (simp only [ua, jF, br, mN, cj, dv, gJ, dQ, cg, cZ, lG, nm, seval] <;> rfl) | rfl⟩
def xV (cv : List Int) : Option (Bool) := Option.bind (m7 1 (List.length cv : Int) 6) (fun r1 => cond (r1) (Option.bind (tB 1 cv 20) (fun r2 => some r2)) (some false))
theorem T7 (cv : List Int) (R : Bool) (h : xV cv = some R) : ad Tryz.prog G0 109 [.sl (aa eI cv) (List.length cv) false] (.tree (.lit (.bool R))) := by
 refine ad.runR mixed Tryz.call109 Tryz.func109 rfl (by simp [Tryz.ntmps109]; kernel_rfl) ?_
 obtain ⟨KF, h, kF, kN⟩ := dC h
 simp only [xV] at h
 obtain ⟨r3, o4, h⟩ := optI h kN
 try simp only [hs] at h
 simp only [vz, tyf, nm, seval]
 refine ktA (qq _ _ _ _ o4) ?_
 refine bw (fun tm => tm 0 = .sl (aa eI cv) (List.length cv) false ∧ tm 5 = .lit (.bool r3) ∧ True) (by refine ⟨?_, ?_, trivial⟩ <;> first | (simp only [ua, nm, seval] <;> rfl) | rfl) ?_
 rintro tm ⟨e5, e6, _⟩
 cases d7 : (r3)
 ·simp only [d7, hs] at h
  try simp only [vz, tyf, e5, e6, d7, nm, seval]
  obtain rfl := kF _ h
  exact bk Tryz.results109 rfl
 simp only [d7, hs] at h
 obtain ⟨r8, o9, h⟩ := optI h kN
 try simp only [hs] at h
 simp only [vz, tyf, e5, e6, d7, nm, seval]
 refine ktA (ET _ _ _ _ o9) ?_
 refine bw (fun tm => tm 6 = .lit (.bool true) ∧ tm 8 = .lit (.bool r8) ∧ True) (by refine ⟨?_, ?_, trivial⟩ <;> first | (simp only [ua, e5, e6, d7, nm, seval] <;> rfl) | rfl) ?_
 rintro tm ⟨aZ, bc, _⟩
 try simp only [vz, tyf, d7, aZ, bc, nm, seval]
 obtain rfl := kF _ h
 exact bk Tryz.results109 rfl
def t7 (aO : Int) (bF : GSpan) (bd : Int) : Option (Bool) := cond (decide (aO ≤ bF.Low)) (cond (decide (bF.Low ≤ bF.High)) (some (decide (bF.High ≤ bd))) (some false)) (some false)
theorem EO (aO : Int) (bF : GSpan) (bd : Int) (R : Bool) (h : t7 aO bF bd = some R) : ad Tryz.prog G0 111 [.lit (.int .i64 aO), .agg (cGSpan bF), .lit (.int .i64 bd)] (.tree (.lit (.bool R))) := by
 refine ad.runR mixed Tryz.call111 Tryz.func111 rfl (by simp [Tryz.ntmps111]; kernel_rfl) ?_
 obtain ⟨KF, h, kF, kN⟩ := dC h
 simp only [t7] at h
 cases d1 : (decide (aO ≤ bF.Low))
 ·simp only [d1, hs] at h
  try simp only [vz, tyf, d1, nm, seval]
  obtain rfl := kF _ h
  exact bk Tryz.results111 rfl
 simp only [d1, hs] at h
 cases d2 : (decide (bF.Low ≤ bF.High))
 ·simp only [d2, hs] at h
  try simp only [vz, tyf, d1, d2, nm, seval]
  obtain rfl := kF _ h
  exact bk Tryz.results111 rfl
 simp only [d2, hs] at h
 try simp only [vz, tyf, d1, d2, nm, seval]
 obtain rfl := kF _ h
 exact bk Tryz.results111 rfl
def xH (dP : Int) : Option (Bool) := some (dP != dP)
theorem PU (dP : Int) (R : Bool) (h : xH dP = some R) : ad Tryz.prog G0 154 [.lit (.int .i64 dP)] (.tree (.lit (.bool R))) := by
 refine ad.runR mixed Tryz.call154 Tryz.func154 rfl (by simp [Tryz.ntmps154]; kernel_rfl) ?_
 obtain ⟨KF, h, kF, kN⟩ := dC h
 simp only [xH] at h
 try simp only [vz, tyf, nm, seval]
 obtain rfl := kF _ h
 exact bk Tryz.results154 rfl
end Go.V
end
