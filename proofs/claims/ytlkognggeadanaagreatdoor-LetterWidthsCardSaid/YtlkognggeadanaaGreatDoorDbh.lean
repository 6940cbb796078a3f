/- Part of a proof. -/
import Derived.Test.YtlkognggeadanaaGreatDoorDbg
import Derived.Test.YtlkognggeadanaaGreatDoorDay
import Derived.Test.YtlkognggeadanaaGreatDoorProg
set_option linter.all false
set_option maxRecDepth 4000
set_option maxHeartbeats 40000000
section
namespace Go.V
open Go Go.Proofs IntKind
theorem mixed : Tryz.prog.follows .mixedOrders = true := by kernel_rfl
structure GSpan where
 Low : Int
 High : Int
 deriving Inhabited, DecidableEq
def cGSpan (x : GSpan) : List VV := [.lit (.int .i64 x.Low), .lit (.int .i64 x.High)]
theorem wh {x : GSpan} : cGSpan x = [.lit (.int .i64 x.Low), .lit (.int .i64 x.High)] := rfl
theorem di : EncOk cGSpan := EncOk.of (fun x => by simp only [wh, tre, Bool.and_self]) (fun x => by simp only [wh, nrm]) (fun x H d => by simp only [wh, nrm, List.map_cons, List.map_nil])
structure GLp where
 Left : Int
 Right : Int
 Space : GSpan
 deriving Inhabited, DecidableEq
def cGLp (x : GLp) : List VV := [.lit (.int .i64 x.Left), .lit (.int .i64 x.Right), .lit (.int .i64 x.Space.Low), .lit (.int .i64 x.Space.High)]
theorem AS {x : GLp} : cGLp x = [.lit (.int .i64 x.Left), .lit (.int .i64 x.Right), .lit (.int .i64 x.Space.Low), .lit (.int .i64 x.Space.High)] := rfl
theorem ed : EncOk cGLp := EncOk.of (fun x => by simp only [AS, tre, di.tree, di.treeL, Bool.and_self]) (fun x => by simp only [AS, nrm, di.norm, di.normL, di.shown, di.showL]) (fun x H d => by simp only [AS, nrm, List.map_cons, List.map_nil])
structure GLw where
 Signs : List Int
 Cuts : List Int
 Free : Bool
 deriving Inhabited, DecidableEq
def cGLw (x : GLw) : List VV := [.sl (aa eI x.Signs) (List.length x.Signs) false, .sl (aa eI x.Cuts) (List.length x.Cuts) false, .lit (.bool x.Free)]
theorem AT {x : GLw} : cGLw x = [.sl (aa eI x.Signs) (List.length x.Signs) false, .sl (aa eI x.Cuts) (List.length x.Cuts) false, .lit (.bool x.Free)] := rfl
theorem fh : EncOk cGLw := EncOk.of (fun x => by simp only [AT, tre, di.tree, di.treeL, ed.tree, ed.treeL, Bool.and_self]) (fun x => by simp only [AT, nrm, di.norm, di.normL, di.shown, di.showL, ed.norm, ed.normL, ed.shown, ed.showL]) (fun x H d => by simp only [AT, nrm, List.map_cons, List.map_nil])
structure GLs where
 Widths : List Int
 Pairs : List GLp
 Other : GSpan
 Gap : GSpan
 Hyphen : Int
 Words : List GLw
 Wide : Int
 Rows : Int
 deriving Inhabited, DecidableEq
def cGLs (x : GLs) : List VV := [.sl (aa eI x.Widths) (List.length x.Widths) false, .sl (aa cGLp x.Pairs) (List.length x.Pairs) false, .lit (.int .i64 x.Other.Low), .lit (.int .i64 x.Other.High), .lit (.int .i64 x.Gap.Low), .lit (.int .i64 x.Gap.High), .lit (.int .i64 x.Hyphen), .sl (aa cGLw x.Words) (List.length x.Words) false, .lit (.int .i64 x.Wide), .lit (.int .i64 x.Rows)]
theorem AU {x : GLs} : cGLs x = [.sl (aa eI x.Widths) (List.length x.Widths) false, .sl (aa cGLp x.Pairs) (List.length x.Pairs) false, .lit (.int .i64 x.Other.Low), .lit (.int .i64 x.Other.High), .lit (.int .i64 x.Gap.Low), .lit (.int .i64 x.Gap.High), .lit (.int .i64 x.Hyphen), .sl (aa cGLw x.Words) (List.length x.Words) false, .lit (.int .i64 x.Wide), .lit (.int .i64 x.Rows)] := rfl
theorem gd : EncOk cGLs := EncOk.of (fun x => by simp only [AU, tre, di.tree, di.treeL, ed.tree, ed.treeL, fh.tree, fh.treeL, Bool.and_self]) (fun x => by simp only [AU, nrm, di.norm, di.normL, di.shown, di.showL, ed.norm, ed.normL, ed.shown, ed.showL, fh.norm, fh.normL, fh.shown, fh.showL]) (fun x H d => by simp only [AU, nrm, List.map_cons, List.map_nil])
structure GLe where
 Word : Int
 Letters : Int
 deriving Inhabited, DecidableEq
def cGLe (x : GLe) : List VV := [.lit (.int .i64 x.Word), .lit (.int .i64 x.Letters)]
theorem yL {x : GLe} : cGLe x = [.lit (.int .i64 x.Word), .lit (.int .i64 x.Letters)] := rfl
theorem gI : EncOk cGLe := EncOk.of (fun x => by simp only [yL, tre, di.tree, di.treeL, ed.tree, ed.treeL, fh.tree, fh.treeL, gd.tree, gd.treeL, Bool.and_self]) (fun x => by simp only [yL, nrm, di.norm, di.normL, di.shown, di.showL, ed.norm, ed.normL, ed.shown, ed.showL, fh.norm, fh.normL, fh.shown, fh.showL, gd.norm, gd.normL, gd.shown, gd.showL]) (fun x H d => by simp only [yL, nrm, List.map_cons, List.map_nil])
structure GLx where
 Out : List Int
 Ends : List GLe
 deriving Inhabited, DecidableEq
def cGLx (x : GLx) : List VV := [.sl (aa eI x.Out) (List.length x.Out) false, .sl (aa cGLe x.Ends) (List.length x.Ends) false]
theorem AV {x : GLx} : cGLx x = [.sl (aa eI x.Out) (List.length x.Out) false, .sl (aa cGLe x.Ends) (List.length x.Ends) false] := rfl
theorem j2 : EncOk cGLx := EncOk.of (fun x => by simp only [AV, tre, di.tree, di.treeL, ed.tree, ed.treeL, fh.tree, fh.treeL, gd.tree, gd.treeL, gI.tree, gI.treeL, Bool.and_self]) (fun x => by simp only [AV, nrm, di.norm, di.normL, di.shown, di.showL, ed.norm, ed.normL, ed.shown, ed.showL, fh.norm, fh.normL, fh.shown, fh.showL, gd.norm, gd.normL, gd.shown, gd.showL, gI.norm, gI.normL, gI.shown, gI.showL]) (fun x H d => by simp only [AV, nrm, List.map_cons, List.map_nil])
structure Grl where
 Word : Int
 Sign : Int
 deriving Inhabited, DecidableEq
def cGrl (x : Grl) : List VV := [.lit (.int .i64 x.Word), .lit (.int .i64 x.Sign)]
theorem AW {x : Grl} : cGrl x = [.lit (.int .i64 x.Word), .lit (.int .i64 x.Sign)] := rfl
theorem jU : EncOk cGrl := EncOk.of (fun x => by simp only [AW, tre, di.tree, di.treeL, ed.tree, ed.treeL, fh.tree, fh.treeL, gd.tree, gd.treeL, gI.tree, gI.treeL, j2.tree, j2.treeL, Bool.and_self]) (fun x => by simp only [AW, nrm, di.norm, di.normL, di.shown, di.showL, ed.norm, ed.normL, ed.shown, ed.showL, fh.norm, fh.normL, fh.shown, fh.showL, gd.norm, gd.normL, gd.shown, gd.showL, gI.norm, gI.normL, gI.shown, gI.showL, j2.norm, j2.normL, j2.shown, j2.showL]) (fun x H d => by simp only [AW, nrm, List.map_cons, List.map_nil])
structure Glm where
 word : Int
 sign : Int
 row : Int
 hyphen : Bool
 deriving Inhabited, DecidableEq
def cGlm (x : Glm) : List VV := [.lit (.int .i64 x.word), .lit (.int .i64 x.sign), .lit (.int .i64 x.row), .lit (.bool x.hyphen)]
theorem AX {x : Glm} : cGlm x = [.lit (.int .i64 x.word), .lit (.int .i64 x.sign), .lit (.int .i64 x.row), .lit (.bool x.hyphen)] := rfl
theorem mT : EncOk cGlm := EncOk.of (fun x => by simp only [AX, tre, di.tree, di.treeL, ed.tree, ed.treeL, fh.tree, fh.treeL, gd.tree, gd.treeL, gI.tree, gI.treeL, j2.tree, j2.treeL, jU.tree, jU.treeL, Bool.and_self]) (fun x => by simp only [AX, nrm, di.norm, di.normL, di.shown, di.showL, ed.norm, ed.normL, ed.shown, ed.showL, fh.norm, fh.normL, fh.shown, fh.showL, gd.norm, gd.normL, gd.shown, gd.showL, gI.norm, gI.normL, gI.shown, gI.showL, j2.norm, j2.normL, j2.shown, j2.showL, jU.norm, jU.normL, jU.shown, jU.showL]) (fun x H d => by simp only [AX, nrm, List.map_cons, List.map_nil])
structure Glp where
 left : Int
 right : Int
 deriving Inhabited, DecidableEq
def cGlp (x : Glp) : List VV := [.lit (.int .i64 x.left), .lit (.int .i64 x.right)]
theorem Fj {x : Glp} : cGlp x = [.lit (.int .i64 x.left), .lit (.int .i64 x.right)] := rfl
theorem va : EncOk cGlp := EncOk.of (fun x => by simp only [Fj, tre, di.tree, di.treeL, ed.tree, ed.treeL, fh.tree, fh.treeL, gd.tree, gd.treeL, gI.tree, gI.treeL, j2.tree, j2.treeL, jU.tree, jU.treeL, mT.tree, mT.treeL, Bool.and_self]) (fun x => by simp only [Fj, nrm, di.norm, di.normL, di.shown, di.showL, ed.norm, ed.normL, ed.shown, ed.showL, fh.norm, fh.normL, fh.shown, fh.showL, gd.norm, gd.normL, gd.shown, gd.showL, gI.norm, gI.normL, gI.shown, gI.showL, j2.norm, j2.normL, j2.shown, j2.showL, jU.norm, jU.normL, jU.shown, jU.showL, mT.norm, mT.normL, mT.shown, mT.showL]) (fun x H d => by simp only [Fj, nrm, List.map_cons, List.map_nil])
def du (k : Glp) : Value := .agg ⟨[.int .i64 k.left, .int .i64 k.right]⟩
def gn (n : GSpan) : VV := .agg (cGSpan n)
theorem rH {l : List (Glp × GSpan)} : (VV.mt (mtK du l) (mtV gn l)).tree = true := mt_tr fun v => by simp only [gn, tre, di.tree, di.treeL, ed.tree, ed.treeL, fh.tree, fh.treeL, gd.tree, gd.treeL, gI.tree, gI.treeL, j2.tree, j2.treeL, jU.tree, jU.treeL, mT.tree, mT.treeL, va.tree, va.treeL, Bool.and_self]
structure Gld where
 ls : GLs
 lx : GLx
 stretch : Int
 spaces : List (Glp × GSpan)
 marks : List Glm
 deriving Inhabited, DecidableEq
def cGld (x : Gld) : List VV := [.sl (aa eI x.ls.Widths) (List.length x.ls.Widths) false, .sl (aa cGLp x.ls.Pairs) (List.length x.ls.Pairs) false, .lit (.int .i64 x.ls.Other.Low), .lit (.int .i64 x.ls.Other.High), .lit (.int .i64 x.ls.Gap.Low), .lit (.int .i64 x.ls.Gap.High), .lit (.int .i64 x.ls.Hyphen), .sl (aa cGLw x.ls.Words) (List.length x.ls.Words) false, .lit (.int .i64 x.ls.Wide), .lit (.int .i64 x.ls.Rows), .sl (aa eI x.lx.Out) (List.length x.lx.Out) false, .sl (aa cGLe x.lx.Ends) (List.length x.lx.Ends) false, .lit (.int .i64 x.stretch), .mt (mtK du x.spaces) (mtV gn x.spaces), .sl (aa cGlm x.marks) (List.length x.marks) false]
theorem Fk {x : Gld} : cGld x = [.sl (aa eI x.ls.Widths) (List.length x.ls.Widths) false, .sl (aa cGLp x.ls.Pairs) (List.length x.ls.Pairs) false, .lit (.int .i64 x.ls.Other.Low), .lit (.int .i64 x.ls.Other.High), .lit (.int .i64 x.ls.Gap.Low), .lit (.int .i64 x.ls.Gap.High), .lit (.int .i64 x.ls.Hyphen), .sl (aa cGLw x.ls.Words) (List.length x.ls.Words) false, .lit (.int .i64 x.ls.Wide), .lit (.int .i64 x.ls.Rows), .sl (aa eI x.lx.Out) (List.length x.lx.Out) false, .sl (aa cGLe x.lx.Ends) (List.length x.lx.Ends) false, .lit (.int .i64 x.stretch), .mt (mtK du x.spaces) (mtV gn x.spaces), .sl (aa cGlm x.marks) (List.length x.marks) false] := rfl
theorem Hm : EncOk cGld := EncOk.of (fun x => by simp only [Fk, tre, di.tree, di.treeL, ed.tree, ed.treeL, fh.tree, fh.treeL, gd.tree, gd.treeL, gI.tree, gI.treeL, j2.tree, j2.treeL, jU.tree, jU.treeL, mT.tree, mT.treeL, va.tree, va.treeL, rH, Bool.and_self]) (fun x => by simp only [Fk, nrm, di.norm, di.normL, di.shown, di.showL, ed.norm, ed.normL, ed.shown, ed.showL, fh.norm, fh.normL, fh.shown, fh.showL, gd.norm, gd.normL, gd.shown, gd.showL, gI.norm, gI.normL, gI.shown, gI.showL, j2.norm, j2.normL, j2.shown, j2.showL, jU.norm, jU.normL, jU.shown, jU.showL, mT.norm, mT.normL, mT.shown, mT.showL, va.norm, va.normL, va.shown, va.showL, Fl, AY]) (fun x H d => by simp only [Fk, nrm, List.map_cons, List.map_nil, AY])
theorem wj : EncOk (eSl cGrl) := EncOk.sl jU
theorem VW {c : VV} {cs : List VV} : aU Tryz.prog 3 (c :: cs) = some c := by
 have h1 : aggT Tryz.prog 3 = some false := by kernel_rfl
 simp [aU, vpart, h1]
theorem VX : szT Tryz.prog 3 = some 1 := by kernel_rfl
theorem Ho : vzl Tryz.prog 3 = some [.lit (.int .i64 0)] := by kernel_rfl
theorem VY {c : VV} {cs : List VV} : aU Tryz.prog 4 (c :: cs) = some c := by
 have h1 : aggT Tryz.prog 4 = some false := by kernel_rfl
 simp [aU, vpart, h1]
theorem VZ : szT Tryz.prog 4 = some 1 := by kernel_rfl
theorem Hp : vzl Tryz.prog 4 = some [.lit (.bool false)] := by kernel_rfl
theorem Hq {c : VV} {cs : List VV} : aU Tryz.prog 22 (c :: cs) = some c := by
 have h1 : aggT Tryz.prog 22 = some false := by kernel_rfl
 simp [aU, vpart, h1]
theorem AZ {H : Nat → Option VObj} {cs : List VV} {n : Nat} {f : Bool} : vlen Tryz.prog H 22 (.sl cs n f) = some (.lit (.int .i64 n)) := by simp [vlen, Tryz.underlying22, sls]
theorem lenN22 {H : Nat → Option VObj} : vlen Tryz.prog H 22 (.lit (.slice none 0 0)) = some (.lit (.int .i64 0)) := by simp [vlen, Tryz.underlying22, sls]
theorem lenR22 {H : Nat → Option VObj} {β off n w c : Nat} : vlen Tryz.prog H 22 (.ref β off n w c) = (match H β with | some (.cells _ cs) => if off ≤ cs.length then some (.lit (.int .i64 n)) else none | _ => none) := lenR Tryz.underlying22
theorem fw : elemT Tryz.prog 22 = some 3 := by simp [elemT, Tryz.underlying22]
theorem ji : appOk Tryz.prog 22 = some (3, 1, 8) := by kernel_rfl
theorem Hr {xs : List Int} : (aa eI xs).take (xs.length * 1) = aa eI xs := Ba (fun _ => rfl)
theorem jG : ∀ x : Int, leafL (eI x) = true := fun x => by simp only [eI_eq, pS, eB_eq, eS_eq, pT, kV, kW, yM, yN, yO, yP, yQ, Bool.and_self]
theorem vb {xs : List Int} {x : Int} {i : Int} (h : getI xs i = some x) : (∀ (H : Nat → Option VObj) (β c : Nat) (k : IntKind), aC Tryz.prog H 22 (.ref β 0 xs.length 1 c) (.lit (.int k i)) = if (H β).isSome = true then some (.ptr β (i.toNat * 1)) else none) ∧ (aa eI xs).drop (i.toNat * 1) = eI x ++ aa eI (xs.drop (i.toNat + 1)) ∧ (i.toNat * 1 ≤ (aa eI xs).length) = True := ixO Tryz.underlying22 (by kernel_rfl : szT Tryz.prog 3 = some 1) (fun _ => rfl) h
theorem Hs {a0 : VV} (h : leafL [a0] = true) : aJ Tryz.prog 22 1 [(0, a0)] = some ([a0], 1) := by
 have h2 : szT Tryz.prog 3 = some 1 := by kernel_rfl
 have h3 : vzero Tryz.prog 3 = some #[.int .i64 0] := by kernel_rfl
 simp only [kW, kV, Bool.and_true, Bool.and_eq_true] at h
 simp [aJ, Tryz.underlying22, h2, h3, vfill, vcells1, h, overwrite, vzeros, List.range_succ]
theorem Ht {a0 a1 : VV} (h : leafL [a0, a1] = true) : aJ Tryz.prog 22 2 [(0, a0), (1, a1)] = some ([a0, a1], 1) := by
 have h2 : szT Tryz.prog 3 = some 1 := by kernel_rfl
 have h3 : vzero Tryz.prog 3 = some #[.int .i64 0] := by kernel_rfl
 simp only [kW, kV, Bool.and_true, Bool.and_eq_true] at h
 simp [aJ, Tryz.underlying22, h2, h3, vfill, vcells1, h, overwrite, vzeros, List.range_succ]
theorem au {H : Nat → Option VObj} {xs : List Int} {x : Int} {f : Bool} {k : IntKind} {i : Int} (h : getI xs i = some x) : aC Tryz.prog H 22 (.sl (aa eI xs) xs.length f) (.lit (.int k i)) = some (.tp (eI x ++ aa eI (xs.drop (i.toNat + 1)))) :=
 ixG Tryz.underlying22 (by kernel_rfl : szT Tryz.prog 3 = some 1) (by decide) (fun _ => rfl) h
theorem Hu {c : VV} {cs : List VV} : aU Tryz.prog 23 (c :: cs) = some c := by
 have h1 : aggT Tryz.prog 23 = some false := by kernel_rfl
 simp [aU, vpart, h1]
theorem Bb {H : Nat → Option VObj} {cs : List VV} {n : Nat} {f : Bool} : vlen Tryz.prog H 23 (.sl cs n f) = some (.lit (.int .i64 n)) := by simp [vlen, Tryz.underlying23, sls]
theorem lenN23 {H : Nat → Option VObj} : vlen Tryz.prog H 23 (.lit (.slice none 0 0)) = some (.lit (.int .i64 0)) := by simp [vlen, Tryz.underlying23, sls]
theorem lenR23 {H : Nat → Option VObj} {β off n w c : Nat} : vlen Tryz.prog H 23 (.ref β off n w c) = (match H β with | some (.cells _ cs) => if off ≤ cs.length then some (.lit (.int .i64 n)) else none | _ => none) := lenR Tryz.underlying23
theorem bY {H : Nat → Option VObj} {xs : List GLp} {x : GLp} {f : Bool} {k : IntKind} {i : Int} (h : getI xs i = some x) : aC Tryz.prog H 23 (.sl (aa cGLp xs) xs.length f) (.lit (.int k i)) = some (.tp (cGLp x ++ aa cGLp (xs.drop (i.toNat + 1)))) :=
 ixG Tryz.underlying23 (by kernel_rfl : szT Tryz.prog 108 = some 4) (by decide) (fun _ => rfl) h
theorem Hv {c0 c1 : VV} {cs : List VV} : aU Tryz.prog 25 (c0 :: c1 :: cs) = some (.agg [c0, c1]) := by
 have h1 : aggT Tryz.prog 25 = some true := by kernel_rfl
 have h2 : szT Tryz.prog 25 = some 2 := by kernel_rfl
 simp [aU, vpart, h1, h2]
theorem Hw : szT Tryz.prog 25 = some 2 := by kernel_rfl
theorem Bc : vzl Tryz.prog 25 = some [.lit (.int .i64 0), .lit (.int .i64 0)] := by kernel_rfl
theorem Hx {H : Nat → Option VObj} {β o : Nat} : ae Tryz.prog H 25 (.ptr β o) 0 = if (H β).isSome = true then some (.ptr β (o + 0)) else none := by
 have h2 : szT Tryz.prog 3 = some 1 := by kernel_rfl
 simp [ae, Tryz.underlying25, h2]
theorem Hy {H : Nat → Option VObj} {β o : Nat} : ae Tryz.prog H 25 (.ptr β o) 1 = if (H β).isSome = true then some (.ptr β (o + 1)) else none := by
 have h2 : szT Tryz.prog 3 = some 1 := by kernel_rfl
 simp [ae, Tryz.underlying25, h2]
theorem Hz {c : VV} {cs : List VV} : aU Tryz.prog 26 (c :: cs) = some c := by
 have h1 : aggT Tryz.prog 26 = some false := by kernel_rfl
 simp [aU, vpart, h1]
theorem Bd {H : Nat → Option VObj} {cs : List VV} {n : Nat} {f : Bool} : vlen Tryz.prog H 26 (.sl cs n f) = some (.lit (.int .i64 n)) := by simp [vlen, Tryz.underlying26, sls]
theorem lenN26 {H : Nat → Option VObj} : vlen Tryz.prog H 26 (.lit (.slice none 0 0)) = some (.lit (.int .i64 0)) := by simp [vlen, Tryz.underlying26, sls]
theorem lenR26 {H : Nat → Option VObj} {β off n w c : Nat} : vlen Tryz.prog H 26 (.ref β off n w c) = (match H β with | some (.cells _ cs) => if off ≤ cs.length then some (.lit (.int .i64 n)) else none | _ => none) := lenR Tryz.underlying26
theorem aq {H : Nat → Option VObj} {xs : List GLw} {x : GLw} {f : Bool} {k : IntKind} {i : Int} (h : getI xs i = some x) : aC Tryz.prog H 26 (.sl (aa cGLw xs) xs.length f) (.lit (.int k i)) = some (.tp (cGLw x ++ aa cGLw (xs.drop (i.toNat + 1)))) :=
 ixG Tryz.underlying26 (by kernel_rfl : szT Tryz.prog 79 = some 3) (by decide) (fun _ => rfl) h
theorem H2 {c0 c1 c2 c3 c4 c5 c6 c7 c8 c9 : VV} {cs : List VV} : aU Tryz.prog 28 (c0 :: c1 :: c2 :: c3 :: c4 :: c5 :: c6 :: c7 :: c8 :: c9 :: cs) = some (.agg [c0, c1, c2, c3, c4, c5, c6, c7, c8, c9]) := by
 have h1 : aggT Tryz.prog 28 = some true := by kernel_rfl
 have h2 : szT Tryz.prog 28 = some 10 := by kernel_rfl
 simp [aU, vpart, h1, h2]
theorem H3 {H : Nat → Option VObj} {β o : Nat} : ae Tryz.prog H 28 (.ptr β o) 0 = if (H β).isSome = true then some (.ptr β (o + 0)) else none := by
 have h2 : szT Tryz.prog 22 = some 1 := by kernel_rfl
 simp [ae, Tryz.underlying28, h2]
theorem H4 {H : Nat → Option VObj} {β o : Nat} : ae Tryz.prog H 28 (.ptr β o) 1 = if (H β).isSome = true then some (.ptr β (o + 1)) else none := by
 have h2 : szT Tryz.prog 23 = some 1 := by kernel_rfl
 simp [ae, Tryz.underlying28, h2]
theorem HA {H : Nat → Option VObj} {β o : Nat} : ae Tryz.prog H 28 (.ptr β o) 2 = if (H β).isSome = true then some (.ptr β (o + 2)) else none := by
 have h2 : szT Tryz.prog 25 = some 2 := by kernel_rfl
 simp [ae, Tryz.underlying28, h2]
theorem HB {H : Nat → Option VObj} {β o : Nat} : ae Tryz.prog H 28 (.ptr β o) 3 = if (H β).isSome = true then some (.ptr β (o + 4)) else none := by
 have h2 : szT Tryz.prog 25 = some 2 := by kernel_rfl
 simp [ae, Tryz.underlying28, h2]
theorem HC {H : Nat → Option VObj} {β o : Nat} : ae Tryz.prog H 28 (.ptr β o) 4 = if (H β).isSome = true then some (.ptr β (o + 6)) else none := by
 have h2 : szT Tryz.prog 3 = some 1 := by kernel_rfl
 simp [ae, Tryz.underlying28, h2]
theorem HD {H : Nat → Option VObj} {β o : Nat} : ae Tryz.prog H 28 (.ptr β o) 5 = if (H β).isSome = true then some (.ptr β (o + 7)) else none := by
 have h2 : szT Tryz.prog 26 = some 1 := by kernel_rfl
 simp [ae, Tryz.underlying28, h2]
theorem HE {H : Nat → Option VObj} {β o : Nat} : ae Tryz.prog H 28 (.ptr β o) 6 = if (H β).isSome = true then some (.ptr β (o + 8)) else none := by
 have h2 : szT Tryz.prog 3 = some 1 := by kernel_rfl
 simp [ae, Tryz.underlying28, h2]
theorem HF {H : Nat → Option VObj} {cs : List VV} : ae Tryz.prog H 28 (.tp cs) 7 = some (.tp (cs.drop 9)) := by
 have h2 : szT Tryz.prog 3 = some 1 := by kernel_rfl
 simp [ae, Tryz.underlying28, h2]
theorem HG {H : Nat → Option VObj} {β o : Nat} : ae Tryz.prog H 28 (.ptr β o) 7 = if (H β).isSome = true then some (.ptr β (o + 9)) else none := by
 have h2 : szT Tryz.prog 3 = some 1 := by kernel_rfl
 simp [ae, Tryz.underlying28, h2]
theorem HH {c : VV} {cs : List VV} : aU Tryz.prog 29 (c :: cs) = some c := by
 have h1 : aggT Tryz.prog 29 = some false := by kernel_rfl
 simp [aU, vpart, h1]
theorem HI : szT Tryz.prog 29 = some 1 := by kernel_rfl
theorem Be : vzl Tryz.prog 29 = some [.lit (.slice none 0 0)] := by kernel_rfl
theorem Bf {H : Nat → Option VObj} {cs : List VV} {n : Nat} {f : Bool} : vlen Tryz.prog H 29 (.sl cs n f) = some (.lit (.int .i64 n)) := by simp [vlen, Tryz.underlying29, sls]
theorem lenN29 {H : Nat → Option VObj} : vlen Tryz.prog H 29 (.lit (.slice none 0 0)) = some (.lit (.int .i64 0)) := by simp [vlen, Tryz.underlying29, sls]
theorem lenR29 {H : Nat → Option VObj} {β off n w c : Nat} : vlen Tryz.prog H 29 (.ref β off n w c) = (match H β with | some (.cells _ cs) => if off ≤ cs.length then some (.lit (.int .i64 n)) else none | _ => none) := lenR Tryz.underlying29
theorem jj : elemT Tryz.prog 29 = some 100 := by simp [elemT, Tryz.underlying29]
theorem mU : appOk Tryz.prog 29 = some (100, 2, 16) := by kernel_rfl
theorem HJ {xs : List GLe} : (aa cGLe xs).take (xs.length * 2) = aa cGLe xs := Ba (fun _ => rfl)
theorem mV : ∀ x : GLe, leafL (cGLe x) = true := fun x => by simp only [eI_eq, pS, eB_eq, eS_eq, pT, yL, kV, kW, yM, yN, yO, yP, yQ, Bool.and_self]
theorem HK {c0 c1 : VV} (h : leafL [c0, c1] = true) : aJ Tryz.prog 29 1 [(0, .agg [c0, c1])] = some ([c0, c1], 2) := by
 have h2 : szT Tryz.prog 100 = some 2 := by kernel_rfl
 have h3 : vzero Tryz.prog 100 = some #[.int .i64 0, .int .i64 0] := by kernel_rfl
 simp only [kW, kV, Bool.and_true, Bool.and_eq_true] at h
 simp [aJ, Tryz.underlying29, h2, h3, vfill, aY, h, overwrite, vzeros]
theorem aV {H : Nat → Option VObj} {xs : List GLe} {x : GLe} {f : Bool} {k : IntKind} {i : Int} (h : getI xs i = some x) : aC Tryz.prog H 29 (.sl (aa cGLe xs) xs.length f) (.lit (.int k i)) = some (.tp (cGLe x ++ aa cGLe (xs.drop (i.toNat + 1)))) :=
 ixG Tryz.underlying29 (by kernel_rfl : szT Tryz.prog 100 = some 2) (by decide) (fun _ => rfl) h
theorem HL {c0 c1 : VV} {cs : List VV} : aU Tryz.prog 31 (c0 :: c1 :: cs) = some (.agg [c0, c1]) := by
 have h1 : aggT Tryz.prog 31 = some true := by kernel_rfl
 have h2 : szT Tryz.prog 31 = some 2 := by kernel_rfl
 simp [aU, vpart, h1, h2]
theorem Bg : vzl Tryz.prog 31 = some [.lit (.slice none 0 0), .lit (.slice none 0 0)] := by kernel_rfl
theorem HM {H : Nat → Option VObj} {β o : Nat} : ae Tryz.prog H 31 (.ptr β o) 0 = if (H β).isSome = true then some (.ptr β (o + 0)) else none := by
 have h2 : szT Tryz.prog 22 = some 1 := by kernel_rfl
 simp [ae, Tryz.underlying31, h2]
theorem HN {H : Nat → Option VObj} {β o : Nat} : ae Tryz.prog H 31 (.ptr β o) 1 = if (H β).isSome = true then some (.ptr β (o + 1)) else none := by
 have h2 : szT Tryz.prog 29 = some 1 := by kernel_rfl
 simp [ae, Tryz.underlying31, h2]
theorem Bh {H : Nat → Option VObj} {cs : List VV} {n : Nat} {f : Bool} : vlen Tryz.prog H 44 (.sl cs n f) = some (.lit (.int .i64 n)) := by simp [vlen, Tryz.underlying44, sls]
theorem lenN44 {H : Nat → Option VObj} : vlen Tryz.prog H 44 (.lit (.slice none 0 0)) = some (.lit (.int .i64 0)) := by simp [vlen, Tryz.underlying44, sls]
theorem lenR44 {H : Nat → Option VObj} {β off n w c : Nat} : vlen Tryz.prog H 44 (.ref β off n w c) = (match H β with | some (.cells _ cs) => if off ≤ cs.length then some (.lit (.int .i64 n)) else none | _ => none) := lenR Tryz.underlying44
theorem Bi {H : Nat → Option VObj} {cs : List VV} {n : Nat} {f : Bool} : vlen Tryz.prog H 47 (.sl cs n f) = some (.lit (.int .i64 n)) := by simp [vlen, Tryz.underlying47, sls]
theorem lenN47 {H : Nat → Option VObj} : vlen Tryz.prog H 47 (.lit (.slice none 0 0)) = some (.lit (.int .i64 0)) := by simp [vlen, Tryz.underlying47, sls]
theorem lenR47 {H : Nat → Option VObj} {β off n w c : Nat} : vlen Tryz.prog H 47 (.ref β off n w c) = (match H β with | some (.cells _ cs) => if off ≤ cs.length then some (.lit (.int .i64 n)) else none | _ => none) := lenR Tryz.underlying47
theorem tM : elemT Tryz.prog 47 = some 49 := by simp [elemT, Tryz.underlying47]
theorem Bj : appOk Tryz.prog 47 = some (49, 1, 24) := by kernel_rfl
theorem HO {xs : List (List Grl)} : (aa (eSl cGrl) xs).take (xs.length * 1) = aa (eSl cGrl) xs := Ba (fun _ => rfl)
theorem Bk : ∀ x : (List Grl), leafL ((eSl cGrl) x) = true := fun x => by simp only [eI_eq, pS, eB_eq, eS_eq, pT, kV, kW, yM, yN, yO, yP, yQ, Bool.and_self]
theorem HP {a0 : VV} (h : leafL [a0] = true) : aJ Tryz.prog 47 1 [(0, a0)] = some ([a0], 1) := by
 have h2 : szT Tryz.prog 49 = some 1 := by kernel_rfl
 have h3 : vzero Tryz.prog 49 = some #[.slice none 0 0] := by kernel_rfl
 simp only [kW, kV, Bool.and_true, Bool.and_eq_true] at h
 simp [aJ, Tryz.underlying47, h2, h3, vfill, vcells1, h, overwrite, vzeros, List.range_succ]
theorem ke {H : Nat → Option VObj} {xs : List (List Grl)} {x : (List Grl)} {f : Bool} {k : IntKind} {i : Int} (h : getI xs i = some x) : aC Tryz.prog H 47 (.sl (aa (eSl cGrl) xs) xs.length f) (.lit (.int k i)) = some (.tp ((eSl cGrl) x ++ aa (eSl cGrl) (xs.drop (i.toNat + 1)))) :=
 ixG Tryz.underlying47 (by kernel_rfl : szT Tryz.prog 49 = some 1) (by decide) (fun _ => rfl) h
theorem HQ {c : VV} {cs : List VV} : aU Tryz.prog 49 (c :: cs) = some c := by
 have h1 : aggT Tryz.prog 49 = some false := by kernel_rfl
 simp [aU, vpart, h1]
theorem Bl {H : Nat → Option VObj} {cs : List VV} {n : Nat} {f : Bool} : vlen Tryz.prog H 49 (.sl cs n f) = some (.lit (.int .i64 n)) := by simp [vlen, Tryz.underlying49, sls]
theorem lenN49 {H : Nat → Option VObj} : vlen Tryz.prog H 49 (.lit (.slice none 0 0)) = some (.lit (.int .i64 0)) := by simp [vlen, Tryz.underlying49, sls]
theorem lenR49 {H : Nat → Option VObj} {β off n w c : Nat} : vlen Tryz.prog H 49 (.ref β off n w c) = (match H β with | some (.cells _ cs) => if off ≤ cs.length then some (.lit (.int .i64 n)) else none | _ => none) := lenR Tryz.underlying49
theorem kZ : elemT Tryz.prog 49 = some 51 := by simp [elemT, Tryz.underlying49]
theorem pU : appOk Tryz.prog 49 = some (51, 2, 16) := by kernel_rfl
theorem HR {xs : List Grl} : (aa cGrl xs).take (xs.length * 2) = aa cGrl xs := Ba (fun _ => rfl)
theorem pV : ∀ x : Grl, leafL (cGrl x) = true := fun x => by simp only [eI_eq, pS, eB_eq, eS_eq, pT, AW, kV, kW, yM, yN, yO, yP, yQ, Bool.and_self]
theorem HS {c0 c1 : VV} (h : leafL [c0, c1] = true) : aJ Tryz.prog 49 1 [(0, .agg [c0, c1])] = some ([c0, c1], 2) := by
 have h2 : szT Tryz.prog 51 = some 2 := by kernel_rfl
 have h3 : vzero Tryz.prog 51 = some #[.int .i64 0, .int .i64 0] := by kernel_rfl
 simp only [kW, kV, Bool.and_true, Bool.and_eq_true] at h
 simp [aJ, Tryz.underlying49, h2, h3, vfill, aY, h, overwrite, vzeros]
theorem bG {H : Nat → Option VObj} {xs : List Grl} {x : Grl} {f : Bool} {k : IntKind} {i : Int} (h : getI xs i = some x) : aC Tryz.prog H 49 (.sl (aa cGrl xs) xs.length f) (.lit (.int k i)) = some (.tp (cGrl x ++ aa cGrl (xs.drop (i.toNat + 1)))) :=
 ixG Tryz.underlying49 (by kernel_rfl : szT Tryz.prog 51 = some 2) (by decide) (fun _ => rfl) h
theorem HT {c0 c1 : VV} {cs : List VV} : aU Tryz.prog 51 (c0 :: c1 :: cs) = some (.agg [c0, c1]) := by
 have h1 : aggT Tryz.prog 51 = some true := by kernel_rfl
 have h2 : szT Tryz.prog 51 = some 2 := by kernel_rfl
 simp [aU, vpart, h1, h2]
theorem Bm : vzl Tryz.prog 51 = some [.lit (.int .i64 0), .lit (.int .i64 0)] := by kernel_rfl
theorem HU {H : Nat → Option VObj} {β o : Nat} : ae Tryz.prog H 51 (.ptr β o) 0 = if (H β).isSome = true then some (.ptr β (o + 0)) else none := by
 have h2 : szT Tryz.prog 3 = some 1 := by kernel_rfl
 simp [ae, Tryz.underlying51, h2]
theorem HV {H : Nat → Option VObj} {β o : Nat} : ae Tryz.prog H 51 (.ptr β o) 1 = if (H β).isSome = true then some (.ptr β (o + 1)) else none := by
 have h2 : szT Tryz.prog 3 = some 1 := by kernel_rfl
 simp [ae, Tryz.underlying51, h2]
theorem HW {c0 c1 c2 : VV} {cs : List VV} : aU Tryz.prog 79 (c0 :: c1 :: c2 :: cs) = some (.agg [c0, c1, c2]) := by
 have h1 : aggT Tryz.prog 79 = some true := by kernel_rfl
 have h2 : szT Tryz.prog 79 = some 3 := by kernel_rfl
 simp [aU, vpart, h1, h2]
theorem HX : szT Tryz.prog 79 = some 3 := by kernel_rfl
theorem Bn : vzl Tryz.prog 79 = some [.lit (.slice none 0 0), .lit (.slice none 0 0), .lit (.bool false)] := by kernel_rfl
theorem HY {H : Nat → Option VObj} {cs : List VV} : ae Tryz.prog H 79 (.tp cs) 0 = some (.tp (cs.drop 0)) := by
 have h2 : szT Tryz.prog 22 = some 1 := by kernel_rfl
 simp [ae, Tryz.underlying79, h2]
theorem HZ {H : Nat → Option VObj} {β o : Nat} : ae Tryz.prog H 79 (.ptr β o) 0 = if (H β).isSome = true then some (.ptr β (o + 0)) else none := by
 have h2 : szT Tryz.prog 22 = some 1 := by kernel_rfl
 simp [ae, Tryz.underlying79, h2]
theorem Ia {H : Nat → Option VObj} {cs : List VV} : ae Tryz.prog H 79 (.tp cs) 1 = some (.tp (cs.drop 1)) := by
 have h2 : szT Tryz.prog 22 = some 1 := by kernel_rfl
 simp [ae, Tryz.underlying79, h2]
theorem Ib {H : Nat → Option VObj} {β o : Nat} : ae Tryz.prog H 79 (.ptr β o) 1 = if (H β).isSome = true then some (.ptr β (o + 1)) else none := by
 have h2 : szT Tryz.prog 22 = some 1 := by kernel_rfl
 simp [ae, Tryz.underlying79, h2]
theorem Ic {H : Nat → Option VObj} {cs : List VV} : ae Tryz.prog H 79 (.tp cs) 2 = some (.tp (cs.drop 2)) := by
 have h2 : szT Tryz.prog 4 = some 1 := by kernel_rfl
 simp [ae, Tryz.underlying79, h2]
theorem Ie {c : VV} {cs : List VV} : aU Tryz.prog 91 (c :: cs) = some c := by
 have h1 : aggT Tryz.prog 91 = some false := by kernel_rfl
 simp [aU, vpart, h1]
theorem Ig : szT Tryz.prog 91 = some 1 := by kernel_rfl
theorem Bo {H : Nat → Option VObj} {cs : List VV} {n : Nat} {f : Bool} : vlen Tryz.prog H 91 (.sl cs n f) = some (.lit (.int .i64 n)) := by simp [vlen, Tryz.underlying91, sls]
theorem lenN91 {H : Nat → Option VObj} : vlen Tryz.prog H 91 (.lit (.slice none 0 0)) = some (.lit (.int .i64 0)) := by simp [vlen, Tryz.underlying91, sls]
theorem lenR91 {H : Nat → Option VObj} {β off n w c : Nat} : vlen Tryz.prog H 91 (.ref β off n w c) = (match H β with | some (.cells _ cs) => if off ≤ cs.length then some (.lit (.int .i64 n)) else none | _ => none) := lenR Tryz.underlying91
theorem jk : elemT Tryz.prog 91 = some 144 := by simp [elemT, Tryz.underlying91]
theorem mW : appOk Tryz.prog 91 = some (144, 4, 32) := by kernel_rfl
theorem Ih {xs : List Glm} : (aa cGlm xs).take (xs.length * 4) = aa cGlm xs := Ba (fun _ => rfl)
theorem mX : ∀ x : Glm, leafL (cGlm x) = true := fun x => by simp only [eI_eq, pS, eB_eq, eS_eq, pT, AX, kV, kW, yM, yN, yO, yP, yQ, Bool.and_self]
theorem Ii {c0 c1 c2 c3 : VV} (h : leafL [c0, c1, c2, c3] = true) : aJ Tryz.prog 91 1 [(0, .agg [c0, c1, c2, c3])] = some ([c0, c1, c2, c3], 4) := by
 have h2 : szT Tryz.prog 144 = some 4 := by kernel_rfl
 have h3 : vzero Tryz.prog 144 = some #[.int .i64 0, .int .i64 0, .int .i64 0, .bool false] := by kernel_rfl
 simp only [kW, kV, Bool.and_true, Bool.and_eq_true] at h
 simp [aJ, Tryz.underlying91, h2, h3, vfill, aY, h, overwrite, vzeros]
theorem bp {H : Nat → Option VObj} {xs : List Glm} {x : Glm} {f : Bool} {k : IntKind} {i : Int} (h : getI xs i = some x) : aC Tryz.prog H 91 (.sl (aa cGlm xs) xs.length f) (.lit (.int k i)) = some (.tp (cGlm x ++ aa cGlm (xs.drop (i.toNat + 1)))) :=
 ixG Tryz.underlying91 (by kernel_rfl : szT Tryz.prog 144 = some 4) (by decide) (fun _ => rfl) h
theorem Ij {c0 c1 c2 c3 c4 c5 c6 c7 c8 c9 Ik Fm S2 yR S3 : VV} {cs : List VV} : aU Tryz.prog 93 (c0 :: c1 :: c2 :: c3 :: c4 :: c5 :: c6 :: c7 :: c8 :: c9 :: Ik :: Fm :: S2 :: yR :: S3 :: cs) = some (.agg [c0, c1, c2, c3, c4, c5, c6, c7, c8, c9, Ik, Fm, S2, yR, S3]) := by
 have h1 : aggT Tryz.prog 93 = some true := by kernel_rfl
 have h2 : szT Tryz.prog 93 = some 15 := by kernel_rfl
 simp [aU, vpart, h1, h2]
theorem Il : szT Tryz.prog 93 = some 15 := by kernel_rfl
theorem rI : vzl Tryz.prog 93 = some [.lit (.slice none 0 0), .lit (.slice none 0 0), .lit (.int .i64 0), .lit (.int .i64 0), .lit (.int .i64 0), .lit (.int .i64 0), .lit (.int .i64 0), .lit (.slice none 0 0), .lit (.int .i64 0), .lit (.int .i64 0), .lit (.slice none 0 0), .lit (.slice none 0 0), .lit (.int .i64 0), .lit (.map none), .lit (.slice none 0 0)] := by kernel_rfl
theorem Im {H : Nat → Option VObj} {β o : Nat} : ae Tryz.prog H 93 (.ptr β o) 0 = if (H β).isSome = true then some (.ptr β (o + 0)) else none := by
 have h2 : szT Tryz.prog 28 = some 10 := by kernel_rfl
 simp [ae, Tryz.underlying93, h2]
theorem Io {H : Nat → Option VObj} {β o : Nat} : ae Tryz.prog H 93 (.ptr β o) 1 = if (H β).isSome = true then some (.ptr β (o + 10)) else none := by
 have h2 : szT Tryz.prog 31 = some 2 := by kernel_rfl
 simp [ae, Tryz.underlying93, h2]
theorem Ip {H : Nat → Option VObj} {β o : Nat} : ae Tryz.prog H 93 (.ptr β o) 2 = if (H β).isSome = true then some (.ptr β (o + 12)) else none := by
 have h2 : szT Tryz.prog 3 = some 1 := by kernel_rfl
 simp [ae, Tryz.underlying93, h2]
theorem Iq {H : Nat → Option VObj} {β o : Nat} : ae Tryz.prog H 93 (.ptr β o) 3 = if (H β).isSome = true then some (.ptr β (o + 13)) else none := by
 have h2 : szT Tryz.prog 90 = some 1 := by kernel_rfl
 simp [ae, Tryz.underlying93, h2]
theorem Ir {H : Nat → Option VObj} {β o : Nat} : ae Tryz.prog H 93 (.ptr β o) 4 = if (H β).isSome = true then some (.ptr β (o + 14)) else none := by
 have h2 : szT Tryz.prog 91 = some 1 := by kernel_rfl
 simp [ae, Tryz.underlying93, h2]
theorem Bp {c0 c1 : VV} {cs : List VV} : aU Tryz.prog 100 (c0 :: c1 :: cs) = some (.agg [c0, c1]) := by
 have h1 : aggT Tryz.prog 100 = some true := by kernel_rfl
 have h2 : szT Tryz.prog 100 = some 2 := by kernel_rfl
 simp [aU, vpart, h1, h2]
theorem Bq : szT Tryz.prog 100 = some 2 := by kernel_rfl
theorem rJ : vzl Tryz.prog 100 = some [.lit (.int .i64 0), .lit (.int .i64 0)] := by kernel_rfl
theorem Is {H : Nat → Option VObj} {β o : Nat} : ae Tryz.prog H 100 (.ptr β o) 0 = if (H β).isSome = true then some (.ptr β (o + 0)) else none := by
 have h2 : szT Tryz.prog 3 = some 1 := by kernel_rfl
 simp [ae, Tryz.underlying100, h2]
theorem It {H : Nat → Option VObj} {β o : Nat} : ae Tryz.prog H 100 (.ptr β o) 1 = if (H β).isSome = true then some (.ptr β (o + 1)) else none := by
 have h2 : szT Tryz.prog 3 = some 1 := by kernel_rfl
 simp [ae, Tryz.underlying100, h2]
theorem Br {c0 c1 c2 c3 : VV} {cs : List VV} : aU Tryz.prog 108 (c0 :: c1 :: c2 :: c3 :: cs) = some (.agg [c0, c1, c2, c3]) := by
 have h1 : aggT Tryz.prog 108 = some true := by kernel_rfl
 have h2 : szT Tryz.prog 108 = some 4 := by kernel_rfl
 simp [aU, vpart, h1, h2]
theorem Bs : szT Tryz.prog 108 = some 4 := by kernel_rfl
theorem wm : vzl Tryz.prog 108 = some [.lit (.int .i64 0), .lit (.int .i64 0), .lit (.int .i64 0), .lit (.int .i64 0)] := by kernel_rfl
theorem Iu {H : Nat → Option VObj} {cs : List VV} : ae Tryz.prog H 108 (.tp cs) 0 = some (.tp (cs.drop 0)) := by
 have h2 : szT Tryz.prog 3 = some 1 := by kernel_rfl
 simp [ae, Tryz.underlying108, h2]
theorem Iv {H : Nat → Option VObj} {β o : Nat} : ae Tryz.prog H 108 (.ptr β o) 0 = if (H β).isSome = true then some (.ptr β (o + 0)) else none := by
 have h2 : szT Tryz.prog 3 = some 1 := by kernel_rfl
 simp [ae, Tryz.underlying108, h2]
theorem Iw {H : Nat → Option VObj} {cs : List VV} : ae Tryz.prog H 108 (.tp cs) 1 = some (.tp (cs.drop 1)) := by
 have h2 : szT Tryz.prog 3 = some 1 := by kernel_rfl
 simp [ae, Tryz.underlying108, h2]
theorem Ix {H : Nat → Option VObj} {β o : Nat} : ae Tryz.prog H 108 (.ptr β o) 1 = if (H β).isSome = true then some (.ptr β (o + 1)) else none := by
 have h2 : szT Tryz.prog 3 = some 1 := by kernel_rfl
 simp [ae, Tryz.underlying108, h2]
theorem Iy {H : Nat → Option VObj} {cs : List VV} : ae Tryz.prog H 108 (.tp cs) 2 = some (.tp (cs.drop 2)) := by
 have h2 : szT Tryz.prog 25 = some 2 := by kernel_rfl
 simp [ae, Tryz.underlying108, h2]
theorem Iz {H : Nat → Option VObj} {β o : Nat} : ae Tryz.prog H 108 (.ptr β o) 2 = if (H β).isSome = true then some (.ptr β (o + 2)) else none := by
 have h2 : szT Tryz.prog 25 = some 2 := by kernel_rfl
 simp [ae, Tryz.underlying108, h2]
theorem wo {H : Nat → Option VObj} {cs : List VV} {n : Nat} {f : Bool} : vlen Tryz.prog H 117 (.sl cs n f) = some (.lit (.int .i64 n)) := by simp [vlen, Tryz.underlying117, sls]
theorem lenN117 {H : Nat → Option VObj} : vlen Tryz.prog H 117 (.lit (.slice none 0 0)) = some (.lit (.int .i64 0)) := by simp [vlen, Tryz.underlying117, sls]
theorem lenR117 {H : Nat → Option VObj} {β off n w c : Nat} : vlen Tryz.prog H 117 (.ref β off n w c) = (match H β with | some (.cells _ cs) => if off ≤ cs.length then some (.lit (.int .i64 n)) else none | _ => none) := lenR Tryz.underlying117
theorem wq : vzl Tryz.prog 142 = some [.lit (.int .i64 0), .lit (.int .i64 0)] := by kernel_rfl
theorem Bt {c0 c1 c2 c3 : VV} {cs : List VV} : aU Tryz.prog 144 (c0 :: c1 :: c2 :: c3 :: cs) = some (.agg [c0, c1, c2, c3]) := by
 have h1 : aggT Tryz.prog 144 = some true := by kernel_rfl
 have h2 : szT Tryz.prog 144 = some 4 := by kernel_rfl
 simp [aU, vpart, h1, h2]
theorem Bu : szT Tryz.prog 144 = some 4 := by kernel_rfl
theorem rK : vzl Tryz.prog 144 = some [.lit (.int .i64 0), .lit (.int .i64 0), .lit (.int .i64 0), .lit (.bool false)] := by kernel_rfl
theorem I0 {H : Nat → Option VObj} {β o : Nat} : ae Tryz.prog H 144 (.ptr β o) 0 = if (H β).isSome = true then some (.ptr β (o + 0)) else none := by
 have h2 : szT Tryz.prog 3 = some 1 := by kernel_rfl
 simp [ae, Tryz.underlying144, h2]
theorem IA {H : Nat → Option VObj} {β o : Nat} : ae Tryz.prog H 144 (.ptr β o) 1 = if (H β).isSome = true then some (.ptr β (o + 1)) else none := by
 have h2 : szT Tryz.prog 3 = some 1 := by kernel_rfl
 simp [ae, Tryz.underlying144, h2]
theorem IB {H : Nat → Option VObj} {β o : Nat} : ae Tryz.prog H 144 (.ptr β o) 2 = if (H β).isSome = true then some (.ptr β (o + 2)) else none := by
 have h2 : szT Tryz.prog 3 = some 1 := by kernel_rfl
 simp [ae, Tryz.underlying144, h2]
theorem IC {H : Nat → Option VObj} {β o : Nat} : ae Tryz.prog H 144 (.ptr β o) 3 = if (H β).isSome = true then some (.ptr β (o + 3)) else none := by
 have h2 : szT Tryz.prog 4 = some 1 := by kernel_rfl
 simp [ae, Tryz.underlying144, h2]
theorem wu {H : Nat → Option VObj} {cs : List VV} {n : Nat} {f : Bool} : vlen Tryz.prog H 158 (.sl cs n f) = some (.lit (.int .i64 n)) := by simp [vlen, Tryz.underlying158, sls]
theorem lenN158 {H : Nat → Option VObj} : vlen Tryz.prog H 158 (.lit (.slice none 0 0)) = some (.lit (.int .i64 0)) := by simp [vlen, Tryz.underlying158, sls]
theorem lenR158 {H : Nat → Option VObj} {β off n w c : Nat} : vlen Tryz.prog H 158 (.ref β off n w c) = (match H β with | some (.cells _ cs) => if off ≤ cs.length then some (.lit (.int .i64 n)) else none | _ => none) := lenR Tryz.underlying158
theorem ID {c : VV} {cs : List VV} : aU Tryz.prog 33 (c :: cs) = some c := by
 have h1 : aggT Tryz.prog 33 = some false := by kernel_rfl
 simp [aU, vpart, h1]
theorem Bv : szT Tryz.prog 155 = some 1 := by kernel_rfl
theorem Bw {c : VV} {cs : List VV} : aU Tryz.prog 155 (c :: cs) = some c := by
 have h1 : aggT Tryz.prog 155 = some false := by kernel_rfl
 simp [aU, vpart, h1]
theorem wv : vzl Tryz.prog 155 = some [.lit .nilFunc] := by kernel_rfl
theorem Bx {c : VV} {cs : List VV} : aU Tryz.prog 178 (c :: cs) = some c := by
 have h1 : aggT Tryz.prog 178 = some false := by kernel_rfl
 simp [aU, vpart, h1]
theorem By : szT Tryz.prog 180 = some 2 := by kernel_rfl
theorem rL : vzl Tryz.prog 180 = some [.lit .nilFunc, .lit .nilFunc] := by kernel_rfl
theorem IE {H : Nat → Option VObj} {β o : Nat} {k : IntKind} : aC Tryz.prog H 180 (.ptr β o) (.lit (.int k 0)) = if (H β).isSome = true then some (.ptr β (o + 0)) else none := by
 have h2 : szT Tryz.prog 178 = some 1 := by kernel_rfl
 simp [aC, Tryz.underlying180, h2]
theorem IF {cO cP : VV} (h : leafL [cO, cP] = true) : vbuild Tryz.prog 31 [(0, cO), (1, cP)] = some (.agg [cO, cP]) := by
 have p0 : placeT Tryz.prog 31 0 = some (0, 1) := by kernel_rfl
 have p1 : placeT Tryz.prog 31 1 = some (1, 1) := by kernel_rfl
 simp only [kW, kV, Bool.and_true, Bool.and_eq_true] at h
 rw [vc Bg (by kernel_rfl)]
 simp [vfill, p0, p1, vcells1, h, overwrite]
theorem IG {cO cP : VV} (h : leafL [cO, cP] = true) : vbuild Tryz.prog 51 [(0, cO), (1, cP)] = some (.agg [cO, cP]) := by
 have p0 : placeT Tryz.prog 51 0 = some (0, 1) := by kernel_rfl
 have p1 : placeT Tryz.prog 51 1 = some (1, 1) := by kernel_rfl
 simp only [kW, kV, Bool.and_true, Bool.and_eq_true] at h
 rw [vc Bm (by kernel_rfl)]
 simp [vfill, p0, p1, vcells1, h, overwrite]
theorem IH : vbuild Tryz.prog 93 [] = some (.agg [.lit (.slice none 0 0), .lit (.slice none 0 0), .lit (.int .i64 0), .lit (.int .i64 0), .lit (.int .i64 0), .lit (.int .i64 0), .lit (.int .i64 0), .lit (.slice none 0 0), .lit (.int .i64 0), .lit (.int .i64 0), .lit (.slice none 0 0), .lit (.slice none 0 0), .lit (.int .i64 0), .lit (.map none), .lit (.slice none 0 0)]) := by
 rw [vc rI (by kernel_rfl)]
 rfl
theorem Wa {cO rM rN rO rP rQ rR rS rT rU cP rV oe og : VV} (h : leafL [cO, rM, rN, rO, rP, rQ, rR, rS, rT, rU, cP, rV, oe, og] = true) : vbuild Tryz.prog 93 [(0, .agg [cO, rM, rN, rO, rP, rQ, rR, rS, rT, rU]), (1, .agg [cP, rV]), (2, oe), (3, og)] = some (.agg [cO, rM, rN, rO, rP, rQ, rR, rS, rT, rU, cP, rV, oe, og, .lit (.slice none 0 0)]) := by
 have p0 : placeT Tryz.prog 93 0 = some (0, 10) := by kernel_rfl
 have p1 : placeT Tryz.prog 93 1 = some (10, 2) := by kernel_rfl
 have p2 : placeT Tryz.prog 93 2 = some (12, 1) := by kernel_rfl
 have p3 : placeT Tryz.prog 93 3 = some (13, 1) := by kernel_rfl
 simp only [kW, kV, Bool.and_true, Bool.and_eq_true] at h
 have q0 : aY (.agg [cO, rM, rN, rO, rP, rQ, rR, rS, rT, rU]) = some [cO, rM, rN, rO, rP, rQ, rR, rS, rT, rU] := by rw [II]; simp [kW, kV, h]
 have q1 : aY (.agg [cP, rV]) = some [cP, rV] := by rw [II]; simp [kW, kV, h]
 rw [vc rI (by kernel_rfl)]
 simp [vfill, p0, p1, p2, p3, vcells1, h, overwrite, q0, q1]
theorem IJ {cO cP : VV} (h : leafL [cO, cP] = true) : vbuild Tryz.prog 100 [(0, cO), (1, cP)] = some (.agg [cO, cP]) := by
 have p0 : placeT Tryz.prog 100 0 = some (0, 1) := by kernel_rfl
 have p1 : placeT Tryz.prog 100 1 = some (1, 1) := by kernel_rfl
 simp only [kW, kV, Bool.and_true, Bool.and_eq_true] at h
 rw [vc rJ (by kernel_rfl)]
 simp [vfill, p0, p1, vcells1, h, overwrite]
theorem IK {cO cP : VV} (h : leafL [cO, cP] = true) : vbuild Tryz.prog 142 [(0, cO), (1, cP)] = some (.agg [cO, cP]) := by
 have p0 : placeT Tryz.prog 142 0 = some (0, 1) := by kernel_rfl
 have p1 : placeT Tryz.prog 142 1 = some (1, 1) := by kernel_rfl
 simp only [kW, kV, Bool.and_true, Bool.and_eq_true] at h
 rw [vc wq (by kernel_rfl)]
 simp [vfill, p0, p1, vcells1, h, overwrite]
theorem Wb {cO cP oe og : VV} (h : leafL [cO, cP, oe, og] = true) : vbuild Tryz.prog 144 [(0, cO), (1, cP), (2, oe), (3, og)] = some (.agg [cO, cP, oe, og]) := by
 have p0 : placeT Tryz.prog 144 0 = some (0, 1) := by kernel_rfl
 have p1 : placeT Tryz.prog 144 1 = some (1, 1) := by kernel_rfl
 have p2 : placeT Tryz.prog 144 2 = some (2, 1) := by kernel_rfl
 have p3 : placeT Tryz.prog 144 3 = some (3, 1) := by kernel_rfl
 simp only [kW, kV, Bool.and_true, Bool.and_eq_true] at h
 rw [vc rK (by kernel_rfl)]
 simp [vfill, p0, p1, p2, p3, vcells1, h, overwrite]
theorem Bz : vbuild Tryz.prog 149 [] = some (.agg []) := by kernel_rfl
theorem B0 : szT Tryz.prog 149 = some 0 := by kernel_rfl
theorem wx : vzl Tryz.prog 149 = some [] := by kernel_rfl
theorem IL {cO cP : VV} (h : leafL [cO, cP] = true) : vbuild Tryz.prog 180 [(0, cO), (1, cP)] = some (.agg [cO, cP]) := by
 have p0 : placeT Tryz.prog 180 0 = some (0, 1) := by kernel_rfl
 have p1 : placeT Tryz.prog 180 1 = some (1, 1) := by kernel_rfl
 simp only [kW, kV, Bool.and_true, Bool.and_eq_true] at h
 rw [vc rL (by kernel_rfl)]
 simp [vfill, p0, p1, vcells1, h, overwrite]
theorem Wc {x : VV} : mkIfcV Tryz.prog 9 x = some (.ifc 9 x) := by simp [mkIfcV, Tryz.underlying9]
theorem B1 {x : VV} : mkIfcV Tryz.prog 149 x = some (.ifc 149 x) := by simp [mkIfcV, Tryz.underlying149]
theorem vd : ((Tryz.prog.info? 149).bind (·.zero)).map (fun z => VV.tup [ofVal2 z, .lit (.bool false)]) = some (.tup [.agg [], .lit (.bool false)]) := by kernel_rfl
theorem B2 : vtypeAssert Tryz.prog (.lit .nilIface) 149 true = some (.tup [.agg [], .lit (.bool false)]) := by
 simp only [vtypeAssert, Tryz.underlying149, if_true]
 exact vd
theorem IM {x : VV} : vtypeAssert Tryz.prog (.ifc 9 x) 149 true = some (.tup [.agg [], .lit (.bool false)]) := by
 simp only [vtypeAssert, Tryz.underlying149, if_true]
 rw [if_neg (by decide)]
 exact vd
theorem B3 {x : VV} : vtypeAssert Tryz.prog (.ifc 149 x) 149 true = some (.tup [x, .lit (.bool true)]) := by
 simp [vtypeAssert, Tryz.underlying149]
theorem Wd {H : Nat → Option VObj} {x y : Operand} {a b : Bool} : binV Tryz.prog H .eql 4 x y (.lit (.bool a)) (.lit (.bool b)) = some (.lit (.bool (a == b))) := IN Tryz.underlying4
theorem We {H : Nat → Option VObj} {x y : Operand} {a b : Bool} : binV Tryz.prog H .neq 4 x y (.lit (.bool a)) (.lit (.bool b)) = some (.lit (.bool (a != b))) := IP Tryz.underlying4
theorem B4 {H : Nat → Option VObj} {x y : Operand} {a0 b0 : Int} {a1 b1 : Int} : binV Tryz.prog H .eql 100 x y (.agg [.lit (.int .i64 a0), .lit (.int .i64 a1)]) (.agg [.lit (.int .i64 b0), .lit (.int .i64 b1)]) = some (.lit (.bool (a0 == b0 && (a1 == b1)))) ∧ binV Tryz.prog H .neq 100 x y (.agg [.lit (.int .i64 a0), .lit (.int .i64 a1)]) (.agg [.lit (.int .i64 b0), .lit (.int .i64 b1)]) = some (.lit (.bool (!(a0 == b0 && (a1 == b1))))) := by
 refine binS (xs := [.int .i64 a0, .int .i64 a1]) (ys := [.int .i64 b0, .int .i64 b1]) (by simp [VV.val?, valL?]) (by simp [VV.val?, valL?]) Tryz.underlying100 (by kernel_rfl) (by kernel_rfl) ?_
 simp [eqF, rW, eq1, Tryz.underlying3]
theorem B5 {H : Nat → Option VObj} {x y : Operand} {a0 b0 : Int} {a1 b1 : Int} : binV Tryz.prog H .eql 100 x y (.agg [.lit (.int .i64 a0), .lit (.int .i64 a1)]) (.agg [.lit (.int .i64 b0), .lit (.int .i64 b1)]) = some (.lit (.bool (a0 == b0 && (a1 == b1)))) := B4.1
theorem IQ : (VV.lit Value.nilFunc).leaf = true := rfl
theorem IS : (VV.lit Value.nilIface).leaf = true := rfl
def tyf := (And.intro (And.intro (And.intro (And.intro (And.intro (And.intro (And.intro @wh @AS) (And.intro @AT (And.intro @AU @yL))) (And.intro (And.intro @AV @AW) (And.intro @AX (And.intro @Fj @Fk)))) (And.intro (And.intro (And.intro @VW @VX) (And.intro @Ho (And.intro @VY @VZ))) (And.intro (And.intro @Hp @Hq) (And.intro @AZ (And.intro @lenN22 @lenR22))))) (And.intro (And.intro (And.intro (And.intro @fw @Hr) (And.intro @Hs (And.intro @Ht @Hu))) (And.intro (And.intro @Bb @lenN23) (And.intro @lenR23 (And.intro @Hv @Hw)))) (And.intro (And.intro (And.intro @Bc @Hx) (And.intro @Hy (And.intro @Hz @Bd))) (And.intro (And.intro @lenN26 (And.intro @lenR26 @H2)) (And.intro @H3 (And.intro @H4 @HA)))))) (And.intro (And.intro (And.intro (And.intro (And.intro @HB @HC) (And.intro @HD (And.intro @HE @HF))) (And.intro (And.intro @HG @HH) (And.intro @HI (And.intro @Be @Bf)))) (And.intro (And.intro (And.intro @lenN29 @lenR29) (And.intro @jj (And.intro @HJ @HK))) (And.intro (And.intro @HL @HM) (And.intro @HN (And.intro @Bh @lenN44))))) (And.intro (And.intro (And.intro (And.intro @lenR44 @Bi) (And.intro @lenN47 (And.intro @lenR47 @tM))) (And.intro (And.intro @HO @HP) (And.intro @HQ (And.intro @Bl @lenN49)))) (And.intro (And.intro (And.intro @lenR49 @kZ) (And.intro @HR (And.intro @HS @HT))) (And.intro (And.intro @HU (And.intro @HV @HW)) (And.intro @HX (And.intro @Bn @HY))))))) (And.intro (And.intro (And.intro (And.intro (And.intro (And.intro @HZ @Ia) (And.intro @Ib (And.intro @Ic @Ie))) (And.intro (And.intro @Ig @Bo) (And.intro @lenN91 (And.intro @lenR91 @jk)))) (And.intro (And.intro (And.intro @Ih @Ii) (And.intro @Ij (And.intro @Il @rI))) (And.intro (And.intro @Im @Io) (And.intro @Ip (And.intro @Iq @Ir))))) (And.intro (And.intro (And.intro (And.intro @Bp @Bq) (And.intro @rJ (And.intro @Is @It))) (And.intro (And.intro @Br @Bs) (And.intro @wm (And.intro @Iu @Iv)))) (And.intro (And.intro (And.intro @Iw @Ix) (And.intro @Iy (And.intro @Iz @wo))) (And.intro (And.intro @lenN117 (And.intro @lenR117 @Bt)) (And.intro @Bu (And.intro @rK @I0)))))) (And.intro (And.intro (And.intro (And.intro (And.intro @IA @IB) (And.intro @IC (And.intro @wu @lenN158))) (And.intro (And.intro @lenR158 @ID) (And.intro @Bv (And.intro @Bw @wv)))) (And.intro (And.intro (And.intro @Bx @By) (And.intro @rL (And.intro @IE @IF))) (And.intro (And.intro @IG @IH) (And.intro @Wa (And.intro @IJ @IK))))) (And.intro (And.intro (And.intro (And.intro @Wb @Bz) (And.intro @B0 (And.intro @wx @IL))) (And.intro (And.intro @Wc @B1) (And.intro @B2 (And.intro @IM @B3)))) (And.intro (And.intro (And.intro @Wd @We) (And.intro @B5 (And.intro @IQ @IS))) (And.intro (And.intro @IT (And.intro @eI_eq @pS)) (And.intro @eB_eq (And.intro @eS_eq @pT))))))))
def aE := (And.intro (And.intro (And.intro @di.shown (And.intro @ed.normL @fh.normL)) (And.intro (And.intro @gI.normL @gI.showL) (And.intro @jU.normL @jU.showL))) (And.intro (And.intro (And.intro @mT.normL @mT.showL) (And.intro @Fl @AY)) (And.intro (And.intro @Hm.norm @Hm.shown) (And.intro @wj.normL @wj.showL))))
def aG := (And.intro (And.intro (And.intro @ed.treeL @fh.treeL) (And.intro @gI.treeL @jU.treeL)) (And.intro (And.intro @mT.treeL @rH) (And.intro @Hm.tree @wj.treeL)))
end Go.V
namespace Go.V
open Go Go.Proofs IntKind
theorem ktA {P : Program} {G : Glob} {d : Option Tmp} {γ : Nat} {tm : Nat → VV} {H : Nat → Option VObj} {nx : Nat} {df : List VDef} {K : St → Prop} {Qp : VV → St → Prop} {f : FuncId} {args args0 : List VV} {x : VV} (hp : ag P G f args0 (.tree x)) (h : fin d γ tm H nx df K x .none) (hn : normL args = args0 := by first | (simp only [nrm, aE] <;> rfl) | rfl) (ht : treeL args = true := by simp only [tre, aG, Bool.and_self]) : callK P G f args ⟨tm, H, nx, df⟩ d γ K Qp := ktree hn ht hp h
theorem dktA {P : Program} {G : Glob} {d : Option Tmp} {γ : Nat} {tm : Nat → VV} {H : Nat → Option VObj} {nx : Nat} {df : List VDef} {K : List Nat → List Nat → St → Prop} {f : FuncId} {args args0 : List VV} {x : VV} (hp : ag P G f args0 (.tree x)) (h : fin d γ tm H nx df (K [] []) x .none) (hn : normL args = args0 := by first | (simp only [nrm, aE] <;> rfl) | rfl) (ht : treeL args = true := by simp only [tre, aG, Bool.and_self]) : dcallK P G f args tm H nx df d γ K := dktree hn ht hp h
theorem optI {α β : Type} {K : Option β → Prop} {X : Option α} {F : α → Option β} (h : K (Option.bind X F)) (kN : ¬ K none) : ∃ r, X = some r ∧ K (F r) := by
  cases X with
  | none => exact absurd h kN
  | some r => exact ⟨r, rfl, h⟩
end Go.V
end
section
namespace Go.V
open Go Go.Proofs IntKind
def Dec (P : Program) (n : Nat) (t : TypeId) {α : Type} (enc : α → List VV) (R : α → Prop) : Prop := ∀ xs, ShapeT P n t xs → ∃ x : α, R x ∧ normL xs = enc x
theorem IU {P : Program} {n : Nat} {t : TypeId} (hu : P.underlying t = some (.int .i64)) : Dec P (n + 1) t eI (fun _ => True) := by
 intro xs h
 simp only [ShapeT, hu] at h
 obtain ⟨i, _, rfl⟩ := h
 exact ⟨i, trivial, by simp only [wy, wz, S4, eI]⟩
theorem IV {P : Program} {n : Nat} {t : TypeId} (hu : P.underlying t = some .bool) : Dec P (n + 1) t eB (fun _ => True) := by
 intro xs h
 simp only [ShapeT, hu] at h
 obtain ⟨b, rfl⟩ := h
 exact ⟨b, trivial, by simp only [wy, wz, IW, eB]⟩
theorem B6 {P : Program} {n : Nat} {t : TypeId} {α : Type} {enc : α → List VV} {R : α → Prop} (h : Dec P n t enc R) : ∀ yss : List (List VV), (∀ ys ∈ yss, ShapeT P n t ys) → ∃ l : List α, l.length = yss.length ∧ (∀ x ∈ l, R x) ∧ normL yss.flatten = aa enc l
 | [], _ => ⟨[], rfl, fun _ hx => (by cases hx), rfl⟩
 | ys :: yss, hs => by
  obtain ⟨x, hx, e⟩ := h ys (hs ys (qZb ..))
  obtain ⟨l, h1, h2, h3⟩ := B6 h yss (fun y hy => hs y (qZa _ hy))
  refine ⟨x :: l, by simp [h1], fun y hy => ?_, by rw [List.flatten_cons, tN, e, h3, dj]⟩
  rcases List.mem_cons.1 hy with rfl | hy
  ·exact hx
  ·exact h2 y hy
theorem Fo {P : Program} {n : Nat} {t e : TypeId} {α : Type} {enc : α → List VV} {R : α → Prop} (hu : P.underlying t = some (.slice e)) (h : Dec P n e enc R) : Dec P (n + 1) t (fun l : List α => [.sl (aa enc l) l.length false]) (fun l => lenOk l = true ∧ ∀ x ∈ l, R x) := by
 intro xs hs
 simp only [ShapeT, hu] at hs
 rcases hs with rfl | ⟨yss, hl, hall, rfl⟩
 ·exact ⟨[], ⟨rfl, fun _ hx => (by cases hx)⟩, by simp only [wy, wz, S5]; rfl⟩
 ·obtain ⟨l, h1, h2, h3⟩ := B6 h yss hall
  refine ⟨l, ⟨?_, h2⟩, by simp only [wy, wz, B7, h3, h1]⟩
  have : maxLen = 9223372036854775807 := by decide
  unfold lenOk
  exact decide_eq_true (by omega)
theorem IX {P : Program} {n : Nat} {t : TypeId} {fs : Array Field} {xs : List VV} (hu : P.underlying t = some (.struct fs)) (h : ShapeT P (n + 1) t xs) : ∃ yss, FieldsS (ShapeT P n) fs.toList yss ∧ xs = yss.flatten := by
 simp only [ShapeT, hu] at h
 exact h
def TypesS (S : TypeId → List VV → Prop) : List TypeId → List (List VV) → Prop
 | [], [] => True
 | t :: ts, ys :: yss => S t ys ∧ TypesS S ts yss
 | _, _ => False
theorem B8 {S : TypeId → List VV → Prop} : ∀ (fs : List Field) (yss : List (List VV)), FieldsS S fs yss → TypesS S (fs.map Field.type) yss
 | [], [], _ => trivial
 | f :: fs, ys :: yss, ⟨h1, h2⟩ => ⟨h1, B8 fs yss h2⟩
 | [], _ :: _, h => h
 | _ :: _, [], h => h
theorem yS {P : Program} {n : Nat} {t : TypeId} {fs : Array Field} {ts : List TypeId} {xs : List VV} (hu : P.underlying t = some (.struct fs)) (ht : fs.toList.map Field.type = ts) (h : ShapeT P (n + 1) t xs) : ∃ yss, TypesS (ShapeT P n) ts yss ∧ xs = yss.flatten := by
 obtain ⟨yss, h1, h2⟩ := IX hu h
 exact ⟨yss, ht ▸ B8 _ _ h1, h2⟩
theorem IY {P : Program} {n : Nat} {t : TypeId} {ts : List TypeId} {xs : List VV} (h : ArgsS P n (t :: ts) xs) : ∃ x xs', xs = x :: xs' ∧ ArgS P n t x ∧ ArgsS P n ts xs' := by
 match xs, h with
 | x :: xs', h => exact ⟨x, xs', rfl, h.1, h.2⟩
theorem IZ {P : Program} {n : Nat} {xs : List VV} (h : ArgsS P n [] xs) : xs = [] := by
 match xs, h with
 | [], _ => rfl
theorem S6 {P : Program} {n : Nat} {t : TypeId} {fs : Array Field} {x : VV} {α : Type} {enc : α → List VV} {R : α → Prop} (hu : P.underlying t = some (.struct fs)) (hd : Dec P n t enc R) (h : ArgS P n t x) : ∃ s, R s ∧ normV x = .agg (enc s) := by
 obtain ⟨ys, h1, h2⟩ := h
 rw [hu] at h2
 obtain rfl : x = .agg ys := h2
 obtain ⟨s, hs, e⟩ := hd ys h1
 exact ⟨s, hs, by rw [S7, e]⟩
theorem Ja {P : Program} {n : Nat} {t : TypeId} {d : TypeDesc} {x : VV} {α : Type} {enc : α → List VV} {R : α → Prop} (hu : P.underlying t = some d) (hn : (∀ fs, d ≠ .struct fs) ∧ ∀ m e, d ≠ .array m e) (hd : Dec P n t enc R) (h : ArgS P n t x) : ∃ s, R s ∧ [normV x] = enc s := by
 obtain ⟨ys, h1, h2⟩ := h
 rw [hu] at h2
 have h3 : ys = [x] := by
  cases d <;> first | exact h2 | exact absurd rfl (hn.1 _) | exact absurd rfl (hn.2 _ _)
 subst h3
 obtain ⟨s, hs, e⟩ := hd _ h1
 exact ⟨s, hs, by rw [← e, wy, wz]⟩
end Go.V
end
section
set_option maxRecDepth 100000
namespace Go.V
open Go Go.Proofs IntKind
def Jb (x : GLw) : Prop := lenOk x.Signs = true ∧ lenOk x.Cuts = true
def S8 (x : GLs) : Prop := lenOk x.Widths = true ∧ lenOk x.Pairs = true ∧ lenOk x.Words = true ∧ ∀ y ∈ x.Words, Jb y
def S9 (x : GLx) : Prop := lenOk x.Out = true ∧ lenOk x.Ends = true
section
variable {P : Program} (iD : P.underlying 3 = some (.int .i64)) (dK : P.underlying 22 = some (.slice 3)) {SA : Array Field} (dL : P.underlying 25 = some (.struct SA)) (dM : SA.toList.map Field.type = [3, 3]) {B9 : Array Field} (bO : P.underlying 108 = some (.struct B9)) (bP : B9.toList.map Field.type = [3, 3, 25]) (dN : P.underlying 23 = some (.slice 108)) (j3 : P.underlying 4 = some (.bool)) {SB : Array Field} (dO : P.underlying 79 = some (.struct SB)) (dP : SB.toList.map Field.type = [22, 22, 4]) (dQ : P.underlying 26 = some (.slice 79)) {SC : Array Field} (dR : P.underlying 28 = some (.struct SC)) (dS : SC.toList.map Field.type = [22, 23, 25, 25, 3, 26, 3, 3]) {BA : Array Field} (bQ : P.underlying 100 = some (.struct BA)) (bR : BA.toList.map Field.type = [3, 3]) (dT : P.underlying 29 = some (.slice 100)) {SD : Array Field} (dU : P.underlying 31 = some (.struct SD)) (dV : SD.toList.map Field.type = [22, 29])
include iD dK dL dM bO bP dN j3 dO dP dQ dR dS bQ bR dT dU dV
theorem gd_3 {n : Nat} : Dec P (n + 1) 3 eI (fun _ => True) := IU iD
theorem gd_22 {n : Nat} : Dec P (n + 2) 22 (eSl eI) (fun l => lenOk l = true ∧ ∀ x ∈ l, True) := Fo dK (gd_3 iD dK dL dM bO bP dN j3 dO dP dQ dR dS bQ bR dT dU dV (n := n))
theorem gd_25 {n : Nat} : Dec P (n + 2) 25 cGSpan (fun _ => True) := by
 intro xs h
 obtain ⟨yss, hf, rfl⟩ := yS (n := n + 1) (ts := [3, 3]) dL dM h
 match yss, hf with
 | [y0, y1], ⟨h0, h1, _⟩ =>
  obtain ⟨x0, r0, e0⟩ := gd_3 iD dK dL dM bO bP dN j3 dO dP dQ dR dS bQ bR dT dU dV (n := n + 0) _ h0
  obtain ⟨x1, r1, e1⟩ := gd_3 iD dK dL dM bO bP dN j3 dO dP dQ dR dS bQ bR dT dU dV (n := n + 0) _ h1
  exact ⟨⟨x0, x1⟩, trivial, by simp only [List.flatten_cons, List.flatten_nil, List.append_nil, tN, e0, e1, eI, tO, eB, eS, eSl, wh, List.cons_append, List.nil_append]⟩
theorem Jc {n : Nat} : Dec P (n + 3) 108 cGLp (fun _ => True) := by
 intro xs h
 obtain ⟨yss, hf, rfl⟩ := yS (n := n + 2) (ts := [3, 3, 25]) bO bP h
 match yss, hf with
 | [y0, y1, y2], ⟨h0, h1, h2, _⟩ =>
  obtain ⟨x0, r0, e0⟩ := gd_3 iD dK dL dM bO bP dN j3 dO dP dQ dR dS bQ bR dT dU dV (n := n + 1) _ h0
  obtain ⟨x1, r1, e1⟩ := gd_3 iD dK dL dM bO bP dN j3 dO dP dQ dR dS bQ bR dT dU dV (n := n + 1) _ h1
  obtain ⟨x2, r2, e2⟩ := gd_25 iD dK dL dM bO bP dN j3 dO dP dQ dR dS bQ bR dT dU dV (n := n + 0) _ h2
  exact ⟨⟨x0, x1, x2⟩, trivial, by simp only [List.flatten_cons, List.flatten_nil, List.append_nil, tN, e0, e1, e2, eI, tO, eB, eS, eSl, AS, wh, List.cons_append, List.nil_append]⟩
theorem gd_23 {n : Nat} : Dec P (n + 4) 23 (eSl cGLp) (fun l => lenOk l = true ∧ ∀ x ∈ l, True) := Fo dN (Jc iD dK dL dM bO bP dN j3 dO dP dQ dR dS bQ bR dT dU dV (n := n))
theorem gd_4 {n : Nat} : Dec P (n + 1) 4 eB (fun _ => True) := IV j3
theorem gd_79 {n : Nat} : Dec P (n + 3) 79 cGLw (Jb) := by
 intro xs h
 obtain ⟨yss, hf, rfl⟩ := yS (n := n + 2) (ts := [22, 22, 4]) dO dP h
 match yss, hf with
 | [y0, y1, y2], ⟨h0, h1, h2, _⟩ =>
  obtain ⟨x0, r0, e0⟩ := gd_22 iD dK dL dM bO bP dN j3 dO dP dQ dR dS bQ bR dT dU dV (n := n + 0) _ h0
  obtain ⟨x1, r1, e1⟩ := gd_22 iD dK dL dM bO bP dN j3 dO dP dQ dR dS bQ bR dT dU dV (n := n + 0) _ h1
  obtain ⟨x2, r2, e2⟩ := gd_4 iD dK dL dM bO bP dN j3 dO dP dQ dR dS bQ bR dT dU dV (n := n + 1) _ h2
  exact ⟨⟨x0, x1, x2⟩, ⟨r0.1, r1.1⟩, by simp only [List.flatten_cons, List.flatten_nil, List.append_nil, tN, e0, e1, e2, eI, tO, eB, eS, eSl, AT, List.cons_append, List.nil_append]⟩
theorem gd_26 {n : Nat} : Dec P (n + 4) 26 (eSl cGLw) (fun l => lenOk l = true ∧ ∀ x ∈ l, Jb x) := Fo dQ (gd_79 iD dK dL dM bO bP dN j3 dO dP dQ dR dS bQ bR dT dU dV (n := n))
theorem gd_28 {n : Nat} : Dec P (n + 5) 28 cGLs (S8) := by
 intro xs h
 obtain ⟨yss, hf, rfl⟩ := yS (n := n + 4) (ts := [22, 23, 25, 25, 3, 26, 3, 3]) dR dS h
 match yss, hf with
 | [y0, y1, y2, y3, y4, y5, y6, y7], ⟨h0, h1, h2, h3, h4, h5, h6, h7, _⟩ =>
  obtain ⟨x0, r0, e0⟩ := gd_22 iD dK dL dM bO bP dN j3 dO dP dQ dR dS bQ bR dT dU dV (n := n + 2) _ h0
  obtain ⟨x1, r1, e1⟩ := gd_23 iD dK dL dM bO bP dN j3 dO dP dQ dR dS bQ bR dT dU dV (n := n + 0) _ h1
  obtain ⟨x2, r2, e2⟩ := gd_25 iD dK dL dM bO bP dN j3 dO dP dQ dR dS bQ bR dT dU dV (n := n + 2) _ h2
  obtain ⟨x3, r3, e3⟩ := gd_25 iD dK dL dM bO bP dN j3 dO dP dQ dR dS bQ bR dT dU dV (n := n + 2) _ h3
  obtain ⟨x4, r4, e4⟩ := gd_3 iD dK dL dM bO bP dN j3 dO dP dQ dR dS bQ bR dT dU dV (n := n + 3) _ h4
  obtain ⟨x5, r5, e5⟩ := gd_26 iD dK dL dM bO bP dN j3 dO dP dQ dR dS bQ bR dT dU dV (n := n + 0) _ h5
  obtain ⟨x6, r6, e6⟩ := gd_3 iD dK dL dM bO bP dN j3 dO dP dQ dR dS bQ bR dT dU dV (n := n + 3) _ h6
  obtain ⟨x7, r7, e7⟩ := gd_3 iD dK dL dM bO bP dN j3 dO dP dQ dR dS bQ bR dT dU dV (n := n + 3) _ h7
  exact ⟨⟨x0, x1, x2, x3, x4, x5, x6, x7⟩, ⟨r0.1, r1.1, r5.1, r5.2⟩, by simp only [List.flatten_cons, List.flatten_nil, List.append_nil, tN, e0, e1, e2, e3, e4, e5, e6, e7, eI, tO, eB, eS, eSl, AU, wh, List.cons_append, List.nil_append]⟩
theorem Jd {n : Nat} : Dec P (n + 2) 100 cGLe (fun _ => True) := by
 intro xs h
 obtain ⟨yss, hf, rfl⟩ := yS (n := n + 1) (ts := [3, 3]) bQ bR h
 match yss, hf with
 | [y0, y1], ⟨h0, h1, _⟩ =>
  obtain ⟨x0, r0, e0⟩ := gd_3 iD dK dL dM bO bP dN j3 dO dP dQ dR dS bQ bR dT dU dV (n := n + 0) _ h0
  obtain ⟨x1, r1, e1⟩ := gd_3 iD dK dL dM bO bP dN j3 dO dP dQ dR dS bQ bR dT dU dV (n := n + 0) _ h1
  exact ⟨⟨x0, x1⟩, trivial, by simp only [List.flatten_cons, List.flatten_nil, List.append_nil, tN, e0, e1, eI, tO, eB, eS, eSl, yL, List.cons_append, List.nil_append]⟩
theorem gd_29 {n : Nat} : Dec P (n + 3) 29 (eSl cGLe) (fun l => lenOk l = true ∧ ∀ x ∈ l, True) := Fo dT (Jd iD dK dL dM bO bP dN j3 dO dP dQ dR dS bQ bR dT dU dV (n := n))
theorem gd_31 {n : Nat} : Dec P (n + 4) 31 cGLx (S9) := by
 intro xs h
 obtain ⟨yss, hf, rfl⟩ := yS (n := n + 3) (ts := [22, 29]) dU dV h
 match yss, hf with
 | [y0, y1], ⟨h0, h1, _⟩ =>
  obtain ⟨x0, r0, e0⟩ := gd_22 iD dK dL dM bO bP dN j3 dO dP dQ dR dS bQ bR dT dU dV (n := n + 1) _ h0
  obtain ⟨x1, r1, e1⟩ := gd_29 iD dK dL dM bO bP dN j3 dO dP dQ dR dS bQ bR dT dU dV (n := n + 0) _ h1
  exact ⟨⟨x0, x1⟩, ⟨r0.1, r1.1⟩, by simp only [List.flatten_cons, List.flatten_nil, List.append_nil, tN, e0, e1, eI, tO, eB, eS, eSl, AV, List.cons_append, List.nil_append]⟩
end
theorem dec_3 {n : Nat} : Dec Tryz.prog (n + 1) 3 eI (fun _ => True) := gd_3 Tryz.underlying3 Tryz.underlying22 Tryz.underlying25 (by kernel_rfl) Tryz.underlying108 (by kernel_rfl) Tryz.underlying23 Tryz.underlying4 Tryz.underlying79 (by kernel_rfl) Tryz.underlying26 Tryz.underlying28 (by kernel_rfl) Tryz.underlying100 (by kernel_rfl) Tryz.underlying29 Tryz.underlying31 (by kernel_rfl)
theorem Je {n : Nat} : Dec Tryz.prog (n + 5) 28 cGLs (S8) := gd_28 Tryz.underlying3 Tryz.underlying22 Tryz.underlying25 (by kernel_rfl) Tryz.underlying108 (by kernel_rfl) Tryz.underlying23 Tryz.underlying4 Tryz.underlying79 (by kernel_rfl) Tryz.underlying26 Tryz.underlying28 (by kernel_rfl) Tryz.underlying100 (by kernel_rfl) Tryz.underlying29 Tryz.underlying31 (by kernel_rfl)
theorem Jf {n : Nat} : Dec Tryz.prog (n + 4) 31 cGLx (S9) := gd_31 Tryz.underlying3 Tryz.underlying22 Tryz.underlying25 (by kernel_rfl) Tryz.underlying108 (by kernel_rfl) Tryz.underlying23 Tryz.underlying4 Tryz.underlying79 (by kernel_rfl) Tryz.underlying26 Tryz.underlying28 (by kernel_rfl) Tryz.underlying100 (by kernel_rfl) Tryz.underlying29 Tryz.underlying31 (by kernel_rfl)
end Go.V
end
section
namespace Go.V
open Go Go.Proofs IntKind
def goB (b : Bool) : Option (LOut Bool Unit) := cond b (some (.go ())) (some (.ret false))
theorem oh (a b : Bool) : goB (a && b) = cond a (goB b) (some (.ret false)) := by cases a <;> rfl
theorem cnot {α : Type} (a : Bool) (x y : α) : cond (!a) x y = cond a y x := by cases a <;> rfl
theorem cand {α : Type} (a b : Bool) (x y : α) : cond (a && b) x y = cond a (cond b x y) y := by cases a <;> rfl
theorem csome (a b : Bool) : cond a (some b) (some false) = some (a && b) := by cases a <;> rfl
theorem w6 {X : Type} (b : Bool) (kr : Bool → Option X) (kg : Unit → Option X) (kb : Nat → Unit → Option X) : lbind (goB b) kr kg kb = cond b (kg ()) (kr false) := by cases b <;> rfl
def inB (a b n : Int) : Bool := decide (a ≤ n) && decide (n ≤ b)
theorem tx {a b n : Int} : inB a b n = true ↔ a ≤ n ∧ n ≤ b := by simp [inB]
theorem jd {n : Int} (h1 : -9223372036854775808 ≤ n) (h2 : n < 9223372036854775808) : i64.wrap n = n := IntWalk.i64_in _ (by omega)
theorem w7 {α : Type} {xs : List α} (h : lenOk xs = true) : xs.length < 9223372036854775808 := by simpa [lenOk] using h
theorem oV {α : Type} {xs : List α} (h : xs.length < 9223372036854775808) : lenOk xs = true := by simpa [lenOk] using h
theorem SE {α : Type} {xs : List α} {i : Int} (h0 : 0 ≤ i) (h1 : i < xs.length) : ∃ x, getI xs i = some x ∧ x ∈ xs := by
 unfold getI
 rw [if_pos h0]
 have h : i.toNat < xs.length := by omega
 exact ⟨xs[i.toNat], qZh h, List.getElem_mem h⟩
theorem BB {α : Type} {xs : List α} {i : Int} {x : α} (h : getI xs i = some x) : x ∈ xs := by
 unfold getI at h
 split at h
 ·exact List.mem_of_getElem? h
 ·cases h
theorem w8 {α : Type} {xs : List α} {i : Int} {x : α} (h : getI xs i = some x) : 0 ≤ i ∧ i < xs.length := ⟨(vf h).1, (vf h).2.1⟩
theorem Jg {α : Type} {xs : List α} (h : 1 ≤ xs.length) (h2 : xs.length < 9223372036854775808) : getI xs (i64.wrap ((xs.length : Int) - 1)) = xs.getLast? := by
 rw [jd (by omega) (by omega)]
 unfold getI
 rw [if_pos (by omega), List.getLast?_eq_getElem?]
 congr 1
 omega
theorem mulR {a b A B : Int} (h1 : 0 ≤ a) (h2 : a ≤ A) (h3 : 0 ≤ b) (h4 : b ≤ B) : 0 ≤ a * b ∧ a * b ≤ A * B :=
 ⟨Int.mul_nonneg h1 h3, Int.mul_le_mul h2 h4 h3 (Int.le_trans h1 h2)⟩
def oW (aO : Int) (fx : Int) (bg : Int) : Option (Bool) := cond (decide (aO ≤ fx)) (some (decide (fx ≤ bg))) (some false)
theorem tz (aO : Int) (fx : Int) (bg : Int) (R : Bool) (h : oW aO fx bg = some R) : ag Tryz.prog G0 112 [.lit (.int .i64 aO), .lit (.int .i64 fx), .lit (.int .i64 bg)] (.tree (.lit (.bool R))) := by
 refine ag.runR mixed Tryz.call112 Tryz.func112 rfl (by simp [Tryz.ntmps112]; kernel_rfl) ?_
 obtain ⟨KF, h, kF, kN⟩ := eC h
 simp only [oW] at h
 cases d1 : (decide (aO ≤ fx))
 ·simp only [d1, hs] at h
  try simp only [vz, tyf, d1, nm, seval]
  obtain rfl := kF _ h
  exact bz Tryz.results112 rfl
 simp only [d1, hs] at h
 try simp only [vz, tyf, d1, nm, seval]
 obtain rfl := kF _ h
 exact bz Tryz.results112 rfl
end Go.V
end
