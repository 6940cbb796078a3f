/- Part of a proof. -/
import Derived.Test.YtlkognggeadanaaGreatDoorIbg
import Derived.Test.YtlkognggeadanaaGreatDoorIay
import Derived.Test.YtlkognggeadanaaGreatDoorProg
set_option linter.all false
set_option maxRecDepth 4000
set_option maxHeartbeats 40000000
section
namespace Go.V
open Go Go.Proofs IntKind
theorem mixed : Tryz.prog.follows .mixedOrders = true := by kernel_rfl
structure GSpan where
 Low : Int
 High : Int
 deriving Inhabited, DecidableEq
def cGSpan (x : GSpan) : List VV := [.lit (.int .i64 x.Low), .lit (.int .i64 x.High)]
theorem uj {x : GSpan} : cGSpan x = [.lit (.int .i64 x.Low), .lit (.int .i64 x.High)] := rfl
theorem cu : EncOk cGSpan := EncOk.of (fun x => by simp only [uj, tre, Bool.and_self]) (fun x => by simp only [uj, nrm]) (fun x H d => by simp only [uj, nrm, List.map_cons, List.map_nil])
structure GLp where
 Left : Int
 Right : Int
 Space : GSpan
 deriving Inhabited, DecidableEq
def cGLp (x : GLp) : List VV := [.lit (.int .i64 x.Left), .lit (.int .i64 x.Right), .lit (.int .i64 x.Space.Low), .lit (.int .i64 x.Space.High)]
theorem zM {x : GLp} : cGLp x = [.lit (.int .i64 x.Left), .lit (.int .i64 x.Right), .lit (.int .i64 x.Space.Low), .lit (.int .i64 x.Space.High)] := rfl
theorem cI : EncOk cGLp := EncOk.of (fun x => by simp only [zM, tre, cu.tree, cu.treeL, Bool.and_self]) (fun x => by simp only [zM, nrm, cu.norm, cu.normL, cu.shown, cu.showL]) (fun x H d => by simp only [zM, nrm, List.map_cons, List.map_nil])
structure GLw where
 Signs : List Int
 Cuts : List Int
 Free : Bool
 deriving Inhabited, DecidableEq
def cGLw (x : GLw) : List VV := [.sl (aa eI x.Signs) (List.length x.Signs) false, .sl (aa eI x.Cuts) (List.length x.Cuts) false, .lit (.bool x.Free)]
theorem zN {x : GLw} : cGLw x = [.sl (aa eI x.Signs) (List.length x.Signs) false, .sl (aa eI x.Cuts) (List.length x.Cuts) false, .lit (.bool x.Free)] := rfl
theorem di : EncOk cGLw := EncOk.of (fun x => by simp only [zN, tre, cu.tree, cu.treeL, cI.tree, cI.treeL, Bool.and_self]) (fun x => by simp only [zN, nrm, cu.norm, cu.normL, cu.shown, cu.showL, cI.norm, cI.normL, cI.shown, cI.showL]) (fun x H d => by simp only [zN, nrm, List.map_cons, List.map_nil])
structure GLs where
 Widths : List Int
 Pairs : List GLp
 Other : GSpan
 Gap : GSpan
 Hyphen : Int
 Words : List GLw
 Wide : Int
 Rows : Int
 deriving Inhabited, DecidableEq
def cGLs (x : GLs) : List VV := [.sl (aa eI x.Widths) (List.length x.Widths) false, .sl (aa cGLp x.Pairs) (List.length x.Pairs) false, .lit (.int .i64 x.Other.Low), .lit (.int .i64 x.Other.High), .lit (.int .i64 x.Gap.Low), .lit (.int .i64 x.Gap.High), .lit (.int .i64 x.Hyphen), .sl (aa cGLw x.Words) (List.length x.Words) false, .lit (.int .i64 x.Wide), .lit (.int .i64 x.Rows)]
theorem zO {x : GLs} : cGLs x = [.sl (aa eI x.Widths) (List.length x.Widths) false, .sl (aa cGLp x.Pairs) (List.length x.Pairs) false, .lit (.int .i64 x.Other.Low), .lit (.int .i64 x.Other.High), .lit (.int .i64 x.Gap.Low), .lit (.int .i64 x.Gap.High), .lit (.int .i64 x.Hyphen), .sl (aa cGLw x.Words) (List.length x.Words) false, .lit (.int .i64 x.Wide), .lit (.int .i64 x.Rows)] := rfl
theorem dy : EncOk cGLs := EncOk.of (fun x => by simp only [zO, tre, cu.tree, cu.treeL, cI.tree, cI.treeL, di.tree, di.treeL, Bool.and_self]) (fun x => by simp only [zO, nrm, cu.norm, cu.normL, cu.shown, cu.showL, cI.norm, cI.normL, cI.shown, cI.showL, di.norm, di.normL, di.shown, di.showL]) (fun x H d => by simp only [zO, nrm, List.map_cons, List.map_nil])
structure GLe where
 Word : Int
 Letters : Int
 deriving Inhabited, DecidableEq
def cGLe (x : GLe) : List VV := [.lit (.int .i64 x.Word), .lit (.int .i64 x.Letters)]
theorem zP {x : GLe} : cGLe x = [.lit (.int .i64 x.Word), .lit (.int .i64 x.Letters)] := rfl
theorem dz : EncOk cGLe := EncOk.of (fun x => by simp only [zP, tre, cu.tree, cu.treeL, cI.tree, cI.treeL, di.tree, di.treeL, dy.tree, dy.treeL, Bool.and_self]) (fun x => by simp only [zP, nrm, cu.norm, cu.normL, cu.shown, cu.showL, cI.norm, cI.normL, cI.shown, cI.showL, di.norm, di.normL, di.shown, di.showL, dy.norm, dy.normL, dy.shown, dy.showL]) (fun x H d => by simp only [zP, nrm, List.map_cons, List.map_nil])
structure GLx where
 Out : List Int
 Ends : List GLe
 deriving Inhabited, DecidableEq
def cGLx (x : GLx) : List VV := [.sl (aa eI x.Out) (List.length x.Out) false, .sl (aa cGLe x.Ends) (List.length x.Ends) false]
theorem Cq {x : GLx} : cGLx x = [.sl (aa eI x.Out) (List.length x.Out) false, .sl (aa cGLe x.Ends) (List.length x.Ends) false] := rfl
theorem gF : EncOk cGLx := EncOk.of (fun x => by simp only [Cq, tre, cu.tree, cu.treeL, cI.tree, cI.treeL, di.tree, di.treeL, dy.tree, dy.treeL, dz.tree, dz.treeL, Bool.and_self]) (fun x => by simp only [Cq, nrm, cu.norm, cu.normL, cu.shown, cu.showL, cI.norm, cI.normL, cI.shown, cI.showL, di.norm, di.normL, di.shown, di.showL, dy.norm, dy.normL, dy.shown, dy.showL, dz.norm, dz.normL, dz.shown, dz.showL]) (fun x H d => by simp only [Cq, nrm, List.map_cons, List.map_nil])
structure Grl where
 Word : Int
 Sign : Int
 deriving Inhabited, DecidableEq
def cGrl (x : Grl) : List VV := [.lit (.int .i64 x.Word), .lit (.int .i64 x.Sign)]
theorem Cr {x : Grl} : cGrl x = [.lit (.int .i64 x.Word), .lit (.int .i64 x.Sign)] := rfl
theorem js : EncOk cGrl := EncOk.of (fun x => by simp only [Cr, tre, cu.tree, cu.treeL, cI.tree, cI.treeL, di.tree, di.treeL, dy.tree, dy.treeL, dz.tree, dz.treeL, gF.tree, gF.treeL, Bool.and_self]) (fun x => by simp only [Cr, nrm, cu.norm, cu.normL, cu.shown, cu.showL, cI.norm, cI.normL, cI.shown, cI.showL, di.norm, di.normL, di.shown, di.showL, dy.norm, dy.normL, dy.shown, dy.showL, dz.norm, dz.normL, dz.shown, dz.showL, gF.norm, gF.normL, gF.shown, gF.showL]) (fun x H d => by simp only [Cr, nrm, List.map_cons, List.map_nil])
structure Glm where
 word : Int
 sign : Int
 row : Int
 hyphen : Bool
 deriving Inhabited, DecidableEq
def cGlm (x : Glm) : List VV := [.lit (.int .i64 x.word), .lit (.int .i64 x.sign), .lit (.int .i64 x.row), .lit (.bool x.hyphen)]
theorem zQ {x : Glm} : cGlm x = [.lit (.int .i64 x.word), .lit (.int .i64 x.sign), .lit (.int .i64 x.row), .lit (.bool x.hyphen)] := rfl
theorem ku : EncOk cGlm := EncOk.of (fun x => by simp only [zQ, tre, cu.tree, cu.treeL, cI.tree, cI.treeL, di.tree, di.treeL, dy.tree, dy.treeL, dz.tree, dz.treeL, gF.tree, gF.treeL, js.tree, js.treeL, Bool.and_self]) (fun x => by simp only [zQ, nrm, cu.norm, cu.normL, cu.shown, cu.showL, cI.norm, cI.normL, cI.shown, cI.showL, di.norm, di.normL, di.shown, di.showL, dy.norm, dy.normL, dy.shown, dy.showL, dz.norm, dz.normL, dz.shown, dz.showL, gF.norm, gF.normL, gF.shown, gF.showL, js.norm, js.normL, js.shown, js.showL]) (fun x H d => by simp only [zQ, nrm, List.map_cons, List.map_nil])
structure Glp where
 left : Int
 right : Int
 deriving Inhabited, DecidableEq
def cGlp (x : Glp) : List VV := [.lit (.int .i64 x.left), .lit (.int .i64 x.right)]
theorem Cs {x : Glp} : cGlp x = [.lit (.int .i64 x.left), .lit (.int .i64 x.right)] := rfl
theorem sf : EncOk cGlp := EncOk.of (fun x => by simp only [Cs, tre, cu.tree, cu.treeL, cI.tree, cI.treeL, di.tree, di.treeL, dy.tree, dy.treeL, dz.tree, dz.treeL, gF.tree, gF.treeL, js.tree, js.treeL, ku.tree, ku.treeL, Bool.and_self]) (fun x => by simp only [Cs, nrm, cu.norm, cu.normL, cu.shown, cu.showL, cI.norm, cI.normL, cI.shown, cI.showL, di.norm, di.normL, di.shown, di.showL, dy.norm, dy.normL, dy.shown, dy.showL, dz.norm, dz.normL, dz.shown, dz.showL, gF.norm, gF.normL, gF.shown, gF.showL, js.norm, js.normL, js.shown, js.showL, ku.norm, ku.normL, ku.shown, ku.showL]) (fun x H d => by simp only [Cs, nrm, List.map_cons, List.map_nil])
def cv (k : Glp) : Value := .agg ⟨[.int .i64 k.left, .int .i64 k.right]⟩
def eC (n : GSpan) : VV := .agg (cGSpan n)
theorem oG {l : List (Glp × GSpan)} : (VV.mt (mtK cv l) (mtV eC l)).tree = true := mt_tr fun v => by simp only [eC, tre, cu.tree, cu.treeL, cI.tree, cI.treeL, di.tree, di.treeL, dy.tree, dy.treeL, dz.tree, dz.treeL, gF.tree, gF.treeL, js.tree, js.treeL, ku.tree, ku.treeL, sf.tree, sf.treeL, Bool.and_self]
structure Gld where
 ls : GLs
 lx : GLx
 stretch : Int
 spaces : List (Glp × GSpan)
 marks : List Glm
 deriving Inhabited, DecidableEq
def cGld (x : Gld) : List VV := [.sl (aa eI x.ls.Widths) (List.length x.ls.Widths) false, .sl (aa cGLp x.ls.Pairs) (List.length x.ls.Pairs) false, .lit (.int .i64 x.ls.Other.Low), .lit (.int .i64 x.ls.Other.High), .lit (.int .i64 x.ls.Gap.Low), .lit (.int .i64 x.ls.Gap.High), .lit (.int .i64 x.ls.Hyphen), .sl (aa cGLw x.ls.Words) (List.length x.ls.Words) false, .lit (.int .i64 x.ls.Wide), .lit (.int .i64 x.ls.Rows), .sl (aa eI x.lx.Out) (List.length x.lx.Out) false, .sl (aa cGLe x.lx.Ends) (List.length x.lx.Ends) false, .lit (.int .i64 x.stretch), .mt (mtK cv x.spaces) (mtV eC x.spaces), .sl (aa cGlm x.marks) (List.length x.marks) false]
theorem yp {x : Gld} : cGld x = [.sl (aa eI x.ls.Widths) (List.length x.ls.Widths) false, .sl (aa cGLp x.ls.Pairs) (List.length x.ls.Pairs) false, .lit (.int .i64 x.ls.Other.Low), .lit (.int .i64 x.ls.Other.High), .lit (.int .i64 x.ls.Gap.Low), .lit (.int .i64 x.ls.Gap.High), .lit (.int .i64 x.ls.Hyphen), .sl (aa cGLw x.ls.Words) (List.length x.ls.Words) false, .lit (.int .i64 x.ls.Wide), .lit (.int .i64 x.ls.Rows), .sl (aa eI x.lx.Out) (List.length x.lx.Out) false, .sl (aa cGLe x.lx.Ends) (List.length x.lx.Ends) false, .lit (.int .i64 x.stretch), .mt (mtK cv x.spaces) (mtV eC x.spaces), .sl (aa cGlm x.marks) (List.length x.marks) false] := rfl
theorem ME : EncOk cGld := EncOk.of (fun x => by simp only [yp, tre, cu.tree, cu.treeL, cI.tree, cI.treeL, di.tree, di.treeL, dy.tree, dy.treeL, dz.tree, dz.treeL, gF.tree, gF.treeL, js.tree, js.treeL, ku.tree, ku.treeL, sf.tree, sf.treeL, oG, Bool.and_self]) (fun x => by simp only [yp, nrm, cu.norm, cu.normL, cu.shown, cu.showL, cI.norm, cI.normL, cI.shown, cI.showL, di.norm, di.normL, di.shown, di.showL, dy.norm, dy.normL, dy.shown, dy.showL, dz.norm, dz.normL, dz.shown, dz.showL, gF.norm, gF.normL, gF.shown, gF.showL, js.norm, js.normL, js.shown, js.showL, ku.norm, ku.normL, ku.shown, ku.showL, sf.norm, sf.normL, sf.shown, sf.showL, Bt, xb]) (fun x H d => by simp only [yp, nrm, List.map_cons, List.map_nil, xb])
theorem Wa {c : VV} {cs : List VV} : aR Tryz.prog 3 (c :: cs) = some c := by
 have h1 : aggT Tryz.prog 3 = some false := by kernel_rfl
 simp [aR, vpart, h1]
theorem Wb : szT Tryz.prog 3 = some 1 := by kernel_rfl
theorem MF : vzl Tryz.prog 3 = some [.lit (.int .i64 0)] := by kernel_rfl
theorem Wc {c : VV} {cs : List VV} : aR Tryz.prog 4 (c :: cs) = some c := by
 have h1 : aggT Tryz.prog 4 = some false := by kernel_rfl
 simp [aR, vpart, h1]
theorem Wd : szT Tryz.prog 4 = some 1 := by kernel_rfl
theorem MG : vzl Tryz.prog 4 = some [.lit (.bool false)] := by kernel_rfl
theorem MH {c : VV} {cs : List VV} : aR Tryz.prog 22 (c :: cs) = some c := by
 have h1 : aggT Tryz.prog 22 = some false := by kernel_rfl
 simp [aR, vpart, h1]
theorem zR {H : Nat → Option VObj} {cs : List VV} {n : Nat} {f : Bool} : vlen Tryz.prog H 22 (.sl cs n f) = some (.lit (.int .i64 n)) := by simp [vlen, Tryz.underlying22, sls]
theorem lenN22 {H : Nat → Option VObj} : vlen Tryz.prog H 22 (.lit (.slice none 0 0)) = some (.lit (.int .i64 0)) := by simp [vlen, Tryz.underlying22, sls]
theorem lenR22 {H : Nat → Option VObj} {β off n w c : Nat} : vlen Tryz.prog H 22 (.ref β off n w c) = (match H β with | some (.cells _ cs) => if off ≤ cs.length then some (.lit (.int .i64 n)) else none | _ => none) := lenR Tryz.underlying22
theorem iR : elemT Tryz.prog 22 = some 3 := by simp [elemT, Tryz.underlying22]
theorem mH : appOk Tryz.prog 22 = some (3, 1, 8) := by kernel_rfl
theorem MI {xs : List Int} : (aa eI xs).take (xs.length * 1) = aa eI xs := HV (fun _ => rfl)
theorem ot : ∀ x : Int, leafL (eI x) = true := fun x => by simp only [eI_eq, qb, eB_eq, eS_eq, qc, k6, k7, Bv, Bw, Bx, By, Bz, Bool.and_self]
theorem rR {xs : List Int} {x : Int} {i : Int} (h : getI xs i = some x) : (∀ (H : Nat → Option VObj) (β c : Nat) (k : IntKind), aA Tryz.prog H 22 (.ref β 0 xs.length 1 c) (.lit (.int k i)) = if (H β).isSome = true then some (.ptr β (i.toNat * 1)) else none) ∧ (aa eI xs).drop (i.toNat * 1) = eI x ++ aa eI (xs.drop (i.toNat + 1)) ∧ (i.toNat * 1 ≤ (aa eI xs).length) = True := ixO Tryz.underlying22 (by kernel_rfl : szT Tryz.prog 3 = some 1) (fun _ => rfl) h
theorem MJ {a0 : VV} (h : leafL [a0] = true) : aN Tryz.prog 22 1 [(0, a0)] = some ([a0], 1) := by
 have h2 : szT Tryz.prog 3 = some 1 := by kernel_rfl
 have h3 : vzero Tryz.prog 3 = some #[.int .i64 0] := by kernel_rfl
 simp only [k7, k6, Bool.and_true, Bool.and_eq_true] at h
 simp [aN, Tryz.underlying22, h2, h3, vfill, vcells1, h, overwrite, vzeros, List.range_succ]
theorem MK {a0 a1 : VV} (h : leafL [a0, a1] = true) : aN Tryz.prog 22 2 [(0, a0), (1, a1)] = some ([a0, a1], 1) := by
 have h2 : szT Tryz.prog 3 = some 1 := by kernel_rfl
 have h3 : vzero Tryz.prog 3 = some #[.int .i64 0] := by kernel_rfl
 simp only [k7, k6, Bool.and_true, Bool.and_eq_true] at h
 simp [aN, Tryz.underlying22, h2, h3, vfill, vcells1, h, overwrite, vzeros, List.range_succ]
theorem aC {H : Nat → Option VObj} {xs : List Int} {x : Int} {f : Bool} {k : IntKind} {i : Int} (h : getI xs i = some x) : aA Tryz.prog H 22 (.sl (aa eI xs) xs.length f) (.lit (.int k i)) = some (.tp (eI x ++ aa eI (xs.drop (i.toNat + 1)))) :=
 ixG Tryz.underlying22 (by kernel_rfl : szT Tryz.prog 3 = some 1) (by decide) (fun _ => rfl) h
theorem ML {c : VV} {cs : List VV} : aR Tryz.prog 23 (c :: cs) = some c := by
 have h1 : aggT Tryz.prog 23 = some false := by kernel_rfl
 simp [aR, vpart, h1]
theorem zS {H : Nat → Option VObj} {cs : List VV} {n : Nat} {f : Bool} : vlen Tryz.prog H 23 (.sl cs n f) = some (.lit (.int .i64 n)) := by simp [vlen, Tryz.underlying23, sls]
theorem lenN23 {H : Nat → Option VObj} : vlen Tryz.prog H 23 (.lit (.slice none 0 0)) = some (.lit (.int .i64 0)) := by simp [vlen, Tryz.underlying23, sls]
theorem lenR23 {H : Nat → Option VObj} {β off n w c : Nat} : vlen Tryz.prog H 23 (.ref β off n w c) = (match H β with | some (.cells _ cs) => if off ≤ cs.length then some (.lit (.int .i64 n)) else none | _ => none) := lenR Tryz.underlying23
theorem bU {H : Nat → Option VObj} {xs : List GLp} {x : GLp} {f : Bool} {k : IntKind} {i : Int} (h : getI xs i = some x) : aA Tryz.prog H 23 (.sl (aa cGLp xs) xs.length f) (.lit (.int k i)) = some (.tp (cGLp x ++ aa cGLp (xs.drop (i.toNat + 1)))) :=
 ixG Tryz.underlying23 (by kernel_rfl : szT Tryz.prog 108 = some 4) (by decide) (fun _ => rfl) h
theorem MM {c0 c1 : VV} {cs : List VV} : aR Tryz.prog 25 (c0 :: c1 :: cs) = some (.agg [c0, c1]) := by
 have h1 : aggT Tryz.prog 25 = some true := by kernel_rfl
 have h2 : szT Tryz.prog 25 = some 2 := by kernel_rfl
 simp [aR, vpart, h1, h2]
theorem MN : szT Tryz.prog 25 = some 2 := by kernel_rfl
theorem zT : vzl Tryz.prog 25 = some [.lit (.int .i64 0), .lit (.int .i64 0)] := by kernel_rfl
theorem MO {H : Nat → Option VObj} {β o : Nat} : ae Tryz.prog H 25 (.ptr β o) 0 = if (H β).isSome = true then some (.ptr β (o + 0)) else none := by
 have h2 : szT Tryz.prog 3 = some 1 := by kernel_rfl
 simp [ae, Tryz.underlying25, h2]
theorem MP {H : Nat → Option VObj} {β o : Nat} : ae Tryz.prog H 25 (.ptr β o) 1 = if (H β).isSome = true then some (.ptr β (o + 1)) else none := by
 have h2 : szT Tryz.prog 3 = some 1 := by kernel_rfl
 simp [ae, Tryz.underlying25, h2]
theorem MQ {c : VV} {cs : List VV} : aR Tryz.prog 26 (c :: cs) = some c := by
 have h1 : aggT Tryz.prog 26 = some false := by kernel_rfl
 simp [aR, vpart, h1]
theorem zU {H : Nat → Option VObj} {cs : List VV} {n : Nat} {f : Bool} : vlen Tryz.prog H 26 (.sl cs n f) = some (.lit (.int .i64 n)) := by simp [vlen, Tryz.underlying26, sls]
theorem lenN26 {H : Nat → Option VObj} : vlen Tryz.prog H 26 (.lit (.slice none 0 0)) = some (.lit (.int .i64 0)) := by simp [vlen, Tryz.underlying26, sls]
theorem lenR26 {H : Nat → Option VObj} {β off n w c : Nat} : vlen Tryz.prog H 26 (.ref β off n w c) = (match H β with | some (.cells _ cs) => if off ≤ cs.length then some (.lit (.int .i64 n)) else none | _ => none) := lenR Tryz.underlying26
theorem aE {H : Nat → Option VObj} {xs : List GLw} {x : GLw} {f : Bool} {k : IntKind} {i : Int} (h : getI xs i = some x) : aA Tryz.prog H 26 (.sl (aa cGLw xs) xs.length f) (.lit (.int k i)) = some (.tp (cGLw x ++ aa cGLw (xs.drop (i.toNat + 1)))) :=
 ixG Tryz.underlying26 (by kernel_rfl : szT Tryz.prog 79 = some 3) (by decide) (fun _ => rfl) h
theorem MR {c0 c1 c2 c3 c4 c5 c6 c7 c8 c9 : VV} {cs : List VV} : aR Tryz.prog 28 (c0 :: c1 :: c2 :: c3 :: c4 :: c5 :: c6 :: c7 :: c8 :: c9 :: cs) = some (.agg [c0, c1, c2, c3, c4, c5, c6, c7, c8, c9]) := by
 have h1 : aggT Tryz.prog 28 = some true := by kernel_rfl
 have h2 : szT Tryz.prog 28 = some 10 := by kernel_rfl
 simp [aR, vpart, h1, h2]
theorem MS : szT Tryz.prog 28 = some 10 := by kernel_rfl
theorem zV : vzl Tryz.prog 28 = some [.lit (.slice none 0 0), .lit (.slice none 0 0), .lit (.int .i64 0), .lit (.int .i64 0), .lit (.int .i64 0), .lit (.int .i64 0), .lit (.int .i64 0), .lit (.slice none 0 0), .lit (.int .i64 0), .lit (.int .i64 0)] := by kernel_rfl
theorem MT {H : Nat → Option VObj} {β o : Nat} : ae Tryz.prog H 28 (.ptr β o) 0 = if (H β).isSome = true then some (.ptr β (o + 0)) else none := by
 have h2 : szT Tryz.prog 22 = some 1 := by kernel_rfl
 simp [ae, Tryz.underlying28, h2]
theorem MU {H : Nat → Option VObj} {β o : Nat} : ae Tryz.prog H 28 (.ptr β o) 1 = if (H β).isSome = true then some (.ptr β (o + 1)) else none := by
 have h2 : szT Tryz.prog 23 = some 1 := by kernel_rfl
 simp [ae, Tryz.underlying28, h2]
theorem MV {H : Nat → Option VObj} {β o : Nat} : ae Tryz.prog H 28 (.ptr β o) 2 = if (H β).isSome = true then some (.ptr β (o + 2)) else none := by
 have h2 : szT Tryz.prog 25 = some 2 := by kernel_rfl
 simp [ae, Tryz.underlying28, h2]
theorem MW {H : Nat → Option VObj} {β o : Nat} : ae Tryz.prog H 28 (.ptr β o) 3 = if (H β).isSome = true then some (.ptr β (o + 4)) else none := by
 have h2 : szT Tryz.prog 25 = some 2 := by kernel_rfl
 simp [ae, Tryz.underlying28, h2]
theorem MX {H : Nat → Option VObj} {β o : Nat} : ae Tryz.prog H 28 (.ptr β o) 4 = if (H β).isSome = true then some (.ptr β (o + 6)) else none := by
 have h2 : szT Tryz.prog 3 = some 1 := by kernel_rfl
 simp [ae, Tryz.underlying28, h2]
theorem MY {H : Nat → Option VObj} {β o : Nat} : ae Tryz.prog H 28 (.ptr β o) 5 = if (H β).isSome = true then some (.ptr β (o + 7)) else none := by
 have h2 : szT Tryz.prog 26 = some 1 := by kernel_rfl
 simp [ae, Tryz.underlying28, h2]
theorem MZ {H : Nat → Option VObj} {β o : Nat} : ae Tryz.prog H 28 (.ptr β o) 6 = if (H β).isSome = true then some (.ptr β (o + 8)) else none := by
 have h2 : szT Tryz.prog 3 = some 1 := by kernel_rfl
 simp [ae, Tryz.underlying28, h2]
theorem Na {H : Nat → Option VObj} {cs : List VV} : ae Tryz.prog H 28 (.tp cs) 7 = some (.tp (cs.drop 9)) := by
 have h2 : szT Tryz.prog 3 = some 1 := by kernel_rfl
 simp [ae, Tryz.underlying28, h2]
theorem Nb {H : Nat → Option VObj} {β o : Nat} : ae Tryz.prog H 28 (.ptr β o) 7 = if (H β).isSome = true then some (.ptr β (o + 9)) else none := by
 have h2 : szT Tryz.prog 3 = some 1 := by kernel_rfl
 simp [ae, Tryz.underlying28, h2]
theorem Nc {c : VV} {cs : List VV} : aR Tryz.prog 29 (c :: cs) = some c := by
 have h1 : aggT Tryz.prog 29 = some false := by kernel_rfl
 simp [aR, vpart, h1]
theorem Nd : szT Tryz.prog 29 = some 1 := by kernel_rfl
theorem zW : vzl Tryz.prog 29 = some [.lit (.slice none 0 0)] := by kernel_rfl
theorem zX {H : Nat → Option VObj} {cs : List VV} {n : Nat} {f : Bool} : vlen Tryz.prog H 29 (.sl cs n f) = some (.lit (.int .i64 n)) := by simp [vlen, Tryz.underlying29, sls]
theorem lenN29 {H : Nat → Option VObj} : vlen Tryz.prog H 29 (.lit (.slice none 0 0)) = some (.lit (.int .i64 0)) := by simp [vlen, Tryz.underlying29, sls]
theorem lenR29 {H : Nat → Option VObj} {β off n w c : Nat} : vlen Tryz.prog H 29 (.ref β off n w c) = (match H β with | some (.cells _ cs) => if off ≤ cs.length then some (.lit (.int .i64 n)) else none | _ => none) := lenR Tryz.underlying29
theorem gG : elemT Tryz.prog 29 = some 100 := by simp [elemT, Tryz.underlying29]
theorem fI : appOk Tryz.prog 29 = some (100, 2, 16) := by kernel_rfl
theorem Nf {xs : List GLe} : (aa cGLe xs).take (xs.length * 2) = aa cGLe xs := HV (fun _ => rfl)
theorem fJ : ∀ x : GLe, leafL (cGLe x) = true := fun x => by simp only [eI_eq, qb, eB_eq, eS_eq, qc, zP, k6, k7, Bv, Bw, Bx, By, Bz, Bool.and_self]
theorem Ng {c0 c1 : VV} (h : leafL [c0, c1] = true) : aN Tryz.prog 29 1 [(0, .agg [c0, c1])] = some ([c0, c1], 2) := by
 have h2 : szT Tryz.prog 100 = some 2 := by kernel_rfl
 have h3 : vzero Tryz.prog 100 = some #[.int .i64 0, .int .i64 0] := by kernel_rfl
 simp only [k7, k6, Bool.and_true, Bool.and_eq_true] at h
 simp [aN, Tryz.underlying29, h2, h3, vfill, aU, h, overwrite, vzeros]
theorem bk {H : Nat → Option VObj} {xs : List GLe} {x : GLe} {f : Bool} {k : IntKind} {i : Int} (h : getI xs i = some x) : aA Tryz.prog H 29 (.sl (aa cGLe xs) xs.length f) (.lit (.int k i)) = some (.tp (cGLe x ++ aa cGLe (xs.drop (i.toNat + 1)))) :=
 ixG Tryz.underlying29 (by kernel_rfl : szT Tryz.prog 100 = some 2) (by decide) (fun _ => rfl) h
theorem Nh {c0 c1 : VV} {cs : List VV} : aR Tryz.prog 31 (c0 :: c1 :: cs) = some (.agg [c0, c1]) := by
 have h1 : aggT Tryz.prog 31 = some true := by kernel_rfl
 have h2 : szT Tryz.prog 31 = some 2 := by kernel_rfl
 simp [aR, vpart, h1, h2]
theorem Ni : szT Tryz.prog 31 = some 2 := by kernel_rfl
theorem oR : vzl Tryz.prog 31 = some [.lit (.slice none 0 0), .lit (.slice none 0 0)] := by kernel_rfl
theorem Nj {H : Nat → Option VObj} {β o : Nat} : ae Tryz.prog H 31 (.ptr β o) 0 = if (H β).isSome = true then some (.ptr β (o + 0)) else none := by
 have h2 : szT Tryz.prog 22 = some 1 := by kernel_rfl
 simp [ae, Tryz.underlying31, h2]
theorem Nk {H : Nat → Option VObj} {β o : Nat} : ae Tryz.prog H 31 (.ptr β o) 1 = if (H β).isSome = true then some (.ptr β (o + 1)) else none := by
 have h2 : szT Tryz.prog 29 = some 1 := by kernel_rfl
 simp [ae, Tryz.underlying31, h2]
theorem zY {H : Nat → Option VObj} {cs : List VV} {n : Nat} {f : Bool} : vlen Tryz.prog H 44 (.sl cs n f) = some (.lit (.int .i64 n)) := by simp [vlen, Tryz.underlying44, sls]
theorem lenN44 {H : Nat → Option VObj} : vlen Tryz.prog H 44 (.lit (.slice none 0 0)) = some (.lit (.int .i64 0)) := by simp [vlen, Tryz.underlying44, sls]
theorem lenR44 {H : Nat → Option VObj} {β off n w c : Nat} : vlen Tryz.prog H 44 (.ref β off n w c) = (match H β with | some (.cells _ cs) => if off ≤ cs.length then some (.lit (.int .i64 n)) else none | _ => none) := lenR Tryz.underlying44
theorem zZ {H : Nat → Option VObj} {cs : List VV} {n : Nat} {f : Bool} : vlen Tryz.prog H 47 (.sl cs n f) = some (.lit (.int .i64 n)) := by simp [vlen, Tryz.underlying47, sls]
theorem lenN47 {H : Nat → Option VObj} : vlen Tryz.prog H 47 (.lit (.slice none 0 0)) = some (.lit (.int .i64 0)) := by simp [vlen, Tryz.underlying47, sls]
theorem lenR47 {H : Nat → Option VObj} {β off n w c : Nat} : vlen Tryz.prog H 47 (.ref β off n w c) = (match H β with | some (.cells _ cs) => if off ≤ cs.length then some (.lit (.int .i64 n)) else none | _ => none) := lenR Tryz.underlying47
theorem Aa {H : Nat → Option VObj} {cs : List VV} {n : Nat} {f : Bool} : vlen Tryz.prog H 49 (.sl cs n f) = some (.lit (.int .i64 n)) := by simp [vlen, Tryz.underlying49, sls]
theorem lenN49 {H : Nat → Option VObj} : vlen Tryz.prog H 49 (.lit (.slice none 0 0)) = some (.lit (.int .i64 0)) := by simp [vlen, Tryz.underlying49, sls]
theorem lenR49 {H : Nat → Option VObj} {β off n w c : Nat} : vlen Tryz.prog H 49 (.ref β off n w c) = (match H β with | some (.cells _ cs) => if off ≤ cs.length then some (.lit (.int .i64 n)) else none | _ => none) := lenR Tryz.underlying49
theorem Nl {c0 c1 c2 : VV} {cs : List VV} : aR Tryz.prog 79 (c0 :: c1 :: c2 :: cs) = some (.agg [c0, c1, c2]) := by
 have h1 : aggT Tryz.prog 79 = some true := by kernel_rfl
 have h2 : szT Tryz.prog 79 = some 3 := by kernel_rfl
 simp [aR, vpart, h1, h2]
theorem Nm : szT Tryz.prog 79 = some 3 := by kernel_rfl
theorem Ab : vzl Tryz.prog 79 = some [.lit (.slice none 0 0), .lit (.slice none 0 0), .lit (.bool false)] := by kernel_rfl
theorem Nn {H : Nat → Option VObj} {cs : List VV} : ae Tryz.prog H 79 (.tp cs) 0 = some (.tp (cs.drop 0)) := by
 have h2 : szT Tryz.prog 22 = some 1 := by kernel_rfl
 simp [ae, Tryz.underlying79, h2]
theorem No {H : Nat → Option VObj} {β o : Nat} : ae Tryz.prog H 79 (.ptr β o) 0 = if (H β).isSome = true then some (.ptr β (o + 0)) else none := by
 have h2 : szT Tryz.prog 22 = some 1 := by kernel_rfl
 simp [ae, Tryz.underlying79, h2]
theorem Np {H : Nat → Option VObj} {cs : List VV} : ae Tryz.prog H 79 (.tp cs) 1 = some (.tp (cs.drop 1)) := by
 have h2 : szT Tryz.prog 22 = some 1 := by kernel_rfl
 simp [ae, Tryz.underlying79, h2]
theorem Nq {H : Nat → Option VObj} {β o : Nat} : ae Tryz.prog H 79 (.ptr β o) 1 = if (H β).isSome = true then some (.ptr β (o + 1)) else none := by
 have h2 : szT Tryz.prog 22 = some 1 := by kernel_rfl
 simp [ae, Tryz.underlying79, h2]
theorem Nr {H : Nat → Option VObj} {cs : List VV} : ae Tryz.prog H 79 (.tp cs) 2 = some (.tp (cs.drop 2)) := by
 have h2 : szT Tryz.prog 4 = some 1 := by kernel_rfl
 simp [ae, Tryz.underlying79, h2]
theorem Ns {c : VV} {cs : List VV} : aR Tryz.prog 91 (c :: cs) = some c := by
 have h1 : aggT Tryz.prog 91 = some false := by kernel_rfl
 simp [aR, vpart, h1]
theorem Nt : szT Tryz.prog 91 = some 1 := by kernel_rfl
theorem Ac {H : Nat → Option VObj} {cs : List VV} {n : Nat} {f : Bool} : vlen Tryz.prog H 91 (.sl cs n f) = some (.lit (.int .i64 n)) := by simp [vlen, Tryz.underlying91, sls]
theorem lenN91 {H : Nat → Option VObj} : vlen Tryz.prog H 91 (.lit (.slice none 0 0)) = some (.lit (.int .i64 0)) := by simp [vlen, Tryz.underlying91, sls]
theorem lenR91 {H : Nat → Option VObj} {β off n w c : Nat} : vlen Tryz.prog H 91 (.ref β off n w c) = (match H β with | some (.cells _ cs) => if off ≤ cs.length then some (.lit (.int .i64 n)) else none | _ => none) := lenR Tryz.underlying91
theorem gw : elemT Tryz.prog 91 = some 144 := by simp [elemT, Tryz.underlying91]
theorem kn : appOk Tryz.prog 91 = some (144, 4, 32) := by kernel_rfl
theorem Nu {xs : List Glm} : (aa cGlm xs).take (xs.length * 4) = aa cGlm xs := HV (fun _ => rfl)
theorem km : ∀ x : Glm, leafL (cGlm x) = true := fun x => by simp only [eI_eq, qb, eB_eq, eS_eq, qc, zQ, k6, k7, Bv, Bw, Bx, By, Bz, Bool.and_self]
theorem Nv {c0 c1 c2 c3 : VV} (h : leafL [c0, c1, c2, c3] = true) : aN Tryz.prog 91 1 [(0, .agg [c0, c1, c2, c3])] = some ([c0, c1, c2, c3], 4) := by
 have h2 : szT Tryz.prog 144 = some 4 := by kernel_rfl
 have h3 : vzero Tryz.prog 144 = some #[.int .i64 0, .int .i64 0, .int .i64 0, .bool false] := by kernel_rfl
 simp only [k7, k6, Bool.and_true, Bool.and_eq_true] at h
 simp [aN, Tryz.underlying91, h2, h3, vfill, aU, h, overwrite, vzeros]
theorem bc {H : Nat → Option VObj} {xs : List Glm} {x : Glm} {f : Bool} {k : IntKind} {i : Int} (h : getI xs i = some x) : aA Tryz.prog H 91 (.sl (aa cGlm xs) xs.length f) (.lit (.int k i)) = some (.tp (cGlm x ++ aa cGlm (xs.drop (i.toNat + 1)))) :=
 ixG Tryz.underlying91 (by kernel_rfl : szT Tryz.prog 144 = some 4) (by decide) (fun _ => rfl) h
theorem Nw {c0 c1 c2 c3 c4 c5 c6 c7 c8 c9 R3 Ce R4 R5 R6 : VV} {cs : List VV} : aR Tryz.prog 93 (c0 :: c1 :: c2 :: c3 :: c4 :: c5 :: c6 :: c7 :: c8 :: c9 :: R3 :: Ce :: R4 :: R5 :: R6 :: cs) = some (.agg [c0, c1, c2, c3, c4, c5, c6, c7, c8, c9, R3, Ce, R4, R5, R6]) := by
 have h1 : aggT Tryz.prog 93 = some true := by kernel_rfl
 have h2 : szT Tryz.prog 93 = some 15 := by kernel_rfl
 simp [aR, vpart, h1, h2]
theorem Nx : szT Tryz.prog 93 = some 15 := by kernel_rfl
theorem oS : vzl Tryz.prog 93 = some [.lit (.slice none 0 0), .lit (.slice none 0 0), .lit (.int .i64 0), .lit (.int .i64 0), .lit (.int .i64 0), .lit (.int .i64 0), .lit (.int .i64 0), .lit (.slice none 0 0), .lit (.int .i64 0), .lit (.int .i64 0), .lit (.slice none 0 0), .lit (.slice none 0 0), .lit (.int .i64 0), .lit (.map none), .lit (.slice none 0 0)] := by kernel_rfl
theorem Ny {H : Nat → Option VObj} {β o : Nat} : ae Tryz.prog H 93 (.ptr β o) 0 = if (H β).isSome = true then some (.ptr β (o + 0)) else none := by
 have h2 : szT Tryz.prog 28 = some 10 := by kernel_rfl
 simp [ae, Tryz.underlying93, h2]
theorem Nz {H : Nat → Option VObj} {β o : Nat} : ae Tryz.prog H 93 (.ptr β o) 1 = if (H β).isSome = true then some (.ptr β (o + 10)) else none := by
 have h2 : szT Tryz.prog 31 = some 2 := by kernel_rfl
 simp [ae, Tryz.underlying93, h2]
theorem N0 {H : Nat → Option VObj} {β o : Nat} : ae Tryz.prog H 93 (.ptr β o) 2 = if (H β).isSome = true then some (.ptr β (o + 12)) else none := by
 have h2 : szT Tryz.prog 3 = some 1 := by kernel_rfl
 simp [ae, Tryz.underlying93, h2]
theorem N1 {H : Nat → Option VObj} {β o : Nat} : ae Tryz.prog H 93 (.ptr β o) 3 = if (H β).isSome = true then some (.ptr β (o + 13)) else none := by
 have h2 : szT Tryz.prog 90 = some 1 := by kernel_rfl
 simp [ae, Tryz.underlying93, h2]
theorem N2 {H : Nat → Option VObj} {β o : Nat} : ae Tryz.prog H 93 (.ptr β o) 4 = if (H β).isSome = true then some (.ptr β (o + 14)) else none := by
 have h2 : szT Tryz.prog 91 = some 1 := by kernel_rfl
 simp [ae, Tryz.underlying93, h2]
theorem Ad {c0 c1 : VV} {cs : List VV} : aR Tryz.prog 100 (c0 :: c1 :: cs) = some (.agg [c0, c1]) := by
 have h1 : aggT Tryz.prog 100 = some true := by kernel_rfl
 have h2 : szT Tryz.prog 100 = some 2 := by kernel_rfl
 simp [aR, vpart, h1, h2]
theorem Ae : szT Tryz.prog 100 = some 2 := by kernel_rfl
theorem oT : vzl Tryz.prog 100 = some [.lit (.int .i64 0), .lit (.int .i64 0)] := by kernel_rfl
theorem N3 {H : Nat → Option VObj} {β o : Nat} : ae Tryz.prog H 100 (.ptr β o) 0 = if (H β).isSome = true then some (.ptr β (o + 0)) else none := by
 have h2 : szT Tryz.prog 3 = some 1 := by kernel_rfl
 simp [ae, Tryz.underlying100, h2]
theorem N4 {H : Nat → Option VObj} {β o : Nat} : ae Tryz.prog H 100 (.ptr β o) 1 = if (H β).isSome = true then some (.ptr β (o + 1)) else none := by
 have h2 : szT Tryz.prog 3 = some 1 := by kernel_rfl
 simp [ae, Tryz.underlying100, h2]
theorem Af {c0 c1 c2 c3 : VV} {cs : List VV} : aR Tryz.prog 108 (c0 :: c1 :: c2 :: c3 :: cs) = some (.agg [c0, c1, c2, c3]) := by
 have h1 : aggT Tryz.prog 108 = some true := by kernel_rfl
 have h2 : szT Tryz.prog 108 = some 4 := by kernel_rfl
 simp [aR, vpart, h1, h2]
theorem Ag : szT Tryz.prog 108 = some 4 := by kernel_rfl
theorem uk : vzl Tryz.prog 108 = some [.lit (.int .i64 0), .lit (.int .i64 0), .lit (.int .i64 0), .lit (.int .i64 0)] := by kernel_rfl
theorem N5 {H : Nat → Option VObj} {cs : List VV} : ae Tryz.prog H 108 (.tp cs) 0 = some (.tp (cs.drop 0)) := by
 have h2 : szT Tryz.prog 3 = some 1 := by kernel_rfl
 simp [ae, Tryz.underlying108, h2]
theorem N6 {H : Nat → Option VObj} {β o : Nat} : ae Tryz.prog H 108 (.ptr β o) 0 = if (H β).isSome = true then some (.ptr β (o + 0)) else none := by
 have h2 : szT Tryz.prog 3 = some 1 := by kernel_rfl
 simp [ae, Tryz.underlying108, h2]
theorem N7 {H : Nat → Option VObj} {cs : List VV} : ae Tryz.prog H 108 (.tp cs) 1 = some (.tp (cs.drop 1)) := by
 have h2 : szT Tryz.prog 3 = some 1 := by kernel_rfl
 simp [ae, Tryz.underlying108, h2]
theorem N8 {H : Nat → Option VObj} {β o : Nat} : ae Tryz.prog H 108 (.ptr β o) 1 = if (H β).isSome = true then some (.ptr β (o + 1)) else none := by
 have h2 : szT Tryz.prog 3 = some 1 := by kernel_rfl
 simp [ae, Tryz.underlying108, h2]
theorem N9 {H : Nat → Option VObj} {β o : Nat} : ae Tryz.prog H 108 (.ptr β o) 2 = if (H β).isSome = true then some (.ptr β (o + 2)) else none := by
 have h2 : szT Tryz.prog 25 = some 2 := by kernel_rfl
 simp [ae, Tryz.underlying108, h2]
theorem um {H : Nat → Option VObj} {cs : List VV} {n : Nat} {f : Bool} : vlen Tryz.prog H 117 (.sl cs n f) = some (.lit (.int .i64 n)) := by simp [vlen, Tryz.underlying117, sls]
theorem lenN117 {H : Nat → Option VObj} : vlen Tryz.prog H 117 (.lit (.slice none 0 0)) = some (.lit (.int .i64 0)) := by simp [vlen, Tryz.underlying117, sls]
theorem lenR117 {H : Nat → Option VObj} {β off n w c : Nat} : vlen Tryz.prog H 117 (.ref β off n w c) = (match H β with | some (.cells _ cs) => if off ≤ cs.length then some (.lit (.int .i64 n)) else none | _ => none) := lenR Tryz.underlying117
theorem uo : vzl Tryz.prog 142 = some [.lit (.int .i64 0), .lit (.int .i64 0)] := by kernel_rfl
theorem Ah {c0 c1 c2 c3 : VV} {cs : List VV} : aR Tryz.prog 144 (c0 :: c1 :: c2 :: c3 :: cs) = some (.agg [c0, c1, c2, c3]) := by
 have h1 : aggT Tryz.prog 144 = some true := by kernel_rfl
 have h2 : szT Tryz.prog 144 = some 4 := by kernel_rfl
 simp [aR, vpart, h1, h2]
theorem Ai : szT Tryz.prog 144 = some 4 := by kernel_rfl
theorem oU : vzl Tryz.prog 144 = some [.lit (.int .i64 0), .lit (.int .i64 0), .lit (.int .i64 0), .lit (.bool false)] := by kernel_rfl
theorem NA {H : Nat → Option VObj} {β o : Nat} : ae Tryz.prog H 144 (.ptr β o) 0 = if (H β).isSome = true then some (.ptr β (o + 0)) else none := by
 have h2 : szT Tryz.prog 3 = some 1 := by kernel_rfl
 simp [ae, Tryz.underlying144, h2]
theorem NB {H : Nat → Option VObj} {β o : Nat} : ae Tryz.prog H 144 (.ptr β o) 1 = if (H β).isSome = true then some (.ptr β (o + 1)) else none := by
 have h2 : szT Tryz.prog 3 = some 1 := by kernel_rfl
 simp [ae, Tryz.underlying144, h2]
theorem NC {H : Nat → Option VObj} {β o : Nat} : ae Tryz.prog H 144 (.ptr β o) 2 = if (H β).isSome = true then some (.ptr β (o + 2)) else none := by
 have h2 : szT Tryz.prog 3 = some 1 := by kernel_rfl
 simp [ae, Tryz.underlying144, h2]
theorem ND {H : Nat → Option VObj} {β o : Nat} : ae Tryz.prog H 144 (.ptr β o) 3 = if (H β).isSome = true then some (.ptr β (o + 3)) else none := by
 have h2 : szT Tryz.prog 4 = some 1 := by kernel_rfl
 simp [ae, Tryz.underlying144, h2]
theorem uq {H : Nat → Option VObj} {cs : List VV} {n : Nat} {f : Bool} : vlen Tryz.prog H 158 (.sl cs n f) = some (.lit (.int .i64 n)) := by simp [vlen, Tryz.underlying158, sls]
theorem lenN158 {H : Nat → Option VObj} : vlen Tryz.prog H 158 (.lit (.slice none 0 0)) = some (.lit (.int .i64 0)) := by simp [vlen, Tryz.underlying158, sls]
theorem lenR158 {H : Nat → Option VObj} {β off n w c : Nat} : vlen Tryz.prog H 158 (.ref β off n w c) = (match H β with | some (.cells _ cs) => if off ≤ cs.length then some (.lit (.int .i64 n)) else none | _ => none) := lenR Tryz.underlying158
theorem NF {c : VV} {cs : List VV} : aR Tryz.prog 33 (c :: cs) = some c := by
 have h1 : aggT Tryz.prog 33 = some false := by kernel_rfl
 simp [aR, vpart, h1]
theorem NG {c : VV} {cs : List VV} : aR Tryz.prog 64 (c :: cs) = some c := by
 have h1 : aggT Tryz.prog 64 = some false := by kernel_rfl
 simp [aR, vpart, h1]
theorem Aj {c : VV} {cs : List VV} : aR Tryz.prog 116 (c :: cs) = some c := by
 have h1 : aggT Tryz.prog 116 = some false := by kernel_rfl
 simp [aR, vpart, h1]
theorem Ak {c : VV} {cs : List VV} : aR Tryz.prog 152 (c :: cs) = some c := by
 have h1 : aggT Tryz.prog 152 = some false := by kernel_rfl
 simp [aR, vpart, h1]
theorem Al : szT Tryz.prog 155 = some 1 := by kernel_rfl
theorem Am {c : VV} {cs : List VV} : aR Tryz.prog 155 (c :: cs) = some c := by
 have h1 : aggT Tryz.prog 155 = some false := by kernel_rfl
 simp [aR, vpart, h1]
theorem ur : vzl Tryz.prog 155 = some [.lit .nilFunc] := by kernel_rfl
theorem An {c : VV} {cs : List VV} : aR Tryz.prog 178 (c :: cs) = some c := by
 have h1 : aggT Tryz.prog 178 = some false := by kernel_rfl
 simp [aR, vpart, h1]
theorem Ao : szT Tryz.prog 180 = some 2 := by kernel_rfl
theorem oV : vzl Tryz.prog 180 = some [.lit .nilFunc, .lit .nilFunc] := by kernel_rfl
theorem NH {H : Nat → Option VObj} {β o : Nat} {k : IntKind} : aA Tryz.prog H 180 (.ptr β o) (.lit (.int k 0)) = if (H β).isSome = true then some (.ptr β (o + 0)) else none := by
 have h2 : szT Tryz.prog 178 = some 1 := by kernel_rfl
 simp [aA, Tryz.underlying180, h2]
theorem NI : vbuild Tryz.prog 31 [] = some (.agg [.lit (.slice none 0 0), .lit (.slice none 0 0)]) := by
 rw [se oR (by kernel_rfl)]
 rfl
theorem NJ {cO cP : VV} (h : leafL [cO, cP] = true) : vbuild Tryz.prog 31 [(0, cO), (1, cP)] = some (.agg [cO, cP]) := by
 have p0 : placeT Tryz.prog 31 0 = some (0, 1) := by kernel_rfl
 have p1 : placeT Tryz.prog 31 1 = some (1, 1) := by kernel_rfl
 simp only [k7, k6, Bool.and_true, Bool.and_eq_true] at h
 rw [se oR (by kernel_rfl)]
 simp [vfill, p0, p1, vcells1, h, overwrite]
theorem NK : vbuild Tryz.prog 93 [] = some (.agg [.lit (.slice none 0 0), .lit (.slice none 0 0), .lit (.int .i64 0), .lit (.int .i64 0), .lit (.int .i64 0), .lit (.int .i64 0), .lit (.int .i64 0), .lit (.slice none 0 0), .lit (.int .i64 0), .lit (.int .i64 0), .lit (.slice none 0 0), .lit (.slice none 0 0), .lit (.int .i64 0), .lit (.map none), .lit (.slice none 0 0)]) := by
 rw [se oS (by kernel_rfl)]
 rfl
theorem We {cO oW oX oY oZ pa pb pc pd pf cP pg lJ lK : VV} (h : leafL [cO, oW, oX, oY, oZ, pa, pb, pc, pd, pf, cP, pg, lJ, lK] = true) : vbuild Tryz.prog 93 [(0, .agg [cO, oW, oX, oY, oZ, pa, pb, pc, pd, pf]), (1, .agg [cP, pg]), (2, lJ), (3, lK)] = some (.agg [cO, oW, oX, oY, oZ, pa, pb, pc, pd, pf, cP, pg, lJ, lK, .lit (.slice none 0 0)]) := by
 have p0 : placeT Tryz.prog 93 0 = some (0, 10) := by kernel_rfl
 have p1 : placeT Tryz.prog 93 1 = some (10, 2) := by kernel_rfl
 have p2 : placeT Tryz.prog 93 2 = some (12, 1) := by kernel_rfl
 have p3 : placeT Tryz.prog 93 3 = some (13, 1) := by kernel_rfl
 simp only [k7, k6, Bool.and_true, Bool.and_eq_true] at h
 have q0 : aU (.agg [cO, oW, oX, oY, oZ, pa, pb, pc, pd, pf]) = some [cO, oW, oX, oY, oZ, pa, pb, pc, pd, pf] := by rw [Ew]; simp [k7, k6, h]
 have q1 : aU (.agg [cP, pg]) = some [cP, pg] := by rw [Ew]; simp [k7, k6, h]
 rw [se oS (by kernel_rfl)]
 simp [vfill, p0, p1, p2, p3, vcells1, h, overwrite, q0, q1]
theorem NL {cO cP : VV} (h : leafL [cO, cP] = true) : vbuild Tryz.prog 100 [(0, cO), (1, cP)] = some (.agg [cO, cP]) := by
 have p0 : placeT Tryz.prog 100 0 = some (0, 1) := by kernel_rfl
 have p1 : placeT Tryz.prog 100 1 = some (1, 1) := by kernel_rfl
 simp only [k7, k6, Bool.and_true, Bool.and_eq_true] at h
 rw [se oT (by kernel_rfl)]
 simp [vfill, p0, p1, vcells1, h, overwrite]
theorem NM {cO cP : VV} (h : leafL [cO, cP] = true) : vbuild Tryz.prog 142 [(0, cO), (1, cP)] = some (.agg [cO, cP]) := by
 have p0 : placeT Tryz.prog 142 0 = some (0, 1) := by kernel_rfl
 have p1 : placeT Tryz.prog 142 1 = some (1, 1) := by kernel_rfl
 simp only [k7, k6, Bool.and_true, Bool.and_eq_true] at h
 rw [se uo (by kernel_rfl)]
 simp [vfill, p0, p1, vcells1, h, overwrite]
theorem Wf {cO cP lJ lK : VV} (h : leafL [cO, cP, lJ, lK] = true) : vbuild Tryz.prog 144 [(0, cO), (1, cP), (2, lJ), (3, lK)] = some (.agg [cO, cP, lJ, lK]) := by
 have p0 : placeT Tryz.prog 144 0 = some (0, 1) := by kernel_rfl
 have p1 : placeT Tryz.prog 144 1 = some (1, 1) := by kernel_rfl
 have p2 : placeT Tryz.prog 144 2 = some (2, 1) := by kernel_rfl
 have p3 : placeT Tryz.prog 144 3 = some (3, 1) := by kernel_rfl
 simp only [k7, k6, Bool.and_true, Bool.and_eq_true] at h
 rw [se oU (by kernel_rfl)]
 simp [vfill, p0, p1, p2, p3, vcells1, h, overwrite]
theorem Ap : vbuild Tryz.prog 149 [] = some (.agg []) := by kernel_rfl
theorem Aq : szT Tryz.prog 149 = some 0 := by kernel_rfl
theorem uu : vzl Tryz.prog 149 = some [] := by kernel_rfl
theorem NN {cO cP : VV} (h : leafL [cO, cP] = true) : vbuild Tryz.prog 180 [(0, cO), (1, cP)] = some (.agg [cO, cP]) := by
 have p0 : placeT Tryz.prog 180 0 = some (0, 1) := by kernel_rfl
 have p1 : placeT Tryz.prog 180 1 = some (1, 1) := by kernel_rfl
 simp only [k7, k6, Bool.and_true, Bool.and_eq_true] at h
 rw [se oV (by kernel_rfl)]
 simp [vfill, p0, p1, vcells1, h, overwrite]
theorem Wg {x : VV} : mkIfcV Tryz.prog 9 x = some (.ifc 9 x) := by simp [mkIfcV, Tryz.underlying9]
theorem Ar {x : VV} : mkIfcV Tryz.prog 149 x = some (.ifc 149 x) := by simp [mkIfcV, Tryz.underlying149]
theorem si : ((Tryz.prog.info? 149).bind (·.zero)).map (fun z => VV.tup [ofVal2 z, .lit (.bool false)]) = some (.tup [.agg [], .lit (.bool false)]) := by kernel_rfl
theorem As : vtypeAssert Tryz.prog (.lit .nilIface) 149 true = some (.tup [.agg [], .lit (.bool false)]) := by
 simp only [vtypeAssert, Tryz.underlying149, if_true]
 exact si
theorem NO {x : VV} : vtypeAssert Tryz.prog (.ifc 9 x) 149 true = some (.tup [.agg [], .lit (.bool false)]) := by
 simp only [vtypeAssert, Tryz.underlying149, if_true]
 rw [if_neg (by decide)]
 exact si
theorem At {x : VV} : vtypeAssert Tryz.prog (.ifc 149 x) 149 true = some (.tup [x, .lit (.bool true)]) := by
 simp [vtypeAssert, Tryz.underlying149]
theorem Wh {H : Nat → Option VObj} {x y : Operand} {a b : Bool} : binV Tryz.prog H .eql 4 x y (.lit (.bool a)) (.lit (.bool b)) = some (.lit (.bool (a == b))) := M6 Tryz.underlying4
theorem Wi {H : Nat → Option VObj} {x y : Operand} {a b : Bool} : binV Tryz.prog H .neq 4 x y (.lit (.bool a)) (.lit (.bool b)) = some (.lit (.bool (a != b))) := M7 Tryz.underlying4
theorem Au {H : Nat → Option VObj} {x y : Operand} {a0 b0 : Int} {a1 b1 : Int} : binV Tryz.prog H .eql 100 x y (.agg [.lit (.int .i64 a0), .lit (.int .i64 a1)]) (.agg [.lit (.int .i64 b0), .lit (.int .i64 b1)]) = some (.lit (.bool (a0 == b0 && (a1 == b1)))) ∧ binV Tryz.prog H .neq 100 x y (.agg [.lit (.int .i64 a0), .lit (.int .i64 a1)]) (.agg [.lit (.int .i64 b0), .lit (.int .i64 b1)]) = some (.lit (.bool (!(a0 == b0 && (a1 == b1))))) := by
 refine binS (xs := [.int .i64 a0, .int .i64 a1]) (ys := [.int .i64 b0, .int .i64 b1]) (by simp [VV.val?, valL?]) (by simp [VV.val?, valL?]) Tryz.underlying100 (by kernel_rfl) (by kernel_rfl) ?_
 simp [eqF, oQ, eq1, Tryz.underlying3]
theorem Av {H : Nat → Option VObj} {x y : Operand} {a0 b0 : Int} {a1 b1 : Int} : binV Tryz.prog H .eql 100 x y (.agg [.lit (.int .i64 a0), .lit (.int .i64 a1)]) (.agg [.lit (.int .i64 b0), .lit (.int .i64 b1)]) = some (.lit (.bool (a0 == b0 && (a1 == b1)))) := Au.1
theorem NP : (VV.lit Value.nilFunc).leaf = true := rfl
theorem NQ : (VV.lit Value.nilIface).leaf = true := rfl
def tyf := (And.intro (And.intro (And.intro (And.intro (And.intro (And.intro (And.intro @uj @zM) (And.intro @zN (And.intro @zO @zP))) (And.intro (And.intro @Cq @Cr) (And.intro @zQ (And.intro @Cs @yp)))) (And.intro (And.intro (And.intro @Wa @Wb) (And.intro @MF (And.intro @Wc @Wd))) (And.intro (And.intro @MG @MH) (And.intro @zR (And.intro @lenN22 @lenR22))))) (And.intro (And.intro (And.intro (And.intro @iR @MI) (And.intro @MJ (And.intro @MK @ML))) (And.intro (And.intro @zS @lenN23) (And.intro @lenR23 (And.intro @MM @MN)))) (And.intro (And.intro (And.intro @zT @MO) (And.intro @MP (And.intro @MQ @zU))) (And.intro (And.intro @lenN26 @lenR26) (And.intro @MR (And.intro @MS @zV)))))) (And.intro (And.intro (And.intro (And.intro (And.intro @MT @MU) (And.intro @MV (And.intro @MW @MX))) (And.intro (And.intro @MY @MZ) (And.intro @Na (And.intro @Nb @Nc)))) (And.intro (And.intro (And.intro @Nd @zW) (And.intro @zX (And.intro @lenN29 @lenR29))) (And.intro (And.intro @gG @Nf) (And.intro @Ng (And.intro @Nh @Ni))))) (And.intro (And.intro (And.intro (And.intro @oR @Nj) (And.intro @Nk (And.intro @zY @lenN44))) (And.intro (And.intro @lenR44 @zZ) (And.intro @lenN47 (And.intro @lenR47 @Aa)))) (And.intro (And.intro (And.intro @lenN49 @lenR49) (And.intro @Nl (And.intro @Nm @Ab))) (And.intro (And.intro @Nn @No) (And.intro @Np (And.intro @Nq @Nr))))))) (And.intro (And.intro (And.intro (And.intro (And.intro (And.intro @Ns @Nt) (And.intro @Ac (And.intro @lenN91 @lenR91))) (And.intro (And.intro @gw @Nu) (And.intro @Nv (And.intro @Nw @Nx)))) (And.intro (And.intro (And.intro @oS @Ny) (And.intro @Nz (And.intro @N0 @N1))) (And.intro (And.intro @N2 @Ad) (And.intro @Ae (And.intro @oT @N3))))) (And.intro (And.intro (And.intro (And.intro @N4 @Af) (And.intro @Ag (And.intro @uk @N5))) (And.intro (And.intro @N6 @N7) (And.intro @N8 (And.intro @N9 @um)))) (And.intro (And.intro (And.intro @lenN117 @lenR117) (And.intro @Ah (And.intro @Ai @oU))) (And.intro (And.intro @NA @NB) (And.intro @NC (And.intro @ND @uq)))))) (And.intro (And.intro (And.intro (And.intro (And.intro @lenN158 @lenR158) (And.intro @NF (And.intro @NG @Aj))) (And.intro (And.intro @Ak @Al) (And.intro @Am (And.intro @ur @An)))) (And.intro (And.intro (And.intro @Ao @oV) (And.intro @NH (And.intro @NI @NJ))) (And.intro (And.intro @NK @We) (And.intro @NL (And.intro @NM @Wf))))) (And.intro (And.intro (And.intro (And.intro @Ap @Aq) (And.intro @uu (And.intro @NN @Wg))) (And.intro (And.intro @Ar @As) (And.intro @NO (And.intro @At @Wh)))) (And.intro (And.intro (And.intro @Wi @Av) (And.intro @NP (And.intro @NQ @M8))) (And.intro (And.intro @eI_eq @qb) (And.intro @eB_eq (And.intro @eS_eq @qc))))))))
def au := (And.intro (And.intro (And.intro @cu.shown @cI.normL) (And.intro @di.normL (And.intro @dz.normL @dz.showL))) (And.intro (And.intro @ku.normL (And.intro @ku.showL @Bt)) (And.intro @xb (And.intro @ME.norm @ME.shown))))
def ar := (And.intro (And.intro @cI.treeL (And.intro @di.treeL @dz.treeL)) (And.intro (And.intro @gF.tree @ku.treeL) (And.intro @oG @ME.tree)))
end Go.V
namespace Go.V
open Go Go.Proofs IntKind
theorem ktA {P : Program} {G : Glob} {d : Option Tmp} {γ : Nat} {tm : Nat → VV} {H : Nat → Option VObj} {nx : Nat} {df : List VDef} {K : St → Prop} {Qp : VV → St → Prop} {f : FuncId} {args args0 : List VV} {x : VV} (hp : ad P G f args0 (.tree x)) (h : fin d γ tm H nx df K x .none) (hn : normL args = args0 := by first | (simp only [nrm, au] <;> rfl) | rfl) (ht : treeL args = true := by simp only [tre, ar, Bool.and_self]) : callK P G f args ⟨tm, H, nx, df⟩ d γ K Qp := ktree hn ht hp h
theorem dktA {P : Program} {G : Glob} {d : Option Tmp} {γ : Nat} {tm : Nat → VV} {H : Nat → Option VObj} {nx : Nat} {df : List VDef} {K : List Nat → List Nat → St → Prop} {f : FuncId} {args args0 : List VV} {x : VV} (hp : ad P G f args0 (.tree x)) (h : fin d γ tm H nx df (K [] []) x .none) (hn : normL args = args0 := by first | (simp only [nrm, au] <;> rfl) | rfl) (ht : treeL args = true := by simp only [tre, ar, Bool.and_self]) : dcallK P G f args tm H nx df d γ K := dktree hn ht hp h
theorem optI {α β : Type} {K : Option β → Prop} {X : Option α} {F : α → Option β} (h : K (Option.bind X F)) (kN : ¬ K none) : ∃ r, X = some r ∧ K (F r) := by
  cases X with
  | none => exact absurd h kN
  | some r => exact ⟨r, rfl, h⟩
end Go.V
end
section
namespace Go.V
open Go Go.Proofs IntKind
def Dec (P : Program) (n : Nat) (t : TypeId) {α : Type} (enc : α → List VV) (R : α → Prop) : Prop := ∀ xs, ShapeT P n t xs → ∃ x : α, R x ∧ normL xs = enc x
theorem NR {P : Program} {n : Nat} {t : TypeId} (hu : P.underlying t = some (.int .i64)) : Dec P (n + 1) t eI (fun _ => True) := by
 intro xs h
 simp only [ShapeT, hu] at h
 obtain ⟨i, _, rfl⟩ := h
 exact ⟨i, trivial, by simp only [rn, rl, Pt, eI]⟩
theorem NS {P : Program} {n : Nat} {t : TypeId} (hu : P.underlying t = some .bool) : Dec P (n + 1) t eB (fun _ => True) := by
 intro xs h
 simp only [ShapeT, hu] at h
 obtain ⟨b, rfl⟩ := h
 exact ⟨b, trivial, by simp only [rn, rl, EF, eB]⟩
theorem Aw {P : Program} {n : Nat} {t : TypeId} {α : Type} {enc : α → List VV} {R : α → Prop} (h : Dec P n t enc R) : ∀ yss : List (List VV), (∀ ys ∈ yss, ShapeT P n t ys) → ∃ l : List α, l.length = yss.length ∧ (∀ x ∈ l, R x) ∧ normL yss.flatten = aa enc l
 | [], _ => ⟨[], rfl, fun _ hx => (by cases hx), rfl⟩
 | ys :: yss, hs => by
  obtain ⟨x, hx, e⟩ := h ys (hs ys (qZb ..))
  obtain ⟨l, h1, h2, h3⟩ := Aw h yss (fun y hy => hs y (qZa _ hy))
  refine ⟨x :: l, by simp [h1], fun y hy => ?_, by rw [List.flatten_cons, sM, e, h3, eY]⟩
  rcases List.mem_cons.1 hy with rfl | hy
  ·exact hx
  ·exact h2 y hy
theorem NT {P : Program} {n : Nat} {t e : TypeId} {α : Type} {enc : α → List VV} {R : α → Prop} (hu : P.underlying t = some (.slice e)) (h : Dec P n e enc R) : Dec P (n + 1) t (fun l : List α => [.sl (aa enc l) l.length false]) (fun l => lenOk l = true ∧ ∀ x ∈ l, R x) := by
 intro xs hs
 simp only [ShapeT, hu] at hs
 rcases hs with rfl | ⟨yss, hl, hall, rfl⟩
 ·exact ⟨[], ⟨rfl, fun _ hx => (by cases hx)⟩, by simp only [rn, rl, Pr]; rfl⟩
 ·obtain ⟨l, h1, h2, h3⟩ := Aw h yss hall
  refine ⟨l, ⟨?_, h2⟩, by simp only [rn, rl, xe, h3, h1]⟩
  have : maxLen = 9223372036854775807 := by decide
  unfold lenOk
  exact decide_eq_true (by omega)
theorem NU {P : Program} {n : Nat} {t : TypeId} {fs : Array Field} {xs : List VV} (hu : P.underlying t = some (.struct fs)) (h : ShapeT P (n + 1) t xs) : ∃ yss, FieldsS (ShapeT P n) fs.toList yss ∧ xs = yss.flatten := by
 simp only [ShapeT, hu] at h
 exact h
def TypesS (S : TypeId → List VV → Prop) : List TypeId → List (List VV) → Prop
 | [], [] => True
 | t :: ts, ys :: yss => S t ys ∧ TypesS S ts yss
 | _, _ => False
theorem Ax {S : TypeId → List VV → Prop} : ∀ (fs : List Field) (yss : List (List VV)), FieldsS S fs yss → TypesS S (fs.map Field.type) yss
 | [], [], _ => trivial
 | f :: fs, ys :: yss, ⟨h1, h2⟩ => ⟨h1, Ax fs yss h2⟩
 | [], _ :: _, h => h
 | _ :: _, [], h => h
theorem Ct {P : Program} {n : Nat} {t : TypeId} {fs : Array Field} {ts : List TypeId} {xs : List VV} (hu : P.underlying t = some (.struct fs)) (ht : fs.toList.map Field.type = ts) (h : ShapeT P (n + 1) t xs) : ∃ yss, TypesS (ShapeT P n) ts yss ∧ xs = yss.flatten := by
 obtain ⟨yss, h1, h2⟩ := NU hu h
 exact ⟨yss, ht ▸ Ax _ _ h1, h2⟩
theorem Gx {P : Program} {n : Nat} {t : TypeId} {ts : List TypeId} {xs : List VV} (h : ArgsS P n (t :: ts) xs) : ∃ x xs', xs = x :: xs' ∧ ArgS P n t x ∧ ArgsS P n ts xs' := by
 match xs, h with
 | x :: xs', h => exact ⟨x, xs', rfl, h.1, h.2⟩
theorem G1 {P : Program} {n : Nat} {xs : List VV} (h : ArgsS P n [] xs) : xs = [] := by
 match xs, h with
 | [], _ => rfl
theorem Gy {P : Program} {n : Nat} {t : TypeId} {fs : Array Field} {x : VV} {α : Type} {enc : α → List VV} {R : α → Prop} (hu : P.underlying t = some (.struct fs)) (hd : Dec P n t enc R) (h : ArgS P n t x) : ∃ s, R s ∧ normV x = .agg (enc s) := by
 obtain ⟨ys, h1, h2⟩ := h
 rw [hu] at h2
 obtain rfl : x = .agg ys := h2
 obtain ⟨s, hs, e⟩ := hd ys h1
 exact ⟨s, hs, by rw [Ps, e]⟩
theorem xj {P : Program} {n : Nat} {t : TypeId} {d : TypeDesc} {x : VV} {α : Type} {enc : α → List VV} {R : α → Prop} (hu : P.underlying t = some d) (hn : (∀ fs, d ≠ .struct fs) ∧ ∀ m e, d ≠ .array m e) (hd : Dec P n t enc R) (h : ArgS P n t x) : ∃ s, R s ∧ [normV x] = enc s := by
 obtain ⟨ys, h1, h2⟩ := h
 rw [hu] at h2
 have h3 : ys = [x] := by
  cases d <;> first | exact h2 | exact absurd rfl (hn.1 _) | exact absurd rfl (hn.2 _ _)
 subst h3
 obtain ⟨s, hs, e⟩ := hd _ h1
 exact ⟨s, hs, by rw [← e, rn, rl]⟩
end Go.V
end
section
set_option maxRecDepth 100000
namespace Go.V
open Go Go.Proofs IntKind
def NV (x : GLw) : Prop := lenOk x.Signs = true ∧ lenOk x.Cuts = true
def R7 (x : GLs) : Prop := lenOk x.Widths = true ∧ lenOk x.Pairs = true ∧ lenOk x.Words = true ∧ ∀ y ∈ x.Words, NV y
section
variable {P : Program} (gR : P.underlying 3 = some (.int .i64)) (dA : P.underlying 22 = some (.slice 3)) {R8 : Array Field} (dB : P.underlying 25 = some (.struct R8)) (dC : R8.toList.map Field.type = [3, 3]) {Ay : Array Field} (bQ : P.underlying 108 = some (.struct Ay)) (bR : Ay.toList.map Field.type = [3, 3, 25]) (dD : P.underlying 23 = some (.slice 108)) (jb : P.underlying 4 = some (.bool)) {R9 : Array Field} (dE : P.underlying 79 = some (.struct R9)) (dF : R9.toList.map Field.type = [22, 22, 4]) (dG : P.underlying 26 = some (.slice 79)) {RA : Array Field} (dH : P.underlying 28 = some (.struct RA)) (dI : RA.toList.map Field.type = [22, 23, 25, 25, 3, 26, 3, 3])
include gR dA dB dC bQ bR dD jb dE dF dG dH dI
theorem gd_3 {n : Nat} : Dec P (n + 1) 3 eI (fun _ => True) := NR gR
theorem gd_22 {n : Nat} : Dec P (n + 2) 22 (eSl eI) (fun l => lenOk l = true ∧ ∀ x ∈ l, True) := NT dA (gd_3 gR dA dB dC bQ bR dD jb dE dF dG dH dI (n := n))
theorem gd_25 {n : Nat} : Dec P (n + 2) 25 cGSpan (fun _ => True) := by
 intro xs h
 obtain ⟨yss, hf, rfl⟩ := Ct (n := n + 1) (ts := [3, 3]) dB dC h
 match yss, hf with
 | [y0, y1], ⟨h0, h1, _⟩ =>
  obtain ⟨x0, r0, e0⟩ := gd_3 gR dA dB dC bQ bR dD jb dE dF dG dH dI (n := n + 0) _ h0
  obtain ⟨x1, r1, e1⟩ := gd_3 gR dA dB dC bQ bR dD jb dE dF dG dH dI (n := n + 0) _ h1
  exact ⟨⟨x0, x1⟩, trivial, by simp only [List.flatten_cons, List.flatten_nil, List.append_nil, sM, e0, e1, eI, rk, eB, eS, eSl, uj, List.cons_append, List.nil_append]⟩
theorem NW {n : Nat} : Dec P (n + 3) 108 cGLp (fun _ => True) := by
 intro xs h
 obtain ⟨yss, hf, rfl⟩ := Ct (n := n + 2) (ts := [3, 3, 25]) bQ bR h
 match yss, hf with
 | [y0, y1, y2], ⟨h0, h1, h2, _⟩ =>
  obtain ⟨x0, r0, e0⟩ := gd_3 gR dA dB dC bQ bR dD jb dE dF dG dH dI (n := n + 1) _ h0
  obtain ⟨x1, r1, e1⟩ := gd_3 gR dA dB dC bQ bR dD jb dE dF dG dH dI (n := n + 1) _ h1
  obtain ⟨x2, r2, e2⟩ := gd_25 gR dA dB dC bQ bR dD jb dE dF dG dH dI (n := n + 0) _ h2
  exact ⟨⟨x0, x1, x2⟩, trivial, by simp only [List.flatten_cons, List.flatten_nil, List.append_nil, sM, e0, e1, e2, eI, rk, eB, eS, eSl, zM, uj, List.cons_append, List.nil_append]⟩
theorem gd_23 {n : Nat} : Dec P (n + 4) 23 (eSl cGLp) (fun l => lenOk l = true ∧ ∀ x ∈ l, True) := NT dD (NW gR dA dB dC bQ bR dD jb dE dF dG dH dI (n := n))
theorem gd_4 {n : Nat} : Dec P (n + 1) 4 eB (fun _ => True) := NS jb
theorem gd_79 {n : Nat} : Dec P (n + 3) 79 cGLw (NV) := by
 intro xs h
 obtain ⟨yss, hf, rfl⟩ := Ct (n := n + 2) (ts := [22, 22, 4]) dE dF h
 match yss, hf with
 | [y0, y1, y2], ⟨h0, h1, h2, _⟩ =>
  obtain ⟨x0, r0, e0⟩ := gd_22 gR dA dB dC bQ bR dD jb dE dF dG dH dI (n := n + 0) _ h0
  obtain ⟨x1, r1, e1⟩ := gd_22 gR dA dB dC bQ bR dD jb dE dF dG dH dI (n := n + 0) _ h1
  obtain ⟨x2, r2, e2⟩ := gd_4 gR dA dB dC bQ bR dD jb dE dF dG dH dI (n := n + 1) _ h2
  exact ⟨⟨x0, x1, x2⟩, ⟨r0.1, r1.1⟩, by simp only [List.flatten_cons, List.flatten_nil, List.append_nil, sM, e0, e1, e2, eI, rk, eB, eS, eSl, zN, List.cons_append, List.nil_append]⟩
theorem gd_26 {n : Nat} : Dec P (n + 4) 26 (eSl cGLw) (fun l => lenOk l = true ∧ ∀ x ∈ l, NV x) := NT dG (gd_79 gR dA dB dC bQ bR dD jb dE dF dG dH dI (n := n))
theorem gd_28 {n : Nat} : Dec P (n + 5) 28 cGLs (R7) := by
 intro xs h
 obtain ⟨yss, hf, rfl⟩ := Ct (n := n + 4) (ts := [22, 23, 25, 25, 3, 26, 3, 3]) dH dI h
 match yss, hf with
 | [y0, y1, y2, y3, y4, y5, y6, y7], ⟨h0, h1, h2, h3, h4, h5, h6, h7, _⟩ =>
  obtain ⟨x0, r0, e0⟩ := gd_22 gR dA dB dC bQ bR dD jb dE dF dG dH dI (n := n + 2) _ h0
  obtain ⟨x1, r1, e1⟩ := gd_23 gR dA dB dC bQ bR dD jb dE dF dG dH dI (n := n + 0) _ h1
  obtain ⟨x2, r2, e2⟩ := gd_25 gR dA dB dC bQ bR dD jb dE dF dG dH dI (n := n + 2) _ h2
  obtain ⟨x3, r3, e3⟩ := gd_25 gR dA dB dC bQ bR dD jb dE dF dG dH dI (n := n + 2) _ h3
  obtain ⟨x4, r4, e4⟩ := gd_3 gR dA dB dC bQ bR dD jb dE dF dG dH dI (n := n + 3) _ h4
  obtain ⟨x5, r5, e5⟩ := gd_26 gR dA dB dC bQ bR dD jb dE dF dG dH dI (n := n + 0) _ h5
  obtain ⟨x6, r6, e6⟩ := gd_3 gR dA dB dC bQ bR dD jb dE dF dG dH dI (n := n + 3) _ h6
  obtain ⟨x7, r7, e7⟩ := gd_3 gR dA dB dC bQ bR dD jb dE dF dG dH dI (n := n + 3) _ h7
  exact ⟨⟨x0, x1, x2, x3, x4, x5, x6, x7⟩, ⟨r0.1, r1.1, r5.1, r5.2⟩, by simp only [List.flatten_cons, List.flatten_nil, List.append_nil, sM, e0, e1, e2, e3, e4, e5, e6, e7, eI, rk, eB, eS, eSl, zO, uj, List.cons_append, List.nil_append]⟩
end
theorem dec_3 {n : Nat} : Dec Tryz.prog (n + 1) 3 eI (fun _ => True) := gd_3 Tryz.underlying3 Tryz.underlying22 Tryz.underlying25 (by kernel_rfl) Tryz.underlying108 (by kernel_rfl) Tryz.underlying23 Tryz.underlying4 Tryz.underlying79 (by kernel_rfl) Tryz.underlying26 Tryz.underlying28 (by kernel_rfl)
theorem Gz {n : Nat} : Dec Tryz.prog (n + 5) 28 cGLs (R7) := gd_28 Tryz.underlying3 Tryz.underlying22 Tryz.underlying25 (by kernel_rfl) Tryz.underlying108 (by kernel_rfl) Tryz.underlying23 Tryz.underlying4 Tryz.underlying79 (by kernel_rfl) Tryz.underlying26 Tryz.underlying28 (by kernel_rfl)
end Go.V
end
section
namespace Go.V
open Go Go.Proofs IntKind
def goB (b : Bool) : Option (LOut Bool Unit) := cond b (some (.go ())) (some (.ret false))
theorem mm (a b : Bool) : goB (a && b) = cond a (goB b) (some (.ret false)) := by cases a <;> rfl
theorem cnot {α : Type} (a : Bool) (x y : α) : cond (!a) x y = cond a y x := by cases a <;> rfl
theorem cand {α : Type} (a b : Bool) (x y : α) : cond (a && b) x y = cond a (cond b x y) y := by cases a <;> rfl
theorem csome (a b : Bool) : cond a (some b) (some false) = some (a && b) := by cases a <;> rfl
theorem vY {X : Type} (b : Bool) (kr : Bool → Option X) (kg : Unit → Option X) (kb : Nat → Unit → Option X) : lbind (goB b) kr kg kb = cond b (kg ()) (kr false) := by cases b <;> rfl
def inB (a b n : Int) : Bool := decide (a ≤ n) && decide (n ≤ b)
theorem sa {a b n : Int} : inB a b n = true ↔ a ≤ n ∧ n ≤ b := by simp [inB]
theorem lY {n : Int} (h1 : -9223372036854775808 ≤ n) (h2 : n < 9223372036854775808) : i64.wrap n = n := IntWalk.i64_in _ (by omega)
theorem Cu {α : Type} {xs : List α} (h : lenOk xs = true) : xs.length < 9223372036854775808 := by simpa [lenOk] using h
theorem nF {α : Type} {xs : List α} (h : xs.length < 9223372036854775808) : lenOk xs = true := by simpa [lenOk] using h
theorem RB {α : Type} {xs : List α} {i : Int} (h0 : 0 ≤ i) (h1 : i < xs.length) : ∃ x, getI xs i = some x ∧ x ∈ xs := by
 unfold getI
 rw [if_pos h0]
 have h : i.toNat < xs.length := by omega
 exact ⟨xs[i.toNat], qZi h, List.getElem_mem h⟩
theorem Jo {α : Type} {xs : List α} {i : Int} {x : α} (h : getI xs i = some x) : x ∈ xs := by
 unfold getI at h
 split at h
 ·exact List.mem_of_getElem? h
 ·cases h
theorem yK {α : Type} {xs : List α} {i : Int} {x : α} (h : getI xs i = some x) : 0 ≤ i ∧ i < xs.length := ⟨(rj h).1, (rj h).2.1⟩
theorem mulR {a b A B : Int} (h1 : 0 ≤ a) (h2 : a ≤ A) (h3 : 0 ≤ b) (h4 : b ≤ B) : 0 ≤ a * b ∧ a * b ≤ A * B :=
 ⟨Int.mul_nonneg h1 h3, Int.mul_le_mul h2 h4 h3 (Int.le_trans h1 h2)⟩
def m5 (aM : Int) (il : Int) (aY : Int) : Option (Bool) := cond (decide (aM ≤ il)) (some (decide (il ≤ aY))) (some false)
theorem qe (aM : Int) (il : Int) (aY : Int) (R : Bool) (h : m5 aM il aY = some R) : ad Tryz.prog G0 112 [.lit (.int .i64 aM), .lit (.int .i64 il), .lit (.int .i64 aY)] (.tree (.lit (.bool R))) := by
 refine ad.runR mixed Tryz.call112 Tryz.func112 rfl (by simp [Tryz.ntmps112]; kernel_rfl) ?_
 obtain ⟨KF, h, kF, kN⟩ := ec h
 simp only [m5] at h
 cases d1 : (decide (aM ≤ il))
 ·simp only [d1, hs] at h
  try simp only [vz, tyf, d1, nm, seval]
  obtain rfl := kF _ h
  exact bz Tryz.results112 rfl
 simp only [d1, hs] at h
 try simp only [vz, tyf, d1, nm, seval]
 obtain rfl := kF _ h
 exact bz Tryz.results112 rfl
def vZ (aM : Int) (aY : Int) : List Int → Int → Option (LOut (Bool) (Unit))
 | [], gO => some (.go ())
 | e0 :: p0, gO => Option.bind (m5 aM e0 aY) (fun r1 => cond (r1) (vZ aM aY p0 (gO + 1)) (some (.ret false)))
def sV (aM : Int) (ah : List Int) (aY : Int) : Option (Bool) := cond (lenOk ah) (lbind (vZ aM aY ah 0) (fun r3 => some r3) (fun c2 => some true) (fun _ _ => none)) none
theorem GX (aM : Int) (ah : List Int) (aY : Int) (R : Bool) (h : sV aM ah aY = some R) : ad Tryz.prog G0 147 [.lit (.int .i64 aM), .sl (aa eI ah) (List.length ah) false, .lit (.int .i64 aY)] (.tree (.lit (.bool R))) := by
 refine ad.runR mixed Tryz.call147 Tryz.func147 rfl (by simp [Tryz.ntmps147]; kernel_rfl) ?_
 obtain ⟨KF, h, kF, kN⟩ := ec h
 simp only [sV] at h
 cases g5 : (lenOk ah)
 ·simp only [g5, hs] at h
  exact absurd h kN
 simp only [g5, hs] at h
 simp only [vz, tyf, g5, nm, seval]
 obtain ⟨K4, h, Wj, Wk, X0, Wl⟩ := gS h kN
 obtain ⟨f4, Wm, h⟩ := call2 h
 obtain ⟨I4, NX⟩ : ∃ I : Nat → St → Prop, I = (fun m st => ∃ (p4 : List Int) (fS : Int), m = List.length p4 ∧ 0 ≤ fS ∧ List.drop (Int.toNat fS) ah = p4 ∧ st.df = [] ∧ 4 ≤ st.nx ∧ st.tm 0 = .lit (.int .i64 aM) ∧ st.tm 2 = .lit (.int .i64 aY) ∧ st.tm 9 = .sl (aa eI ah) (List.length ah) false ∧ st.tm 10 = .lit (.int .i64 (List.length ah : Int)) ∧ st.tm 11 = .lit (.int .i64 fS) ∧ K4 (f4 p4 fS)) := ⟨_, rfl⟩
 refine loopK mixed (by kernel_rfl) I4 (List.length ah) (by rw [NX]; refine ⟨ah, 0, rfl, qZf _, rfl, rfl, (show 4 ≤ 4 by omega), ?_, ?_, ?_, ?_, ?_, h⟩ <;> first | (simp only [ua, nm, seval] <;> rfl) | rfl) ?_
 rintro m ⟨tm, H, RC, df⟩ hinv
 rw [NX] at hinv
 obtain ⟨p4, fS, rfl, wa, Az, hdf, Wn, e6, e7, e8, e9, bg, h⟩ := hinv
 simp only at hdf Wn e6 e7 e8 e9 bg
 have wb := gT (m := 4) (b := RC) (by omega)
 subst hdf Wm
 cases p4 with
 | nil =>
  have jh : (decide (fS < (List.length ah : Int))) = false := fA wa Az
  simp only [vZ, hs, reduceCtorEq] at h
  replace h := Wk _ h
  try dsimp only at h
  try simp only [hs] at h
  try simp only [vz, tyf, g5, wb, e6, e7, e8, e9, bg, jh, nm, seval]
  obtain rfl := kF _ h
  exact bz Tryz.results147 rfl
 | cons e4 p4 =>
  have bW : (decide (fS < (List.length ah : Int))) = true := fB wa Az
  have sW := dU wa Az
  have AA := fC wa Az g5
  simp only [vZ, hs, reduceCtorEq] at h
  obtain ⟨yf, yg, h⟩ := optI h Wl
  try simp only [hs] at h
  simp only [vz, tyf, g5, wb, e6, e7, e8, e9, bg, bW, (aC sW), AA, nm, seval]
  refine ktA (qe _ _ _ _ yg) ?_
  refine bC (fun tm => tm 0 = .lit (.int .i64 aM) ∧ tm 2 = .lit (.int .i64 aY) ∧ tm 9 = .sl (aa eI ah) (List.length ah) false ∧ tm 10 = .lit (.int .i64 (List.length ah : Int)) ∧ tm 11 = .lit (.int .i64 fS) ∧ tm 18 = .lit (.bool yf) ∧ True) (by refine ⟨e6, e7, e8, e9, bg, ?_, trivial⟩ <;> first | (simp only [ua, wb, e6, e7, e8, e9, bg, bW, AA, nm, seval] <;> rfl) | rfl) ?_
  rintro tm ⟨fb, kO, lT, ed, dK, eR, _⟩
  cases qt : (yf)
  ·simp only [qt, hs] at h
   try simp only [vz, tyf, g5, wb, bW, (aC sW), AA, fb, kO, lT, ed, dK, eR, qt, nm, seval]
   replace h := Wj _ h
   try dsimp only at h
   obtain rfl := kF _ h
   exact bz Tryz.results147 rfl
  simp only [qt, hs] at h
  simp only [vz, tyf, g5, wb, bW, (aC sW), AA, fb, kO, lT, ed, dK, eR, qt, nm, seval]
  exact ⟨List.length p4, qZc _, by rw [NX]; refine ⟨p4, fS + 1, rfl, Int.le_trans wa (Int.le_add_one (qZf _)), bY wa Az, rfl, (show 4 ≤ RC + 11 by omega), fb, kO, lT, ed, ?_, (by first | exact h | (simp only [bW, qt]; exact h))⟩ <;> first | (simp only [ua, wb, bW, AA, fb, kO, lT, ed, dK, eR, qt, nm, seval] <;> rfl) | rfl⟩
def xB (bX : List Int) : Option (Bool) := Option.bind (m5 1 (List.length bX : Int) 6) (fun r1 => cond (r1) (Option.bind (sV 1 bX 20) (fun r2 => some r2)) (some false))
theorem T7 (bX : List Int) (R : Bool) (h : xB bX = some R) : ad Tryz.prog G0 109 [.sl (aa eI bX) (List.length bX) false] (.tree (.lit (.bool R))) := by
 refine ad.runR mixed Tryz.call109 Tryz.func109 rfl (by simp [Tryz.ntmps109]; kernel_rfl) ?_
 obtain ⟨KF, h, kF, kN⟩ := ec h
 simp only [xB] at h
 obtain ⟨r3, o4, h⟩ := optI h kN
 try simp only [hs] at h
 simp only [vz, tyf, nm, seval]
 refine ktA (qe _ _ _ _ o4) ?_
 refine bC (fun tm => tm 0 = .sl (aa eI bX) (List.length bX) false ∧ tm 5 = .lit (.bool r3) ∧ True) (by refine ⟨?_, ?_, trivial⟩ <;> first | (simp only [ua, nm, seval] <;> rfl) | rfl) ?_
 rintro tm ⟨e5, e6, _⟩
 cases d7 : (r3)
 ·simp only [d7, hs] at h
  try simp only [vz, tyf, e5, e6, d7, nm, seval]
  obtain rfl := kF _ h
  exact bz Tryz.results109 rfl
 simp only [d7, hs] at h
 obtain ⟨r8, o9, h⟩ := optI h kN
 try simp only [hs] at h
 simp only [vz, tyf, e5, e6, d7, nm, seval]
 refine ktA (GX _ _ _ _ o9) ?_
 refine bC (fun tm => tm 6 = .lit (.bool true) ∧ tm 8 = .lit (.bool r8) ∧ True) (by refine ⟨?_, ?_, trivial⟩ <;> first | (simp only [ua, e5, e6, d7, nm, seval] <;> rfl) | rfl) ?_
 rintro tm ⟨bg, bj, _⟩
 try simp only [vz, tyf, d7, bg, bj, nm, seval]
 obtain rfl := kF _ h
 exact bz Tryz.results109 rfl
def sR (aM : Int) (bZ : GSpan) (aY : Int) : Option (Bool) := cond (decide (aM ≤ bZ.Low)) (cond (decide (bZ.Low ≤ bZ.High)) (some (decide (bZ.High ≤ aY))) (some false)) (some false)
theorem GU (aM : Int) (bZ : GSpan) (aY : Int) (R : Bool) (h : sR aM bZ aY = some R) : ad Tryz.prog G0 111 [.lit (.int .i64 aM), .agg (cGSpan bZ), .lit (.int .i64 aY)] (.tree (.lit (.bool R))) := by
 refine ad.runR mixed Tryz.call111 Tryz.func111 rfl (by simp [Tryz.ntmps111]; kernel_rfl) ?_
 obtain ⟨KF, h, kF, kN⟩ := ec h
 simp only [sR] at h
 cases d1 : (decide (aM ≤ bZ.Low))
 ·simp only [d1, hs] at h
  try simp only [vz, tyf, d1, nm, seval]
  obtain rfl := kF _ h
  exact bz Tryz.results111 rfl
 simp only [d1, hs] at h
 cases d2 : (decide (bZ.Low ≤ bZ.High))
 ·simp only [d2, hs] at h
  try simp only [vz, tyf, d1, d2, nm, seval]
  obtain rfl := kF _ h
  exact bz Tryz.results111 rfl
 simp only [d2, hs] at h
 try simp only [vz, tyf, d1, d2, nm, seval]
 obtain rfl := kF _ h
 exact bz Tryz.results111 rfl
def xp (bK : Int) : Option (Bool) := some (bK != bK)
theorem P8 (bK : Int) (R : Bool) (h : xp bK = some R) : ad Tryz.prog G0 154 [.lit (.int .i64 bK)] (.tree (.lit (.bool R))) := by
 refine ad.runR mixed Tryz.call154 Tryz.func154 rfl (by simp [Tryz.ntmps154]; kernel_rfl) ?_
 obtain ⟨KF, h, kF, kN⟩ := ec h
 simp only [xp] at h
 try simp only [vz, tyf, nm, seval]
 obtain rfl := kF _ h
 exact bz Tryz.results154 rfl
end Go.V
end
