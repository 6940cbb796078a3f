/- Part of a proof. -/
import Derived.Test.YtekhjalgmlflpaaGreatDoorYbe
import Derived.Test.YtekhjalgmlflpaaGreatDoorYaw
import Derived.Test.YtekhjalgmlflpaaGreatDoorProg
set_option linter.all false
set_option maxRecDepth 4000
set_option maxHeartbeats 40000000
section
namespace Go.V
open Go Go.Proofs
theorem mixed : Tryz.prog.follows .mixedOrders = true := by kernel_rfl
structure Gi where
 a0 : Int
 a1 : Int
 a2 : Int
 deriving Inhabited, DecidableEq
def cGi (x : Gi) : List VV := [.lit (.int .i64 x.a0), .lit (.int .i64 x.a1), .lit (.int .i64 x.a2)]
theorem zgp {x : Gi} : cGi x = [.lit (.int .i64 x.a0), .lit (.int .i64 x.a1), .lit (.int .i64 x.a2)] := rfl
theorem zad : EncOk cGi := EncOk.of (fun x => by simp only [zgp, tre, Bool.and_self]) (fun x => by simp only [zgp, nrm]) (fun x H d => by simp only [zgp, nrm, List.map_cons, List.map_nil])
structure GSpan where
 Low : Int
 High : Int
 deriving Inhabited, DecidableEq
def cGSpan (x : GSpan) : List VV := [.lit (.int .i64 x.Low), .lit (.int .i64 x.High)]
theorem zgh {x : GSpan} : cGSpan x = [.lit (.int .i64 x.Low), .lit (.int .i64 x.High)] := rfl
theorem zal : EncOk cGSpan := EncOk.of (fun x => by simp only [zgh, tre, zad.tree, zad.treeL, Bool.and_self]) (fun x => by simp only [zgh, nrm, zad.norm, zad.normL, zad.shown, zad.showL]) (fun x H d => by simp only [zgh, nrm, List.map_cons, List.map_nil])
structure Ga where
 a0 : GSpan
 a1 : GSpan
 a2 : GSpan
 deriving Inhabited, DecidableEq
def cGa (x : Ga) : List VV := [.lit (.int .i64 x.a0.Low), .lit (.int .i64 x.a0.High), .lit (.int .i64 x.a1.Low), .lit (.int .i64 x.a1.High), .lit (.int .i64 x.a2.Low), .lit (.int .i64 x.a2.High)]
theorem zen {x : Ga} : cGa x = [.lit (.int .i64 x.a0.Low), .lit (.int .i64 x.a0.High), .lit (.int .i64 x.a1.Low), .lit (.int .i64 x.a1.High), .lit (.int .i64 x.a2.Low), .lit (.int .i64 x.a2.High)] := rfl
theorem zac : EncOk cGa := EncOk.of (fun x => by simp only [zen, tre, zad.tree, zad.treeL, zal.tree, zal.treeL, Bool.and_self]) (fun x => by simp only [zen, nrm, zad.norm, zad.normL, zad.shown, zad.showL, zal.norm, zal.normL, zal.shown, zal.showL]) (fun x H d => by simp only [zen, nrm, List.map_cons, List.map_nil])
structure Gt where
 pg : Ga
 deriving Inhabited, DecidableEq
def cGt (x : Gt) : List VV := [.lit (.int .i64 x.pg.a0.Low), .lit (.int .i64 x.pg.a0.High), .lit (.int .i64 x.pg.a1.Low), .lit (.int .i64 x.pg.a1.High), .lit (.int .i64 x.pg.a2.Low), .lit (.int .i64 x.pg.a2.High)]
theorem zfz {x : Gt} : cGt x = [.lit (.int .i64 x.pg.a0.Low), .lit (.int .i64 x.pg.a0.High), .lit (.int .i64 x.pg.a1.Low), .lit (.int .i64 x.pg.a1.High), .lit (.int .i64 x.pg.a2.Low), .lit (.int .i64 x.pg.a2.High)] := rfl
theorem zai : EncOk cGt := EncOk.of (fun x => by simp only [zfz, tre, zad.tree, zad.treeL, zal.tree, zal.treeL, zac.tree, zac.treeL, Bool.and_self]) (fun x => by simp only [zfz, nrm, zad.norm, zad.normL, zad.shown, zad.showL, zal.norm, zal.normL, zal.shown, zal.showL, zac.norm, zac.normL, zac.shown, zac.showL]) (fun x H d => by simp only [zfz, nrm, List.map_cons, List.map_nil])
structure Gs where
 Old : Gi
 Fade : Ga
 Years : GSpan
 Off : Int
 Tins : List Gt
 deriving Inhabited, DecidableEq
def cGs (x : Gs) : List VV := [.lit (.int .i64 x.Old.a0), .lit (.int .i64 x.Old.a1), .lit (.int .i64 x.Old.a2), .lit (.int .i64 x.Fade.a0.Low), .lit (.int .i64 x.Fade.a0.High), .lit (.int .i64 x.Fade.a1.Low), .lit (.int .i64 x.Fade.a1.High), .lit (.int .i64 x.Fade.a2.Low), .lit (.int .i64 x.Fade.a2.High), .lit (.int .i64 x.Years.Low), .lit (.int .i64 x.Years.High), .lit (.int .i64 x.Off), .sl (cellsL cGt x.Tins) (List.length x.Tins) false]
theorem zey {x : Gs} : cGs x = [.lit (.int .i64 x.Old.a0), .lit (.int .i64 x.Old.a1), .lit (.int .i64 x.Old.a2), .lit (.int .i64 x.Fade.a0.Low), .lit (.int .i64 x.Fade.a0.High), .lit (.int .i64 x.Fade.a1.Low), .lit (.int .i64 x.Fade.a1.High), .lit (.int .i64 x.Fade.a2.Low), .lit (.int .i64 x.Fade.a2.High), .lit (.int .i64 x.Years.Low), .lit (.int .i64 x.Years.High), .lit (.int .i64 x.Off), .sl (cellsL cGt x.Tins) (List.length x.Tins) false] := rfl
theorem zag : EncOk cGs := EncOk.of (fun x => by simp only [zey, tre, zad.tree, zad.treeL, zal.tree, zal.treeL, zac.tree, zac.treeL, zai.tree, zai.treeL, Bool.and_self]) (fun x => by simp only [zey, nrm, zad.norm, zad.normL, zad.shown, zad.showL, zal.norm, zal.normL, zal.shown, zal.showL, zac.norm, zac.normL, zac.shown, zac.showL, zai.norm, zai.normL, zai.shown, zai.showL]) (fun x H d => by simp only [zey, nrm, List.map_cons, List.map_nil])
structure Gu where
 Tins : List Gi
 Years : Int
 Fade : Gi
 deriving Inhabited, DecidableEq
def cGu (x : Gu) : List VV := [.sl (cellsL cGi x.Tins) (List.length x.Tins) false, .lit (.int .i64 x.Years), .lit (.int .i64 x.Fade.a0), .lit (.int .i64 x.Fade.a1), .lit (.int .i64 x.Fade.a2)]
theorem zfm {x : Gu} : cGu x = [.sl (cellsL cGi x.Tins) (List.length x.Tins) false, .lit (.int .i64 x.Years), .lit (.int .i64 x.Fade.a0), .lit (.int .i64 x.Fade.a1), .lit (.int .i64 x.Fade.a2)] := rfl
theorem zao : EncOk cGu := EncOk.of (fun x => by simp only [zfm, tre, zad.tree, zad.treeL, zal.tree, zal.treeL, zac.tree, zac.treeL, zai.tree, zai.treeL, zag.tree, zag.treeL, Bool.and_self]) (fun x => by simp only [zfm, nrm, zad.norm, zad.normL, zad.shown, zad.showL, zal.norm, zal.normL, zal.shown, zal.showL, zac.norm, zac.normL, zac.shown, zac.showL, zai.norm, zai.normL, zai.shown, zai.showL, zag.norm, zag.normL, zag.shown, zag.showL]) (fun x H d => by simp only [zfm, nrm, List.map_cons, List.map_nil])
structure Gm where
 sh : Gs
 mix : List Int
 deriving Inhabited, DecidableEq
def cGm (x : Gm) : List VV := [.lit (.int .i64 x.sh.Old.a0), .lit (.int .i64 x.sh.Old.a1), .lit (.int .i64 x.sh.Old.a2), .lit (.int .i64 x.sh.Fade.a0.Low), .lit (.int .i64 x.sh.Fade.a0.High), .lit (.int .i64 x.sh.Fade.a1.Low), .lit (.int .i64 x.sh.Fade.a1.High), .lit (.int .i64 x.sh.Fade.a2.Low), .lit (.int .i64 x.sh.Fade.a2.High), .lit (.int .i64 x.sh.Years.Low), .lit (.int .i64 x.sh.Years.High), .lit (.int .i64 x.sh.Off), .sl (cellsL cGt x.sh.Tins) (List.length x.sh.Tins) false, .sl (cellsL eI x.mix) (List.length x.mix) false]
theorem zfo {x : Gm} : cGm x = [.lit (.int .i64 x.sh.Old.a0), .lit (.int .i64 x.sh.Old.a1), .lit (.int .i64 x.sh.Old.a2), .lit (.int .i64 x.sh.Fade.a0.Low), .lit (.int .i64 x.sh.Fade.a0.High), .lit (.int .i64 x.sh.Fade.a1.Low), .lit (.int .i64 x.sh.Fade.a1.High), .lit (.int .i64 x.sh.Fade.a2.Low), .lit (.int .i64 x.sh.Fade.a2.High), .lit (.int .i64 x.sh.Years.Low), .lit (.int .i64 x.sh.Years.High), .lit (.int .i64 x.sh.Off), .sl (cellsL cGt x.sh.Tins) (List.length x.sh.Tins) false, .sl (cellsL eI x.mix) (List.length x.mix) false] := rfl
theorem zau : EncOk cGm := EncOk.of (fun x => by simp only [zfo, tre, zad.tree, zad.treeL, zal.tree, zal.treeL, zac.tree, zac.treeL, zai.tree, zai.treeL, zag.tree, zag.treeL, zao.tree, zao.treeL, Bool.and_self]) (fun x => by simp only [zfo, nrm, zad.norm, zad.normL, zad.shown, zad.showL, zal.norm, zal.normL, zal.shown, zal.showL, zac.norm, zac.normL, zac.shown, zac.showL, zai.norm, zai.normL, zai.shown, zai.showL, zag.norm, zag.normL, zag.shown, zag.showL, zao.norm, zao.normL, zao.shown, zao.showL]) (fun x H d => by simp only [zfo, nrm, List.map_cons, List.map_nil])
structure Gf where
 pigment : Int
 years : Int
 deriving Inhabited, DecidableEq
def cGf (x : Gf) : List VV := [.lit (.int .i64 x.pigment), .lit (.int .i64 x.years)]
theorem zff {x : Gf} : cGf x = [.lit (.int .i64 x.pigment), .lit (.int .i64 x.years)] := rfl
theorem zdo : EncOk cGf := EncOk.of (fun x => by simp only [zff, tre, zad.tree, zad.treeL, zal.tree, zal.treeL, zac.tree, zac.treeL, zai.tree, zai.treeL, zag.tree, zag.treeL, zao.tree, zao.treeL, zau.tree, zau.treeL, Bool.and_self]) (fun x => by simp only [zff, nrm, zad.norm, zad.normL, zad.shown, zad.showL, zal.norm, zal.normL, zal.shown, zal.showL, zac.norm, zac.normL, zac.shown, zac.showL, zai.norm, zai.normL, zai.shown, zai.showL, zag.norm, zag.normL, zag.shown, zag.showL, zao.norm, zao.normL, zao.shown, zao.showL, zau.norm, zau.normL, zau.shown, zau.showL]) (fun x H d => by simp only [zff, nrm, List.map_cons, List.map_nil])
theorem zks : EncOk (eSl eI) := EncOk.sl eI_ok
theorem ld2 {c : VV} {cs : List VV} : vload Tryz.prog 2 (c :: cs) = some c := by
 have h1 : aggT Tryz.prog 2 = some false := by kernel_rfl
 simp [vload, vpart, h1]
theorem sz2 : szT Tryz.prog 2 = some 1 := by kernel_rfl
theorem vzl2 : vzl Tryz.prog 2 = some [.lit (.int .i64 0)] := by kernel_rfl
theorem ld3 {c : VV} {cs : List VV} : vload Tryz.prog 3 (c :: cs) = some c := by
 have h1 : aggT Tryz.prog 3 = some false := by kernel_rfl
 simp [vload, vpart, h1]
theorem sz3 : szT Tryz.prog 3 = some 1 := by kernel_rfl
theorem vzl3 : vzl Tryz.prog 3 = some [.lit (.int .i64 0)] := by kernel_rfl
theorem ld4 {c : VV} {cs : List VV} : vload Tryz.prog 4 (c :: cs) = some c := by
 have h1 : aggT Tryz.prog 4 = some false := by kernel_rfl
 simp [vload, vpart, h1]
theorem sz4 : szT Tryz.prog 4 = some 1 := by kernel_rfl
theorem vzl4 : vzl Tryz.prog 4 = some [.lit (.bool false)] := by kernel_rfl
theorem ld9 {c : VV} {cs : List VV} : vload Tryz.prog 9 (c :: cs) = some c := by
 have h1 : aggT Tryz.prog 9 = some false := by kernel_rfl
 simp [vload, vpart, h1]
theorem sz9 : szT Tryz.prog 9 = some 1 := by kernel_rfl
theorem vzl9 : vzl Tryz.prog 9 = some [.lit (.string ⟨#[]⟩)] := by kernel_rfl
theorem ld22 {c0 c1 c2 : VV} {cs : List VV} : vload Tryz.prog 22 (c0 :: c1 :: c2 :: cs) = some (.agg [c0, c1, c2]) := by
 have h1 : aggT Tryz.prog 22 = some true := by kernel_rfl
 have h2 : szT Tryz.prog 22 = some 3 := by kernel_rfl
 simp [vload, vpart, h1, h2]
theorem sz22 : szT Tryz.prog 22 = some 3 := by kernel_rfl
theorem vzl22 : vzl Tryz.prog 22 = some [.lit (.int .i64 0), .lit (.int .i64 0), .lit (.int .i64 0)] := by kernel_rfl
theorem zarp {H : Nat → Option VObj} {β o : Nat} {k : IntKind} : vindexAddr Tryz.prog H 22 (.ptr β o) (.lit (.int k (0 : Int))) = if (H β).isSome = true then some (.ptr β (o + 0)) else none := by
 have h2 : szT Tryz.prog 3 = some 1 := by kernel_rfl
 simp [vindexAddr, Tryz.underlying22, h2]
theorem zaqf {H : Nat → Option VObj} {cs : List VV} {k : IntKind} : vindexAddr Tryz.prog H 22 (.tp cs) (.lit (.int k (0 : Int))) = some (.tp (cs.drop 0)) := by
 have h2 : szT Tryz.prog 3 = some 1 := by kernel_rfl
 simp [vindexAddr, Tryz.underlying22, h2]
theorem zapl {c0 c1 c2 : VV} {k : IntKind} : vindex Tryz.prog 22 (.agg [c0, c1, c2]) (.lit (.int k (0 : Int))) = some (c0) := by
 have h1 : aggT Tryz.prog 3 = some false := by kernel_rfl
 have h2 : szT Tryz.prog 3 = some 1 := by kernel_rfl
 simp [vindex, Tryz.underlying22, vpart, h1, h2]
theorem zhu {H : Nat → Option VObj} {β o : Nat} {k : IntKind} {i : Int} (h : (i == 0) = true) : vindexAddr Tryz.prog H 22 (.ptr β o) (.lit (.int k i)) = if (H β).isSome = true then some (.ptr β (o + 0)) else none := by
 obtain rfl : i = 0 := by simpa using h
 have h2 : szT Tryz.prog 3 = some 1 := by kernel_rfl
 simp [vindexAddr, Tryz.underlying22, h2]
theorem zarn {H : Nat → Option VObj} {β o : Nat} {k : IntKind} : vindexAddr Tryz.prog H 22 (.ptr β o) (.lit (.int k (1 : Int))) = if (H β).isSome = true then some (.ptr β (o + 1)) else none := by
 have h2 : szT Tryz.prog 3 = some 1 := by kernel_rfl
 simp [vindexAddr, Tryz.underlying22, h2]
theorem zarl {H : Nat → Option VObj} {cs : List VV} {k : IntKind} : vindexAddr Tryz.prog H 22 (.tp cs) (.lit (.int k (1 : Int))) = some (.tp (cs.drop 1)) := by
 have h2 : szT Tryz.prog 3 = some 1 := by kernel_rfl
 simp [vindexAddr, Tryz.underlying22, h2]
theorem zapp {c0 c1 c2 : VV} {k : IntKind} : vindex Tryz.prog 22 (.agg [c0, c1, c2]) (.lit (.int k (1 : Int))) = some (c1) := by
 have h1 : aggT Tryz.prog 3 = some false := by kernel_rfl
 have h2 : szT Tryz.prog 3 = some 1 := by kernel_rfl
 simp [vindex, Tryz.underlying22, vpart, h1, h2]
theorem zht {H : Nat → Option VObj} {β o : Nat} {k : IntKind} {i : Int} (h : (i == 1) = true) : vindexAddr Tryz.prog H 22 (.ptr β o) (.lit (.int k i)) = if (H β).isSome = true then some (.ptr β (o + 1)) else none := by
 obtain rfl : i = 1 := by simpa using h
 have h2 : szT Tryz.prog 3 = some 1 := by kernel_rfl
 simp [vindexAddr, Tryz.underlying22, h2]
theorem zaos {H : Nat → Option VObj} {β o : Nat} {k : IntKind} : vindexAddr Tryz.prog H 22 (.ptr β o) (.lit (.int k (2 : Int))) = if (H β).isSome = true then some (.ptr β (o + 2)) else none := by
 have h2 : szT Tryz.prog 3 = some 1 := by kernel_rfl
 simp [vindexAddr, Tryz.underlying22, h2]
theorem zaoz {H : Nat → Option VObj} {cs : List VV} {k : IntKind} : vindexAddr Tryz.prog H 22 (.tp cs) (.lit (.int k (2 : Int))) = some (.tp (cs.drop 2)) := by
 have h2 : szT Tryz.prog 3 = some 1 := by kernel_rfl
 simp [vindexAddr, Tryz.underlying22, h2]
theorem zapw {c0 c1 c2 : VV} {k : IntKind} : vindex Tryz.prog 22 (.agg [c0, c1, c2]) (.lit (.int k (2 : Int))) = some (c2) := by
 have h1 : aggT Tryz.prog 3 = some false := by kernel_rfl
 have h2 : szT Tryz.prog 3 = some 1 := by kernel_rfl
 simp [vindex, Tryz.underlying22, vpart, h1, h2]
theorem zhs {H : Nat → Option VObj} {β o : Nat} {k : IntKind} {i : Int} (h : (i == 2) = true) : vindexAddr Tryz.prog H 22 (.ptr β o) (.lit (.int k i)) = if (H β).isSome = true then some (.ptr β (o + 2)) else none := by
 obtain rfl : i = 2 := by simpa using h
 have h2 : szT Tryz.prog 3 = some 1 := by kernel_rfl
 simp [vindexAddr, Tryz.underlying22, h2]
theorem ld24 {c0 c1 : VV} {cs : List VV} : vload Tryz.prog 24 (c0 :: c1 :: cs) = some (.agg [c0, c1]) := by
 have h1 : aggT Tryz.prog 24 = some true := by kernel_rfl
 have h2 : szT Tryz.prog 24 = some 2 := by kernel_rfl
 simp [vload, vpart, h1, h2]
theorem sz24 : szT Tryz.prog 24 = some 2 := by kernel_rfl
theorem vzl24 : vzl Tryz.prog 24 = some [.lit (.int .i64 0), .lit (.int .i64 0)] := by kernel_rfl
theorem zapj {H : Nat → Option VObj} {cs : List VV} : vfieldAddr Tryz.prog H 24 (.tp cs) 0 = some (.tp (cs.drop 0)) := by
 have h2 : szT Tryz.prog 3 = some 1 := by kernel_rfl
 simp [vfieldAddr, Tryz.underlying24, h2]
theorem zarm {H : Nat → Option VObj} {β o : Nat} : vfieldAddr Tryz.prog H 24 (.ptr β o) 0 = if (H β).isSome = true then some (.ptr β (o + 0)) else none := by
 have h2 : szT Tryz.prog 3 = some 1 := by kernel_rfl
 simp [vfieldAddr, Tryz.underlying24, h2]
theorem zaph {c0 c1 : VV} : vfield Tryz.prog 24 (.agg [c0, c1]) 0 = some (c0) := by
 have h1 : aggT Tryz.prog 3 = some false := by kernel_rfl
 have h2 : szT Tryz.prog 3 = some 1 := by kernel_rfl
 simp [vfield, Tryz.underlying24, vpart, h1, h2]
theorem zapf {H : Nat → Option VObj} {cs : List VV} : vfieldAddr Tryz.prog H 24 (.tp cs) 1 = some (.tp (cs.drop 1)) := by
 have h2 : szT Tryz.prog 3 = some 1 := by kernel_rfl
 simp [vfieldAddr, Tryz.underlying24, h2]
theorem zaqn {H : Nat → Option VObj} {β o : Nat} : vfieldAddr Tryz.prog H 24 (.ptr β o) 1 = if (H β).isSome = true then some (.ptr β (o + 1)) else none := by
 have h2 : szT Tryz.prog 3 = some 1 := by kernel_rfl
 simp [vfieldAddr, Tryz.underlying24, h2]
theorem zaok {c0 c1 : VV} : vfield Tryz.prog 24 (.agg [c0, c1]) 1 = some (c1) := by
 have h1 : aggT Tryz.prog 3 = some false := by kernel_rfl
 have h2 : szT Tryz.prog 3 = some 1 := by kernel_rfl
 simp [vfield, Tryz.underlying24, vpart, h1, h2]
theorem ld25 {c0 c1 c2 c3 c4 c5 : VV} {cs : List VV} : vload Tryz.prog 25 (c0 :: c1 :: c2 :: c3 :: c4 :: c5 :: cs) = some (.agg [c0, c1, c2, c3, c4, c5]) := by
 have h1 : aggT Tryz.prog 25 = some true := by kernel_rfl
 have h2 : szT Tryz.prog 25 = some 6 := by kernel_rfl
 simp [vload, vpart, h1, h2]
theorem sz25 : szT Tryz.prog 25 = some 6 := by kernel_rfl
theorem vzl25 : vzl Tryz.prog 25 = some [.lit (.int .i64 0), .lit (.int .i64 0), .lit (.int .i64 0), .lit (.int .i64 0), .lit (.int .i64 0), .lit (.int .i64 0)] := by kernel_rfl
theorem zaqr {H : Nat → Option VObj} {β o : Nat} {k : IntKind} : vindexAddr Tryz.prog H 25 (.ptr β o) (.lit (.int k (0 : Int))) = if (H β).isSome = true then some (.ptr β (o + 0)) else none := by
 have h2 : szT Tryz.prog 24 = some 2 := by kernel_rfl
 simp [vindexAddr, Tryz.underlying25, h2]
theorem zapv {H : Nat → Option VObj} {cs : List VV} {k : IntKind} : vindexAddr Tryz.prog H 25 (.tp cs) (.lit (.int k (0 : Int))) = some (.tp (cs.drop 0)) := by
 have h2 : szT Tryz.prog 24 = some 2 := by kernel_rfl
 simp [vindexAddr, Tryz.underlying25, h2]
theorem zaru {c0 c1 c2 c3 c4 c5 : VV} {k : IntKind} : vindex Tryz.prog 25 (.agg [c0, c1, c2, c3, c4, c5]) (.lit (.int k (0 : Int))) = some (.agg [c0, c1]) := by
 have h1 : aggT Tryz.prog 24 = some true := by kernel_rfl
 have h2 : szT Tryz.prog 24 = some 2 := by kernel_rfl
 simp [vindex, Tryz.underlying25, vpart, h1, h2]
theorem zjw {H : Nat → Option VObj} {β o : Nat} {k : IntKind} {i : Int} (h : (i == 0) = true) : vindexAddr Tryz.prog H 25 (.ptr β o) (.lit (.int k i)) = if (H β).isSome = true then some (.ptr β (o + 0)) else none := by
 obtain rfl : i = 0 := by simpa using h
 have h2 : szT Tryz.prog 24 = some 2 := by kernel_rfl
 simp [vindexAddr, Tryz.underlying25, h2]
theorem zyn {H : Nat → Option VObj} {cs : List VV} {k : IntKind} {i : Int} (h : (i == 0) = true) : vindexAddr Tryz.prog H 25 (.tp cs) (.lit (.int k i)) = some (.tp (cs.drop 0)) := by
 obtain rfl : i = 0 := by simpa using h
 have h2 : szT Tryz.prog 24 = some 2 := by kernel_rfl
 simp [vindexAddr, Tryz.underlying25, h2]
theorem zwp {c0 c1 c2 c3 c4 c5 : VV} {k : IntKind} {i : Int} (h : (i == 0) = true) : vindex Tryz.prog 25 (.agg [c0, c1, c2, c3, c4, c5]) (.lit (.int k i)) = some (.agg [c0, c1]) := by
 obtain rfl : i = 0 := by simpa using h
 have h1 : aggT Tryz.prog 24 = some true := by kernel_rfl
 have h2 : szT Tryz.prog 24 = some 2 := by kernel_rfl
 simp [vindex, Tryz.underlying25, vpart, h1, h2]
theorem zaqz {H : Nat → Option VObj} {β o : Nat} {k : IntKind} : vindexAddr Tryz.prog H 25 (.ptr β o) (.lit (.int k (1 : Int))) = if (H β).isSome = true then some (.ptr β (o + 2)) else none := by
 have h2 : szT Tryz.prog 24 = some 2 := by kernel_rfl
 simp [vindexAddr, Tryz.underlying25, h2]
theorem zaqw {H : Nat → Option VObj} {cs : List VV} {k : IntKind} : vindexAddr Tryz.prog H 25 (.tp cs) (.lit (.int k (1 : Int))) = some (.tp (cs.drop 2)) := by
 have h2 : szT Tryz.prog 24 = some 2 := by kernel_rfl
 simp [vindexAddr, Tryz.underlying25, h2]
theorem zara {c0 c1 c2 c3 c4 c5 : VV} {k : IntKind} : vindex Tryz.prog 25 (.agg [c0, c1, c2, c3, c4, c5]) (.lit (.int k (1 : Int))) = some (.agg [c2, c3]) := by
 have h1 : aggT Tryz.prog 24 = some true := by kernel_rfl
 have h2 : szT Tryz.prog 24 = some 2 := by kernel_rfl
 simp [vindex, Tryz.underlying25, vpart, h1, h2]
theorem zjy {H : Nat → Option VObj} {β o : Nat} {k : IntKind} {i : Int} (h : (i == 1) = true) : vindexAddr Tryz.prog H 25 (.ptr β o) (.lit (.int k i)) = if (H β).isSome = true then some (.ptr β (o + 2)) else none := by
 obtain rfl : i = 1 := by simpa using h
 have h2 : szT Tryz.prog 24 = some 2 := by kernel_rfl
 simp [vindexAddr, Tryz.underlying25, h2]
theorem zaag {H : Nat → Option VObj} {cs : List VV} {k : IntKind} {i : Int} (h : (i == 1) = true) : vindexAddr Tryz.prog H 25 (.tp cs) (.lit (.int k i)) = some (.tp (cs.drop 2)) := by
 obtain rfl : i = 1 := by simpa using h
 have h2 : szT Tryz.prog 24 = some 2 := by kernel_rfl
 simp [vindexAddr, Tryz.underlying25, h2]
theorem zwm {c0 c1 c2 c3 c4 c5 : VV} {k : IntKind} {i : Int} (h : (i == 1) = true) : vindex Tryz.prog 25 (.agg [c0, c1, c2, c3, c4, c5]) (.lit (.int k i)) = some (.agg [c2, c3]) := by
 obtain rfl : i = 1 := by simpa using h
 have h1 : aggT Tryz.prog 24 = some true := by kernel_rfl
 have h2 : szT Tryz.prog 24 = some 2 := by kernel_rfl
 simp [vindex, Tryz.underlying25, vpart, h1, h2]
theorem zapt {H : Nat → Option VObj} {β o : Nat} {k : IntKind} : vindexAddr Tryz.prog H 25 (.ptr β o) (.lit (.int k (2 : Int))) = if (H β).isSome = true then some (.ptr β (o + 4)) else none := by
 have h2 : szT Tryz.prog 24 = some 2 := by kernel_rfl
 simp [vindexAddr, Tryz.underlying25, h2]
theorem zanx {H : Nat → Option VObj} {cs : List VV} {k : IntKind} : vindexAddr Tryz.prog H 25 (.tp cs) (.lit (.int k (2 : Int))) = some (.tp (cs.drop 4)) := by
 have h2 : szT Tryz.prog 24 = some 2 := by kernel_rfl
 simp [vindexAddr, Tryz.underlying25, h2]
theorem zasa {c0 c1 c2 c3 c4 c5 : VV} {k : IntKind} : vindex Tryz.prog 25 (.agg [c0, c1, c2, c3, c4, c5]) (.lit (.int k (2 : Int))) = some (.agg [c4, c5]) := by
 have h1 : aggT Tryz.prog 24 = some true := by kernel_rfl
 have h2 : szT Tryz.prog 24 = some 2 := by kernel_rfl
 simp [vindex, Tryz.underlying25, vpart, h1, h2]
theorem zjz {H : Nat → Option VObj} {β o : Nat} {k : IntKind} {i : Int} (h : (i == 2) = true) : vindexAddr Tryz.prog H 25 (.ptr β o) (.lit (.int k i)) = if (H β).isSome = true then some (.ptr β (o + 4)) else none := by
 obtain rfl : i = 2 := by simpa using h
 have h2 : szT Tryz.prog 24 = some 2 := by kernel_rfl
 simp [vindexAddr, Tryz.underlying25, h2]
theorem zyt {H : Nat → Option VObj} {cs : List VV} {k : IntKind} {i : Int} (h : (i == 2) = true) : vindexAddr Tryz.prog H 25 (.tp cs) (.lit (.int k i)) = some (.tp (cs.drop 4)) := by
 obtain rfl : i = 2 := by simpa using h
 have h2 : szT Tryz.prog 24 = some 2 := by kernel_rfl
 simp [vindexAddr, Tryz.underlying25, h2]
theorem zwn {c0 c1 c2 c3 c4 c5 : VV} {k : IntKind} {i : Int} (h : (i == 2) = true) : vindex Tryz.prog 25 (.agg [c0, c1, c2, c3, c4, c5]) (.lit (.int k i)) = some (.agg [c4, c5]) := by
 obtain rfl : i = 2 := by simpa using h
 have h1 : aggT Tryz.prog 24 = some true := by kernel_rfl
 have h2 : szT Tryz.prog 24 = some 2 := by kernel_rfl
 simp [vindex, Tryz.underlying25, vpart, h1, h2]
theorem ld26 {c : VV} {cs : List VV} : vload Tryz.prog 26 (c :: cs) = some c := by
 have h1 : aggT Tryz.prog 26 = some false := by kernel_rfl
 simp [vload, vpart, h1]
theorem sz26 : szT Tryz.prog 26 = some 1 := by kernel_rfl
theorem vzl26 : vzl Tryz.prog 26 = some [.lit (.slice none 0 0)] := by kernel_rfl
theorem len26 {H : Nat → Option VObj} {cs : List VV} {n : Nat} {f : Bool} : vlen Tryz.prog H 26 (.sl cs n f) = some (.lit (.int .i64 n)) := by simp [vlen, Tryz.underlying26, sls]
theorem lenN26 {H : Nat → Option VObj} : vlen Tryz.prog H 26 (.lit (.slice none 0 0)) = some (.lit (.int .i64 0)) := by simp [vlen, Tryz.underlying26, sls]
theorem lenR26 {H : Nat → Option VObj} {β off n w c : Nat} : vlen Tryz.prog H 26 (.ref β off n w c) = (match H β with | some (.cells _ cs) => if off ≤ cs.length then some (.lit (.int .i64 n)) else none | _ => none) := lenR Tryz.underlying26
theorem et26 : elemT Tryz.prog 26 = some 94 := by simp [elemT, Tryz.underlying26]
theorem tk26 {xs : List Gt} : (cellsL cGt xs).take (xs.length * 6) = cellsL cGt xs := zhv (fun _ => rfl)
theorem zapk {c0 c1 c2 c3 c4 c5 : VV} (h : leafL [c0, c1, c2, c3, c4, c5] = true) : vbuildSlice Tryz.prog 26 1 [(0, .agg [c0, c1, c2, c3, c4, c5])] = some ([c0, c1, c2, c3, c4, c5], 6) := by
 have h2 : szT Tryz.prog 94 = some 6 := by kernel_rfl
 have h3 : vzero Tryz.prog 94 = some #[.int .i64 0, .int .i64 0, .int .i64 0, .int .i64 0, .int .i64 0, .int .i64 0] := by kernel_rfl
 simp only [zav, zbd, Bool.and_true, Bool.and_eq_true] at h
 simp [vbuildSlice, Tryz.underlying26, h2, h3, vfill, vcells, h, overwrite, vzeros]
theorem ix26 {H : Nat → Option VObj} {xs : List Gt} {x : Gt} {f : Bool} {k : IntKind} {i : Int} (h : getI xs i = some x) : vindexAddr Tryz.prog H 26 (.sl (cellsL cGt xs) xs.length f) (.lit (.int k i)) = some (.tp (cGt x ++ cellsL cGt (xs.drop (i.toNat + 1)))) :=
 ixG Tryz.underlying26 (by kernel_rfl : szT Tryz.prog 94 = some 6) (by decide) (fun _ => rfl) h
theorem ld28 {c0 c1 c2 c3 c4 c5 c6 c7 c8 c9 c10 c11 c12 : VV} {cs : List VV} : vload Tryz.prog 28 (c0 :: c1 :: c2 :: c3 :: c4 :: c5 :: c6 :: c7 :: c8 :: c9 :: c10 :: c11 :: c12 :: cs) = some (.agg [c0, c1, c2, c3, c4, c5, c6, c7, c8, c9, c10, c11, c12]) := by
 have h1 : aggT Tryz.prog 28 = some true := by kernel_rfl
 have h2 : szT Tryz.prog 28 = some 13 := by kernel_rfl
 simp [vload, vpart, h1, h2]
theorem sz28 : szT Tryz.prog 28 = some 13 := by kernel_rfl
theorem vzl28 : vzl Tryz.prog 28 = some [.lit (.int .i64 0), .lit (.int .i64 0), .lit (.int .i64 0), .lit (.int .i64 0), .lit (.int .i64 0), .lit (.int .i64 0), .lit (.int .i64 0), .lit (.int .i64 0), .lit (.int .i64 0), .lit (.int .i64 0), .lit (.int .i64 0), .lit (.int .i64 0), .lit (.slice none 0 0)] := by kernel_rfl
theorem zaqx {H : Nat → Option VObj} {cs : List VV} : vfieldAddr Tryz.prog H 28 (.tp cs) 0 = some (.tp (cs.drop 0)) := by
 have h2 : szT Tryz.prog 22 = some 3 := by kernel_rfl
 simp [vfieldAddr, Tryz.underlying28, h2]
theorem zaro {H : Nat → Option VObj} {β o : Nat} : vfieldAddr Tryz.prog H 28 (.ptr β o) 0 = if (H β).isSome = true then some (.ptr β (o + 0)) else none := by
 have h2 : szT Tryz.prog 22 = some 3 := by kernel_rfl
 simp [vfieldAddr, Tryz.underlying28, h2]
theorem zarw {c0 c1 c2 c3 c4 c5 c6 c7 c8 c9 c10 c11 c12 : VV} : vfield Tryz.prog 28 (.agg [c0, c1, c2, c3, c4, c5, c6, c7, c8, c9, c10, c11, c12]) 0 = some (.agg [c0, c1, c2]) := by
 have h1 : aggT Tryz.prog 22 = some true := by kernel_rfl
 have h2 : szT Tryz.prog 22 = some 3 := by kernel_rfl
 simp [vfield, Tryz.underlying28, vpart, h1, h2]
theorem zaqp {H : Nat → Option VObj} {cs : List VV} : vfieldAddr Tryz.prog H 28 (.tp cs) 1 = some (.tp (cs.drop 3)) := by
 have h2 : szT Tryz.prog 25 = some 6 := by kernel_rfl
 simp [vfieldAddr, Tryz.underlying28, h2]
theorem zaql {H : Nat → Option VObj} {β o : Nat} : vfieldAddr Tryz.prog H 28 (.ptr β o) 1 = if (H β).isSome = true then some (.ptr β (o + 3)) else none := by
 have h2 : szT Tryz.prog 25 = some 6 := by kernel_rfl
 simp [vfieldAddr, Tryz.underlying28, h2]
theorem zaox {c0 c1 c2 c3 c4 c5 c6 c7 c8 c9 c10 c11 c12 : VV} : vfield Tryz.prog 28 (.agg [c0, c1, c2, c3, c4, c5, c6, c7, c8, c9, c10, c11, c12]) 1 = some (.agg [c3, c4, c5, c6, c7, c8]) := by
 have h1 : aggT Tryz.prog 25 = some true := by kernel_rfl
 have h2 : szT Tryz.prog 25 = some 6 := by kernel_rfl
 simp [vfield, Tryz.underlying28, vpart, h1, h2]
theorem zaoi {H : Nat → Option VObj} {cs : List VV} : vfieldAddr Tryz.prog H 28 (.tp cs) 2 = some (.tp (cs.drop 9)) := by
 have h2 : szT Tryz.prog 24 = some 2 := by kernel_rfl
 simp [vfieldAddr, Tryz.underlying28, h2]
theorem zarc {H : Nat → Option VObj} {β o : Nat} : vfieldAddr Tryz.prog H 28 (.ptr β o) 2 = if (H β).isSome = true then some (.ptr β (o + 9)) else none := by
 have h2 : szT Tryz.prog 24 = some 2 := by kernel_rfl
 simp [vfieldAddr, Tryz.underlying28, h2]
theorem zaqa {c0 c1 c2 c3 c4 c5 c6 c7 c8 c9 c10 c11 c12 : VV} : vfield Tryz.prog 28 (.agg [c0, c1, c2, c3, c4, c5, c6, c7, c8, c9, c10, c11, c12]) 2 = some (.agg [c9, c10]) := by
 have h1 : aggT Tryz.prog 24 = some true := by kernel_rfl
 have h2 : szT Tryz.prog 24 = some 2 := by kernel_rfl
 simp [vfield, Tryz.underlying28, vpart, h1, h2]
theorem zaqk {H : Nat → Option VObj} {cs : List VV} : vfieldAddr Tryz.prog H 28 (.tp cs) 3 = some (.tp (cs.drop 11)) := by
 have h2 : szT Tryz.prog 3 = some 1 := by kernel_rfl
 simp [vfieldAddr, Tryz.underlying28, h2]
theorem zark {H : Nat → Option VObj} {β o : Nat} : vfieldAddr Tryz.prog H 28 (.ptr β o) 3 = if (H β).isSome = true then some (.ptr β (o + 11)) else none := by
 have h2 : szT Tryz.prog 3 = some 1 := by kernel_rfl
 simp [vfieldAddr, Tryz.underlying28, h2]
theorem zaog {c0 c1 c2 c3 c4 c5 c6 c7 c8 c9 c10 c11 c12 : VV} : vfield Tryz.prog 28 (.agg [c0, c1, c2, c3, c4, c5, c6, c7, c8, c9, c10, c11, c12]) 3 = some (c11) := by
 have h1 : aggT Tryz.prog 3 = some false := by kernel_rfl
 have h2 : szT Tryz.prog 3 = some 1 := by kernel_rfl
 simp [vfield, Tryz.underlying28, vpart, h1, h2]
theorem zaow {H : Nat → Option VObj} {cs : List VV} : vfieldAddr Tryz.prog H 28 (.tp cs) 4 = some (.tp (cs.drop 12)) := by
 have h2 : szT Tryz.prog 26 = some 1 := by kernel_rfl
 simp [vfieldAddr, Tryz.underlying28, h2]
theorem zanz {H : Nat → Option VObj} {β o : Nat} : vfieldAddr Tryz.prog H 28 (.ptr β o) 4 = if (H β).isSome = true then some (.ptr β (o + 12)) else none := by
 have h2 : szT Tryz.prog 26 = some 1 := by kernel_rfl
 simp [vfieldAddr, Tryz.underlying28, h2]
theorem zary {c0 c1 c2 c3 c4 c5 c6 c7 c8 c9 c10 c11 c12 : VV} : vfield Tryz.prog 28 (.agg [c0, c1, c2, c3, c4, c5, c6, c7, c8, c9, c10, c11, c12]) 4 = some (c12) := by
 have h1 : aggT Tryz.prog 26 = some false := by kernel_rfl
 have h2 : szT Tryz.prog 26 = some 1 := by kernel_rfl
 simp [vfield, Tryz.underlying28, vpart, h1, h2]
theorem ld29 {c : VV} {cs : List VV} : vload Tryz.prog 29 (c :: cs) = some c := by
 have h1 : aggT Tryz.prog 29 = some false := by kernel_rfl
 simp [vload, vpart, h1]
theorem sz29 : szT Tryz.prog 29 = some 1 := by kernel_rfl
theorem vzl29 : vzl Tryz.prog 29 = some [.lit (.slice none 0 0)] := by kernel_rfl
theorem len29 {H : Nat → Option VObj} {cs : List VV} {n : Nat} {f : Bool} : vlen Tryz.prog H 29 (.sl cs n f) = some (.lit (.int .i64 n)) := by simp [vlen, Tryz.underlying29, sls]
theorem lenN29 {H : Nat → Option VObj} : vlen Tryz.prog H 29 (.lit (.slice none 0 0)) = some (.lit (.int .i64 0)) := by simp [vlen, Tryz.underlying29, sls]
theorem lenR29 {H : Nat → Option VObj} {β off n w c : Nat} : vlen Tryz.prog H 29 (.ref β off n w c) = (match H β with | some (.cells _ cs) => if off ≤ cs.length then some (.lit (.int .i64 n)) else none | _ => none) := lenR Tryz.underlying29
theorem et29 : elemT Tryz.prog 29 = some 3 := by simp [elemT, Tryz.underlying29]
theorem ao29 : appOk Tryz.prog 29 = some (3, 1, 8) := by kernel_rfl
theorem tk29 {xs : List Int} : (cellsL eI xs).take (xs.length * 1) = cellsL eI xs := zhv (fun _ => rfl)
theorem lf29 : ∀ x : Int, leafL (eI x) = true := fun x => by simp only [eI_eq, zamn, eB_eq, eS_eq, zajs, zbd, zav, zabv, zwc, zod, zqm, zafk, Bool.and_self]
theorem zapi {a0 : VV} (h : leafL [a0] = true) : vbuildSlice Tryz.prog 29 1 [(0, a0)] = some ([a0], 1) := by
 have h2 : szT Tryz.prog 3 = some 1 := by kernel_rfl
 have h3 : vzero Tryz.prog 3 = some #[.int .i64 0] := by kernel_rfl
 simp only [zav, zbd, Bool.and_true, Bool.and_eq_true] at h
 simp [vbuildSlice, Tryz.underlying29, h2, h3, vfill, vcells1, h, overwrite, vzeros, List.range_succ]
theorem zard {a0 a1 : VV} (h : leafL [a0, a1] = true) : vbuildSlice Tryz.prog 29 2 [(0, a0), (1, a1)] = some ([a0, a1], 1) := by
 have h2 : szT Tryz.prog 3 = some 1 := by kernel_rfl
 have h3 : vzero Tryz.prog 3 = some #[.int .i64 0] := by kernel_rfl
 simp only [zav, zbd, Bool.and_true, Bool.and_eq_true] at h
 simp [vbuildSlice, Tryz.underlying29, h2, h3, vfill, vcells1, h, overwrite, vzeros, List.range_succ]
theorem zaqc {a0 a1 a2 : VV} (h : leafL [a0, a1, a2] = true) : vbuildSlice Tryz.prog 29 3 [(0, a0), (1, a1), (2, a2)] = some ([a0, a1, a2], 1) := by
 have h2 : szT Tryz.prog 3 = some 1 := by kernel_rfl
 have h3 : vzero Tryz.prog 3 = some #[.int .i64 0] := by kernel_rfl
 simp only [zav, zbd, Bool.and_true, Bool.and_eq_true] at h
 simp [vbuildSlice, Tryz.underlying29, h2, h3, vfill, vcells1, h, overwrite, vzeros, List.range_succ]
theorem ix29 {H : Nat → Option VObj} {xs : List Int} {x : Int} {f : Bool} {k : IntKind} {i : Int} (h : getI xs i = some x) : vindexAddr Tryz.prog H 29 (.sl (cellsL eI xs) xs.length f) (.lit (.int k i)) = some (.tp (eI x ++ cellsL eI (xs.drop (i.toNat + 1)))) :=
 ixG Tryz.underlying29 (by kernel_rfl : szT Tryz.prog 3 = some 1) (by decide) (fun _ => rfl) h
theorem ld32 {c : VV} {cs : List VV} : vload Tryz.prog 32 (c :: cs) = some c := by
 have h1 : aggT Tryz.prog 32 = some false := by kernel_rfl
 simp [vload, vpart, h1]
theorem sz32 : szT Tryz.prog 32 = some 1 := by kernel_rfl
theorem vzl32 : vzl Tryz.prog 32 = some [.lit (.int .i64 0)] := by kernel_rfl
theorem ld40 {c : VV} {cs : List VV} : vload Tryz.prog 40 (c :: cs) = some c := by
 have h1 : aggT Tryz.prog 40 = some false := by kernel_rfl
 simp [vload, vpart, h1]
theorem sz40 : szT Tryz.prog 40 = some 1 := by kernel_rfl
theorem vzl40 : vzl Tryz.prog 40 = some [.lit (.slice none 0 0)] := by kernel_rfl
theorem len40 {H : Nat → Option VObj} {cs : List VV} {n : Nat} {f : Bool} : vlen Tryz.prog H 40 (.sl cs n f) = some (.lit (.int .i64 n)) := by simp [vlen, Tryz.underlying40, sls]
theorem lenN40 {H : Nat → Option VObj} : vlen Tryz.prog H 40 (.lit (.slice none 0 0)) = some (.lit (.int .i64 0)) := by simp [vlen, Tryz.underlying40, sls]
theorem lenR40 {H : Nat → Option VObj} {β off n w c : Nat} : vlen Tryz.prog H 40 (.ref β off n w c) = (match H β with | some (.cells _ cs) => if off ≤ cs.length then some (.lit (.int .i64 n)) else none | _ => none) := lenR Tryz.underlying40
theorem et40 : elemT Tryz.prog 40 = some 22 := by simp [elemT, Tryz.underlying40]
theorem tk40 {xs : List Gi} : (cellsL cGi xs).take (xs.length * 3) = cellsL cGi xs := zhv (fun _ => rfl)
theorem zaqq {c0 c1 c2 : VV} (h : leafL [c0, c1, c2] = true) : vbuildSlice Tryz.prog 40 1 [(0, .agg [c0, c1, c2])] = some ([c0, c1, c2], 3) := by
 have h2 : szT Tryz.prog 22 = some 3 := by kernel_rfl
 have h3 : vzero Tryz.prog 22 = some #[.int .i64 0, .int .i64 0, .int .i64 0] := by kernel_rfl
 simp only [zav, zbd, Bool.and_true, Bool.and_eq_true] at h
 simp [vbuildSlice, Tryz.underlying40, h2, h3, vfill, vcells, h, overwrite, vzeros]
theorem ld42 {c0 c1 c2 c3 c4 : VV} {cs : List VV} : vload Tryz.prog 42 (c0 :: c1 :: c2 :: c3 :: c4 :: cs) = some (.agg [c0, c1, c2, c3, c4]) := by
 have h1 : aggT Tryz.prog 42 = some true := by kernel_rfl
 have h2 : szT Tryz.prog 42 = some 5 := by kernel_rfl
 simp [vload, vpart, h1, h2]
theorem sz42 : szT Tryz.prog 42 = some 5 := by kernel_rfl
theorem vzl42 : vzl Tryz.prog 42 = some [.lit (.slice none 0 0), .lit (.int .i64 0), .lit (.int .i64 0), .lit (.int .i64 0), .lit (.int .i64 0)] := by kernel_rfl
theorem zapn {H : Nat → Option VObj} {cs : List VV} : vfieldAddr Tryz.prog H 42 (.tp cs) 0 = some (.tp (cs.drop 0)) := by
 have h2 : szT Tryz.prog 40 = some 1 := by kernel_rfl
 simp [vfieldAddr, Tryz.underlying42, h2]
theorem zaoc {H : Nat → Option VObj} {β o : Nat} : vfieldAddr Tryz.prog H 42 (.ptr β o) 0 = if (H β).isSome = true then some (.ptr β (o + 0)) else none := by
 have h2 : szT Tryz.prog 40 = some 1 := by kernel_rfl
 simp [vfieldAddr, Tryz.underlying42, h2]
theorem zapz {c0 c1 c2 c3 c4 : VV} : vfield Tryz.prog 42 (.agg [c0, c1, c2, c3, c4]) 0 = some (c0) := by
 have h1 : aggT Tryz.prog 40 = some false := by kernel_rfl
 have h2 : szT Tryz.prog 40 = some 1 := by kernel_rfl
 simp [vfield, Tryz.underlying42, vpart, h1, h2]
theorem zaqs {H : Nat → Option VObj} {cs : List VV} : vfieldAddr Tryz.prog H 42 (.tp cs) 1 = some (.tp (cs.drop 1)) := by
 have h2 : szT Tryz.prog 3 = some 1 := by kernel_rfl
 simp [vfieldAddr, Tryz.underlying42, h2]
theorem zaoa {H : Nat → Option VObj} {β o : Nat} : vfieldAddr Tryz.prog H 42 (.ptr β o) 1 = if (H β).isSome = true then some (.ptr β (o + 1)) else none := by
 have h2 : szT Tryz.prog 3 = some 1 := by kernel_rfl
 simp [vfieldAddr, Tryz.underlying42, h2]
theorem zaou {c0 c1 c2 c3 c4 : VV} : vfield Tryz.prog 42 (.agg [c0, c1, c2, c3, c4]) 1 = some (c1) := by
 have h1 : aggT Tryz.prog 3 = some false := by kernel_rfl
 have h2 : szT Tryz.prog 3 = some 1 := by kernel_rfl
 simp [vfield, Tryz.underlying42, vpart, h1, h2]
theorem zapc {H : Nat → Option VObj} {cs : List VV} : vfieldAddr Tryz.prog H 42 (.tp cs) 2 = some (.tp (cs.drop 2)) := by
 have h2 : szT Tryz.prog 22 = some 3 := by kernel_rfl
 simp [vfieldAddr, Tryz.underlying42, h2]
theorem zari {H : Nat → Option VObj} {β o : Nat} : vfieldAddr Tryz.prog H 42 (.ptr β o) 2 = if (H β).isSome = true then some (.ptr β (o + 2)) else none := by
 have h2 : szT Tryz.prog 22 = some 3 := by kernel_rfl
 simp [vfieldAddr, Tryz.underlying42, h2]
theorem zaoe {c0 c1 c2 c3 c4 : VV} : vfield Tryz.prog 42 (.agg [c0, c1, c2, c3, c4]) 2 = some (.agg [c2, c3, c4]) := by
 have h1 : aggT Tryz.prog 22 = some true := by kernel_rfl
 have h2 : szT Tryz.prog 22 = some 3 := by kernel_rfl
 simp [vfield, Tryz.underlying42, vpart, h1, h2]
theorem ld47 {c : VV} {cs : List VV} : vload Tryz.prog 47 (c :: cs) = some c := by
 have h1 : aggT Tryz.prog 47 = some false := by kernel_rfl
 simp [vload, vpart, h1]
theorem sz47 : szT Tryz.prog 47 = some 1 := by kernel_rfl
theorem vzl47 : vzl Tryz.prog 47 = some [.lit (.int .i64 0)] := by kernel_rfl
theorem ld89 {c0 c1 c2 c3 c4 c5 c6 c7 c8 c9 c10 c11 c12 c13 : VV} {cs : List VV} : vload Tryz.prog 89 (c0 :: c1 :: c2 :: c3 :: c4 :: c5 :: c6 :: c7 :: c8 :: c9 :: c10 :: c11 :: c12 :: c13 :: cs) = some (.agg [c0, c1, c2, c3, c4, c5, c6, c7, c8, c9, c10, c11, c12, c13]) := by
 have h1 : aggT Tryz.prog 89 = some true := by kernel_rfl
 have h2 : szT Tryz.prog 89 = some 14 := by kernel_rfl
 simp [vload, vpart, h1, h2]
theorem sz89 : szT Tryz.prog 89 = some 14 := by kernel_rfl
theorem vzl89 : vzl Tryz.prog 89 = some [.lit (.int .i64 0), .lit (.int .i64 0), .lit (.int .i64 0), .lit (.int .i64 0), .lit (.int .i64 0), .lit (.int .i64 0), .lit (.int .i64 0), .lit (.int .i64 0), .lit (.int .i64 0), .lit (.int .i64 0), .lit (.int .i64 0), .lit (.int .i64 0), .lit (.slice none 0 0), .lit (.slice none 0 0)] := by kernel_rfl
theorem zaol {H : Nat → Option VObj} {cs : List VV} : vfieldAddr Tryz.prog H 89 (.tp cs) 0 = some (.tp (cs.drop 0)) := by
 have h2 : szT Tryz.prog 28 = some 13 := by kernel_rfl
 simp [vfieldAddr, Tryz.underlying89, h2]
theorem zarg {H : Nat → Option VObj} {β o : Nat} : vfieldAddr Tryz.prog H 89 (.ptr β o) 0 = if (H β).isSome = true then some (.ptr β (o + 0)) else none := by
 have h2 : szT Tryz.prog 28 = some 13 := by kernel_rfl
 simp [vfieldAddr, Tryz.underlying89, h2]
theorem zany {c0 c1 c2 c3 c4 c5 c6 c7 c8 c9 c10 c11 c12 c13 : VV} : vfield Tryz.prog 89 (.agg [c0, c1, c2, c3, c4, c5, c6, c7, c8, c9, c10, c11, c12, c13]) 0 = some (.agg [c0, c1, c2, c3, c4, c5, c6, c7, c8, c9, c10, c11, c12]) := by
 have h1 : aggT Tryz.prog 28 = some true := by kernel_rfl
 have h2 : szT Tryz.prog 28 = some 13 := by kernel_rfl
 simp [vfield, Tryz.underlying89, vpart, h1, h2]
theorem zarq {H : Nat → Option VObj} {cs : List VV} : vfieldAddr Tryz.prog H 89 (.tp cs) 1 = some (.tp (cs.drop 13)) := by
 have h2 : szT Tryz.prog 29 = some 1 := by kernel_rfl
 simp [vfieldAddr, Tryz.underlying89, h2]
theorem zaps {H : Nat → Option VObj} {β o : Nat} : vfieldAddr Tryz.prog H 89 (.ptr β o) 1 = if (H β).isSome = true then some (.ptr β (o + 13)) else none := by
 have h2 : szT Tryz.prog 29 = some 1 := by kernel_rfl
 simp [vfieldAddr, Tryz.underlying89, h2]
theorem zaqh {c0 c1 c2 c3 c4 c5 c6 c7 c8 c9 c10 c11 c12 c13 : VV} : vfield Tryz.prog 89 (.agg [c0, c1, c2, c3, c4, c5, c6, c7, c8, c9, c10, c11, c12, c13]) 1 = some (c13) := by
 have h1 : aggT Tryz.prog 29 = some false := by kernel_rfl
 have h2 : szT Tryz.prog 29 = some 1 := by kernel_rfl
 simp [vfield, Tryz.underlying89, vpart, h1, h2]
theorem ld94 {c0 c1 c2 c3 c4 c5 : VV} {cs : List VV} : vload Tryz.prog 94 (c0 :: c1 :: c2 :: c3 :: c4 :: c5 :: cs) = some (.agg [c0, c1, c2, c3, c4, c5]) := by
 have h1 : aggT Tryz.prog 94 = some true := by kernel_rfl
 have h2 : szT Tryz.prog 94 = some 6 := by kernel_rfl
 simp [vload, vpart, h1, h2]
theorem sz94 : szT Tryz.prog 94 = some 6 := by kernel_rfl
theorem vzl94 : vzl Tryz.prog 94 = some [.lit (.int .i64 0), .lit (.int .i64 0), .lit (.int .i64 0), .lit (.int .i64 0), .lit (.int .i64 0), .lit (.int .i64 0)] := by kernel_rfl
theorem zapq {H : Nat → Option VObj} {cs : List VV} : vfieldAddr Tryz.prog H 94 (.tp cs) 0 = some (.tp (cs.drop 0)) := by
 have h2 : szT Tryz.prog 25 = some 6 := by kernel_rfl
 simp [vfieldAddr, Tryz.underlying94, h2]
theorem zapy {H : Nat → Option VObj} {β o : Nat} : vfieldAddr Tryz.prog H 94 (.ptr β o) 0 = if (H β).isSome = true then some (.ptr β (o + 0)) else none := by
 have h2 : szT Tryz.prog 25 = some 6 := by kernel_rfl
 simp [vfieldAddr, Tryz.underlying94, h2]
theorem zaoq {c0 c1 c2 c3 c4 c5 : VV} : vfield Tryz.prog 94 (.agg [c0, c1, c2, c3, c4, c5]) 0 = some (.agg [c0, c1, c2, c3, c4, c5]) := by
 have h1 : aggT Tryz.prog 25 = some true := by kernel_rfl
 have h2 : szT Tryz.prog 25 = some 6 := by kernel_rfl
 simp [vfield, Tryz.underlying94, vpart, h1, h2]
theorem ld99 {c0 c1 c2 : VV} {cs : List VV} : vload Tryz.prog 99 (c0 :: c1 :: c2 :: cs) = some (.agg [c0, c1, c2]) := by
 have h1 : aggT Tryz.prog 99 = some true := by kernel_rfl
 have h2 : szT Tryz.prog 99 = some 3 := by kernel_rfl
 simp [vload, vpart, h1, h2]
theorem sz99 : szT Tryz.prog 99 = some 3 := by kernel_rfl
theorem vzl99 : vzl Tryz.prog 99 = some [.lit (.int .i64 0), .lit (.int .i64 0), .lit (.int .i64 0)] := by kernel_rfl
theorem zaop {H : Nat → Option VObj} {β o : Nat} {k : IntKind} : vindexAddr Tryz.prog H 99 (.ptr β o) (.lit (.int k (0 : Int))) = if (H β).isSome = true then some (.ptr β (o + 0)) else none := by
 have h2 : szT Tryz.prog 3 = some 1 := by kernel_rfl
 simp [vindexAddr, Tryz.underlying99, h2]
theorem zarh {H : Nat → Option VObj} {cs : List VV} {k : IntKind} : vindexAddr Tryz.prog H 99 (.tp cs) (.lit (.int k (0 : Int))) = some (.tp (cs.drop 0)) := by
 have h2 : szT Tryz.prog 3 = some 1 := by kernel_rfl
 simp [vindexAddr, Tryz.underlying99, h2]
theorem zarj {c0 c1 c2 : VV} {k : IntKind} : vindex Tryz.prog 99 (.agg [c0, c1, c2]) (.lit (.int k (0 : Int))) = some (c0) := by
 have h1 : aggT Tryz.prog 3 = some false := by kernel_rfl
 have h2 : szT Tryz.prog 3 = some 1 := by kernel_rfl
 simp [vindex, Tryz.underlying99, vpart, h1, h2]
theorem zaqv {H : Nat → Option VObj} {β o : Nat} {k : IntKind} : vindexAddr Tryz.prog H 99 (.ptr β o) (.lit (.int k (1 : Int))) = if (H β).isSome = true then some (.ptr β (o + 1)) else none := by
 have h2 : szT Tryz.prog 3 = some 1 := by kernel_rfl
 simp [vindexAddr, Tryz.underlying99, h2]
theorem zarz {H : Nat → Option VObj} {cs : List VV} {k : IntKind} : vindexAddr Tryz.prog H 99 (.tp cs) (.lit (.int k (1 : Int))) = some (.tp (cs.drop 1)) := by
 have h2 : szT Tryz.prog 3 = some 1 := by kernel_rfl
 simp [vindexAddr, Tryz.underlying99, h2]
theorem zaot {c0 c1 c2 : VV} {k : IntKind} : vindex Tryz.prog 99 (.agg [c0, c1, c2]) (.lit (.int k (1 : Int))) = some (c1) := by
 have h1 : aggT Tryz.prog 3 = some false := by kernel_rfl
 have h2 : szT Tryz.prog 3 = some 1 := by kernel_rfl
 simp [vindex, Tryz.underlying99, vpart, h1, h2]
theorem zapm {H : Nat → Option VObj} {β o : Nat} {k : IntKind} : vindexAddr Tryz.prog H 99 (.ptr β o) (.lit (.int k (2 : Int))) = if (H β).isSome = true then some (.ptr β (o + 2)) else none := by
 have h2 : szT Tryz.prog 3 = some 1 := by kernel_rfl
 simp [vindexAddr, Tryz.underlying99, h2]
theorem zaqo {H : Nat → Option VObj} {cs : List VV} {k : IntKind} : vindexAddr Tryz.prog H 99 (.tp cs) (.lit (.int k (2 : Int))) = some (.tp (cs.drop 2)) := by
 have h2 : szT Tryz.prog 3 = some 1 := by kernel_rfl
 simp [vindexAddr, Tryz.underlying99, h2]
theorem zare {c0 c1 c2 : VV} {k : IntKind} : vindex Tryz.prog 99 (.agg [c0, c1, c2]) (.lit (.int k (2 : Int))) = some (c2) := by
 have h1 : aggT Tryz.prog 3 = some false := by kernel_rfl
 have h2 : szT Tryz.prog 3 = some 1 := by kernel_rfl
 simp [vindex, Tryz.underlying99, vpart, h1, h2]
theorem ld106 {c : VV} {cs : List VV} : vload Tryz.prog 106 (c :: cs) = some c := by
 have h1 : aggT Tryz.prog 106 = some false := by kernel_rfl
 simp [vload, vpart, h1]
theorem sz106 : szT Tryz.prog 106 = some 1 := by kernel_rfl
theorem vzl106 : vzl Tryz.prog 106 = some [.lit (.slice none 0 0)] := by kernel_rfl
theorem len106 {H : Nat → Option VObj} {cs : List VV} {n : Nat} {f : Bool} : vlen Tryz.prog H 106 (.sl cs n f) = some (.lit (.int .i64 n)) := by simp [vlen, Tryz.underlying106, sls]
theorem lenN106 {H : Nat → Option VObj} : vlen Tryz.prog H 106 (.lit (.slice none 0 0)) = some (.lit (.int .i64 0)) := by simp [vlen, Tryz.underlying106, sls]
theorem lenR106 {H : Nat → Option VObj} {β off n w c : Nat} : vlen Tryz.prog H 106 (.ref β off n w c) = (match H β with | some (.cells _ cs) => if off ≤ cs.length then some (.lit (.int .i64 n)) else none | _ => none) := lenR Tryz.underlying106
theorem et106 : elemT Tryz.prog 106 = some 29 := by simp [elemT, Tryz.underlying106]
theorem tk106 {xs : List (List Int)} : (cellsL (eSl eI) xs).take (xs.length * 1) = cellsL (eSl eI) xs := zhv (fun _ => rfl)
theorem zana {a0 : VV} (h : leafL [a0] = true) : vbuildSlice Tryz.prog 106 1 [(0, a0)] = some ([a0], 1) := by
 have h2 : szT Tryz.prog 29 = some 1 := by kernel_rfl
 have h3 : vzero Tryz.prog 29 = some #[.slice none 0 0] := by kernel_rfl
 simp only [zav, zbd, Bool.and_true, Bool.and_eq_true] at h
 simp [vbuildSlice, Tryz.underlying106, h2, h3, vfill, vcells1, h, overwrite, vzeros, List.range_succ]
theorem zakf {a0 a1 : VV} (h : leafL [a0, a1] = true) : vbuildSlice Tryz.prog 106 2 [(0, a0), (1, a1)] = some ([a0, a1], 1) := by
 have h2 : szT Tryz.prog 29 = some 1 := by kernel_rfl
 have h3 : vzero Tryz.prog 29 = some #[.slice none 0 0] := by kernel_rfl
 simp only [zav, zbd, Bool.and_true, Bool.and_eq_true] at h
 simp [vbuildSlice, Tryz.underlying106, h2, h3, vfill, vcells1, h, overwrite, vzeros, List.range_succ]
theorem zakp {a0 a1 a2 : VV} (h : leafL [a0, a1, a2] = true) : vbuildSlice Tryz.prog 106 3 [(0, a0), (1, a1), (2, a2)] = some ([a0, a1, a2], 1) := by
 have h2 : szT Tryz.prog 29 = some 1 := by kernel_rfl
 have h3 : vzero Tryz.prog 29 = some #[.slice none 0 0] := by kernel_rfl
 simp only [zav, zbd, Bool.and_true, Bool.and_eq_true] at h
 simp [vbuildSlice, Tryz.underlying106, h2, h3, vfill, vcells1, h, overwrite, vzeros, List.range_succ]
theorem ld121 {c : VV} {cs : List VV} : vload Tryz.prog 121 (c :: cs) = some c := by
 have h1 : aggT Tryz.prog 121 = some false := by kernel_rfl
 simp [vload, vpart, h1]
theorem sz121 : szT Tryz.prog 121 = some 1 := by kernel_rfl
theorem vzl121 : vzl Tryz.prog 121 = some [.lit (.slice none 0 0)] := by kernel_rfl
theorem len121 {H : Nat → Option VObj} {cs : List VV} {n : Nat} {f : Bool} : vlen Tryz.prog H 121 (.sl cs n f) = some (.lit (.int .i64 n)) := by simp [vlen, Tryz.underlying121, sls]
theorem lenN121 {H : Nat → Option VObj} : vlen Tryz.prog H 121 (.lit (.slice none 0 0)) = some (.lit (.int .i64 0)) := by simp [vlen, Tryz.underlying121, sls]
theorem lenR121 {H : Nat → Option VObj} {β off n w c : Nat} : vlen Tryz.prog H 121 (.ref β off n w c) = (match H β with | some (.cells _ cs) => if off ≤ cs.length then some (.lit (.int .i64 n)) else none | _ => none) := lenR Tryz.underlying121
theorem et121 : elemT Tryz.prog 121 = some 24 := by simp [elemT, Tryz.underlying121]
theorem tk121 {xs : List GSpan} : (cellsL cGSpan xs).take (xs.length * 2) = cellsL cGSpan xs := zhv (fun _ => rfl)
theorem zakr {c0 c1 : VV} (h : leafL [c0, c1] = true) : vbuildSlice Tryz.prog 121 1 [(0, .agg [c0, c1])] = some ([c0, c1], 2) := by
 have h2 : szT Tryz.prog 24 = some 2 := by kernel_rfl
 have h3 : vzero Tryz.prog 24 = some #[.int .i64 0, .int .i64 0] := by kernel_rfl
 simp only [zav, zbd, Bool.and_true, Bool.and_eq_true] at h
 simp [vbuildSlice, Tryz.underlying121, h2, h3, vfill, vcells, h, overwrite, vzeros]
theorem ix121 {H : Nat → Option VObj} {xs : List GSpan} {x : GSpan} {f : Bool} {k : IntKind} {i : Int} (h : getI xs i = some x) : vindexAddr Tryz.prog H 121 (.sl (cellsL cGSpan xs) xs.length f) (.lit (.int k i)) = some (.tp (cGSpan x ++ cellsL cGSpan (xs.drop (i.toNat + 1)))) :=
 ixG Tryz.underlying121 (by kernel_rfl : szT Tryz.prog 24 = some 2) (by decide) (fun _ => rfl) h
theorem ld138 {c0 c1 : VV} {cs : List VV} : vload Tryz.prog 138 (c0 :: c1 :: cs) = some (.agg [c0, c1]) := by
 have h1 : aggT Tryz.prog 138 = some true := by kernel_rfl
 have h2 : szT Tryz.prog 138 = some 2 := by kernel_rfl
 simp [vload, vpart, h1, h2]
theorem sz138 : szT Tryz.prog 138 = some 2 := by kernel_rfl
theorem vzl138 : vzl Tryz.prog 138 = some [.lit (.int .i64 0), .lit (.int .i64 0)] := by kernel_rfl
theorem zamr {H : Nat → Option VObj} {cs : List VV} : vfieldAddr Tryz.prog H 138 (.tp cs) 0 = some (.tp (cs.drop 0)) := by
 have h2 : szT Tryz.prog 3 = some 1 := by kernel_rfl
 simp [vfieldAddr, Tryz.underlying138, h2]
theorem zanm {H : Nat → Option VObj} {β o : Nat} : vfieldAddr Tryz.prog H 138 (.ptr β o) 0 = if (H β).isSome = true then some (.ptr β (o + 0)) else none := by
 have h2 : szT Tryz.prog 3 = some 1 := by kernel_rfl
 simp [vfieldAddr, Tryz.underlying138, h2]
theorem zajx {c0 c1 : VV} : vfield Tryz.prog 138 (.agg [c0, c1]) 0 = some (c0) := by
 have h1 : aggT Tryz.prog 3 = some false := by kernel_rfl
 have h2 : szT Tryz.prog 3 = some 1 := by kernel_rfl
 simp [vfield, Tryz.underlying138, vpart, h1, h2]
theorem zanh {H : Nat → Option VObj} {cs : List VV} : vfieldAddr Tryz.prog H 138 (.tp cs) 1 = some (.tp (cs.drop 1)) := by
 have h2 : szT Tryz.prog 3 = some 1 := by kernel_rfl
 simp [vfieldAddr, Tryz.underlying138, h2]
theorem zamh {H : Nat → Option VObj} {β o : Nat} : vfieldAddr Tryz.prog H 138 (.ptr β o) 1 = if (H β).isSome = true then some (.ptr β (o + 1)) else none := by
 have h2 : szT Tryz.prog 3 = some 1 := by kernel_rfl
 simp [vfieldAddr, Tryz.underlying138, h2]
theorem zaku {c0 c1 : VV} : vfield Tryz.prog 138 (.agg [c0, c1]) 1 = some (c1) := by
 have h1 : aggT Tryz.prog 3 = some false := by kernel_rfl
 have h2 : szT Tryz.prog 3 = some 1 := by kernel_rfl
 simp [vfield, Tryz.underlying138, vpart, h1, h2]
theorem sz1 : szT Tryz.prog 1 = some 1 := by kernel_rfl
theorem ld1 {c : VV} {cs : List VV} : vload Tryz.prog 1 (c :: cs) = some c := by
 have h1 : aggT Tryz.prog 1 = some false := by kernel_rfl
 simp [vload, vpart, h1]
theorem vzl1 : vzl Tryz.prog 1 = some [.lit .nilFunc] := by kernel_rfl
theorem sz103 : szT Tryz.prog 103 = some 1 := by kernel_rfl
theorem ld103 {c : VV} {cs : List VV} : vload Tryz.prog 103 (c :: cs) = some c := by
 have h1 : aggT Tryz.prog 103 = some false := by kernel_rfl
 simp [vload, vpart, h1]
theorem vzl103 : vzl Tryz.prog 103 = some [.lit .nilFunc] := by kernel_rfl
theorem sz104 : szT Tryz.prog 104 = some 1 := by kernel_rfl
theorem ld104 {c : VV} {cs : List VV} : vload Tryz.prog 104 (c :: cs) = some c := by
 have h1 : aggT Tryz.prog 104 = some false := by kernel_rfl
 simp [vload, vpart, h1]
theorem vzl104 : vzl Tryz.prog 104 = some [.lit .nilFunc] := by kernel_rfl
theorem sz111 : szT Tryz.prog 111 = some 1 := by kernel_rfl
theorem ld111 {c : VV} {cs : List VV} : vload Tryz.prog 111 (c :: cs) = some c := by
 have h1 : aggT Tryz.prog 111 = some false := by kernel_rfl
 simp [vload, vpart, h1]
theorem vzl111 : vzl Tryz.prog 111 = some [.lit .nilFunc] := by kernel_rfl
theorem sz126 : szT Tryz.prog 126 = some 1 := by kernel_rfl
theorem ld126 {c : VV} {cs : List VV} : vload Tryz.prog 126 (c :: cs) = some c := by
 have h1 : aggT Tryz.prog 126 = some false := by kernel_rfl
 simp [vload, vpart, h1]
theorem vzl126 : vzl Tryz.prog 126 = some [.lit .nilFunc] := by kernel_rfl
theorem sz140 : szT Tryz.prog 140 = some 1 := by kernel_rfl
theorem ld140 {c : VV} {cs : List VV} : vload Tryz.prog 140 (c :: cs) = some c := by
 have h1 : aggT Tryz.prog 140 = some false := by kernel_rfl
 simp [vload, vpart, h1]
theorem vzl140 : vzl Tryz.prog 140 = some [.lit .nilFunc] := by kernel_rfl
theorem sz144 : szT Tryz.prog 144 = some 1 := by kernel_rfl
theorem ld144 {c : VV} {cs : List VV} : vload Tryz.prog 144 (c :: cs) = some c := by
 have h1 : aggT Tryz.prog 144 = some false := by kernel_rfl
 simp [vload, vpart, h1]
theorem vzl144 : vzl Tryz.prog 144 = some [.lit .nilFunc] := by kernel_rfl
theorem sz146 : szT Tryz.prog 146 = some 1 := by kernel_rfl
theorem ld146 {c : VV} {cs : List VV} : vload Tryz.prog 146 (c :: cs) = some c := by
 have h1 : aggT Tryz.prog 146 = some false := by kernel_rfl
 simp [vload, vpart, h1]
theorem vzl146 : vzl Tryz.prog 146 = some [.lit .nilFunc] := by kernel_rfl
theorem sz147 : szT Tryz.prog 147 = some 1 := by kernel_rfl
theorem ld147 {c : VV} {cs : List VV} : vload Tryz.prog 147 (c :: cs) = some c := by
 have h1 : aggT Tryz.prog 147 = some false := by kernel_rfl
 simp [vload, vpart, h1]
theorem vzl147 : vzl Tryz.prog 147 = some [.lit .nilFunc] := by kernel_rfl
theorem sz162 : szT Tryz.prog 162 = some 1 := by kernel_rfl
theorem ld162 {c : VV} {cs : List VV} : vload Tryz.prog 162 (c :: cs) = some c := by
 have h1 : aggT Tryz.prog 162 = some false := by kernel_rfl
 simp [vload, vpart, h1]
theorem vzl162 : vzl Tryz.prog 162 = some [.lit .nilFunc] := by kernel_rfl
theorem sz163 : szT Tryz.prog 163 = some 1 := by kernel_rfl
theorem ld163 {c : VV} {cs : List VV} : vload Tryz.prog 163 (c :: cs) = some c := by
 have h1 : aggT Tryz.prog 163 = some false := by kernel_rfl
 simp [vload, vpart, h1]
theorem vzl163 : vzl Tryz.prog 163 = some [.lit .nilFunc] := by kernel_rfl
theorem sz184 : szT Tryz.prog 184 = some 1 := by kernel_rfl
theorem ld184 {c : VV} {cs : List VV} : vload Tryz.prog 184 (c :: cs) = some c := by
 have h1 : aggT Tryz.prog 184 = some false := by kernel_rfl
 simp [vload, vpart, h1]
theorem vzl184 : vzl Tryz.prog 184 = some [.lit .nilFunc] := by kernel_rfl
theorem sz127 : szT Tryz.prog 127 = some 2 := by kernel_rfl
theorem vzl127 : vzl Tryz.prog 127 = some [.lit .nilFunc, .lit .nilFunc] := by kernel_rfl
theorem ld127 {c0 c1 : VV} {cs : List VV} : vload Tryz.prog 127 (c0 :: c1 :: cs) = some (.agg [c0, c1]) := by
 have h1 : aggT Tryz.prog 127 = some true := by kernel_rfl
 have h2 : szT Tryz.prog 127 = some 2 := by kernel_rfl
 simp [vload, vpart, h1, h2]
theorem zajz {c0 c1 : VV} {k : IntKind} : vindex Tryz.prog 127 (.agg [c0, c1]) (.lit (.int k 0)) = some c0 := by
 have h1 : aggT Tryz.prog 126 = some false := by kernel_rfl
 have h2 : szT Tryz.prog 126 = some 1 := by kernel_rfl
 simp [vindex, Tryz.underlying127, vpart, h1, h2]
theorem zajv {H : Nat → Option VObj} {β o : Nat} {k : IntKind} : vindexAddr Tryz.prog H 127 (.ptr β o) (.lit (.int k 0)) = if (H β).isSome = true then some (.ptr β (o + 0)) else none := by
 have h2 : szT Tryz.prog 126 = some 1 := by kernel_rfl
 simp [vindexAddr, Tryz.underlying127, h2]
theorem zaml {c0 c1 : VV} {k : IntKind} : vindex Tryz.prog 127 (.agg [c0, c1]) (.lit (.int k 1)) = some c1 := by
 have h1 : aggT Tryz.prog 126 = some false := by kernel_rfl
 have h2 : szT Tryz.prog 126 = some 1 := by kernel_rfl
 simp [vindex, Tryz.underlying127, vpart, h1, h2]
theorem zanq {H : Nat → Option VObj} {β o : Nat} {k : IntKind} : vindexAddr Tryz.prog H 127 (.ptr β o) (.lit (.int k 1)) = if (H β).isSome = true then some (.ptr β (o + 1)) else none := by
 have h2 : szT Tryz.prog 126 = some 1 := by kernel_rfl
 simp [vindexAddr, Tryz.underlying127, h2]
theorem vb22 : vbuild Tryz.prog 22 [] = some (.agg [.lit (.int .i64 0), .lit (.int .i64 0), .lit (.int .i64 0)]) := by
 rw [zdt vzl22 (by kernel_rfl)]
 rfl
theorem zabc {x0_0 x1_0 x2_0 : VV} (h : leafL [x0_0, x1_0, x2_0] = true) : vbuild Tryz.prog 22 [(0, x0_0), (1, x1_0), (2, x2_0)] = some (.agg [x0_0, x1_0, x2_0]) := by
 have p0 : placeT Tryz.prog 22 0 = some (0, 1) := by kernel_rfl
 have p1 : placeT Tryz.prog 22 1 = some (1, 1) := by kernel_rfl
 have p2 : placeT Tryz.prog 22 2 = some (2, 1) := by kernel_rfl
 simp only [zav, zbd, Bool.and_true, Bool.and_eq_true] at h
 rw [zdt vzl22 (by kernel_rfl)]
 simp [vfill, p0, p1, p2, vcells1, h, overwrite]
theorem vb24 : vbuild Tryz.prog 24 [] = some (.agg [.lit (.int .i64 0), .lit (.int .i64 0)]) := by
 rw [zdt vzl24 (by kernel_rfl)]
 rfl
theorem zagr {x0_0 x1_0 : VV} (h : leafL [x0_0, x1_0] = true) : vbuild Tryz.prog 24 [(0, x0_0), (1, x1_0)] = some (.agg [x0_0, x1_0]) := by
 have p0 : placeT Tryz.prog 24 0 = some (0, 1) := by kernel_rfl
 have p1 : placeT Tryz.prog 24 1 = some (1, 1) := by kernel_rfl
 simp only [zav, zbd, Bool.and_true, Bool.and_eq_true] at h
 rw [zdt vzl24 (by kernel_rfl)]
 simp [vfill, p0, p1, vcells1, h, overwrite]
theorem vb25 : vbuild Tryz.prog 25 [] = some (.agg [.lit (.int .i64 0), .lit (.int .i64 0), .lit (.int .i64 0), .lit (.int .i64 0), .lit (.int .i64 0), .lit (.int .i64 0)]) := by
 rw [zdt vzl25 (by kernel_rfl)]
 rfl
theorem zacb {x0_0 x0_1 x1_0 x1_1 x2_0 x2_1 : VV} (h : leafL [x0_0, x0_1, x1_0, x1_1, x2_0, x2_1] = true) : vbuild Tryz.prog 25 [(0, .agg [x0_0, x0_1]), (1, .agg [x1_0, x1_1]), (2, .agg [x2_0, x2_1])] = some (.agg [x0_0, x0_1, x1_0, x1_1, x2_0, x2_1]) := by
 have p0 : placeT Tryz.prog 25 0 = some (0, 2) := by kernel_rfl
 have p1 : placeT Tryz.prog 25 1 = some (2, 2) := by kernel_rfl
 have p2 : placeT Tryz.prog 25 2 = some (4, 2) := by kernel_rfl
 simp only [zav, zbd, Bool.and_true, Bool.and_eq_true] at h
 have q0 : vcells (.agg [x0_0, x0_1]) = some [x0_0, x0_1] := by rw [zfu]; simp [zav, zbd, h]
 have q1 : vcells (.agg [x1_0, x1_1]) = some [x1_0, x1_1] := by rw [zfu]; simp [zav, zbd, h]
 have q2 : vcells (.agg [x2_0, x2_1]) = some [x2_0, x2_1] := by rw [zfu]; simp [zav, zbd, h]
 rw [zdt vzl25 (by kernel_rfl)]
 simp [vfill, p0, p1, p2, vcells1, h, overwrite, q0, q1, q2]
theorem zzb {x0_0 x1_0 x2_0 x2_1 x2_2 : VV} (h : leafL [x0_0, x1_0, x2_0, x2_1, x2_2] = true) : vbuild Tryz.prog 42 [(0, x0_0), (1, x1_0), (2, .agg [x2_0, x2_1, x2_2])] = some (.agg [x0_0, x1_0, x2_0, x2_1, x2_2]) := by
 have p0 : placeT Tryz.prog 42 0 = some (0, 1) := by kernel_rfl
 have p1 : placeT Tryz.prog 42 1 = some (1, 1) := by kernel_rfl
 have p2 : placeT Tryz.prog 42 2 = some (2, 3) := by kernel_rfl
 simp only [zav, zbd, Bool.and_true, Bool.and_eq_true] at h
 have q2 : vcells (.agg [x2_0, x2_1, x2_2]) = some [x2_0, x2_1, x2_2] := by rw [zfu]; simp [zav, zbd, h]
 rw [zdt vzl42 (by kernel_rfl)]
 simp [vfill, p0, p1, p2, vcells1, h, overwrite, q2]
theorem zarx {x1_0 : VV} (h : leafL [x1_0] = true) : vbuild Tryz.prog 42 [(1, x1_0)] = some (.agg [.lit (.slice none 0 0), x1_0, .lit (.int .i64 0), .lit (.int .i64 0), .lit (.int .i64 0)]) := by
 have p1 : placeT Tryz.prog 42 1 = some (1, 1) := by kernel_rfl
 simp only [zav, zbd, Bool.and_true, Bool.and_eq_true] at h
 rw [zdt vzl42 (by kernel_rfl)]
 simp [vfill, p1, vcells1, h, overwrite]
theorem zahd {x0_0 x0_1 x0_2 x0_3 x0_4 x0_5 x0_6 x0_7 x0_8 x0_9 x0_10 x0_11 x0_12 x1_0 : VV} (h : leafL [x0_0, x0_1, x0_2, x0_3, x0_4, x0_5, x0_6, x0_7, x0_8, x0_9, x0_10, x0_11, x0_12, x1_0] = true) : vbuild Tryz.prog 89 [(0, .agg [x0_0, x0_1, x0_2, x0_3, x0_4, x0_5, x0_6, x0_7, x0_8, x0_9, x0_10, x0_11, x0_12]), (1, x1_0)] = some (.agg [x0_0, x0_1, x0_2, x0_3, x0_4, x0_5, x0_6, x0_7, x0_8, x0_9, x0_10, x0_11, x0_12, x1_0]) := by
 have p0 : placeT Tryz.prog 89 0 = some (0, 13) := by kernel_rfl
 have p1 : placeT Tryz.prog 89 1 = some (13, 1) := by kernel_rfl
 simp only [zav, zbd, Bool.and_true, Bool.and_eq_true] at h
 have q0 : vcells (.agg [x0_0, x0_1, x0_2, x0_3, x0_4, x0_5, x0_6, x0_7, x0_8, x0_9, x0_10, x0_11, x0_12]) = some [x0_0, x0_1, x0_2, x0_3, x0_4, x0_5, x0_6, x0_7, x0_8, x0_9, x0_10, x0_11, x0_12] := by rw [zfu]; simp [zav, zbd, h]
 rw [zdt vzl89 (by kernel_rfl)]
 simp [vfill, p0, p1, vcells1, h, overwrite, q0]
theorem zapx {x0_0 x0_1 x0_2 x0_3 x0_4 x0_5 : VV} (h : leafL [x0_0, x0_1, x0_2, x0_3, x0_4, x0_5] = true) : vbuild Tryz.prog 94 [(0, .agg [x0_0, x0_1, x0_2, x0_3, x0_4, x0_5])] = some (.agg [x0_0, x0_1, x0_2, x0_3, x0_4, x0_5]) := by
 have p0 : placeT Tryz.prog 94 0 = some (0, 6) := by kernel_rfl
 simp only [zav, zbd, Bool.and_true, Bool.and_eq_true] at h
 have q0 : vcells (.agg [x0_0, x0_1, x0_2, x0_3, x0_4, x0_5]) = some [x0_0, x0_1, x0_2, x0_3, x0_4, x0_5] := by rw [zfu]; simp [zav, zbd, h]
 rw [zdt vzl94 (by kernel_rfl)]
 simp [vfill, p0, vcells1, h, overwrite, q0]
theorem vb99 : vbuild Tryz.prog 99 [] = some (.agg [.lit (.int .i64 0), .lit (.int .i64 0), .lit (.int .i64 0)]) := by
 rw [zdt vzl99 (by kernel_rfl)]
 rfl
theorem zyl {x0_0 x1_0 x2_0 : VV} (h : leafL [x0_0, x1_0, x2_0] = true) : vbuild Tryz.prog 99 [(0, x0_0), (1, x1_0), (2, x2_0)] = some (.agg [x0_0, x1_0, x2_0]) := by
 have p0 : placeT Tryz.prog 99 0 = some (0, 1) := by kernel_rfl
 have p1 : placeT Tryz.prog 99 1 = some (1, 1) := by kernel_rfl
 have p2 : placeT Tryz.prog 99 2 = some (2, 1) := by kernel_rfl
 simp only [zav, zbd, Bool.and_true, Bool.and_eq_true] at h
 rw [zdt vzl99 (by kernel_rfl)]
 simp [vfill, p0, p1, p2, vcells1, h, overwrite]
theorem zadx {x0_0 x1_0 : VV} (h : leafL [x0_0, x1_0] = true) : vbuild Tryz.prog 127 [(0, x0_0), (1, x1_0)] = some (.agg [x0_0, x1_0]) := by
 have p0 : placeT Tryz.prog 127 0 = some (0, 1) := by kernel_rfl
 have p1 : placeT Tryz.prog 127 1 = some (1, 1) := by kernel_rfl
 simp only [zav, zbd, Bool.and_true, Bool.and_eq_true] at h
 rw [zdt vzl127 (by kernel_rfl)]
 simp [vfill, p0, p1, vcells1, h, overwrite]
theorem vb132 : vbuild Tryz.prog 132 [] = some (.agg []) := by kernel_rfl
theorem sz132 : szT Tryz.prog 132 = some 0 := by kernel_rfl
theorem vzl132 : vzl Tryz.prog 132 = some [] := by kernel_rfl
theorem ld132 {cs : List VV} : vload Tryz.prog 132 cs = some (.agg []) := by
 have h1 : aggT Tryz.prog 132 = some true := by kernel_rfl
 have h2 : szT Tryz.prog 132 = some 0 := by kernel_rfl
 simp [vload, vpart, h1, h2]
theorem zadl {x0_0 x1_0 : VV} (h : leafL [x0_0, x1_0] = true) : vbuild Tryz.prog 138 [(0, x0_0), (1, x1_0)] = some (.agg [x0_0, x1_0]) := by
 have p0 : placeT Tryz.prog 138 0 = some (0, 1) := by kernel_rfl
 have p1 : placeT Tryz.prog 138 1 = some (1, 1) := by kernel_rfl
 simp only [zav, zbd, Bool.and_true, Bool.and_eq_true] at h
 rw [zdt vzl138 (by kernel_rfl)]
 simp [vfill, p0, p1, vcells1, h, overwrite]
theorem mi132 {x : VV} : mkIfcV Tryz.prog 132 x = some (.ifc 132 x) := by simp [mkIfcV, Tryz.underlying132]
theorem tz132 : ((Tryz.prog.info? 132).bind (·.zero)).map (fun z => VV.tup [ofVal2 z, .lit (.bool false)]) = some (.tup [.agg [], .lit (.bool false)]) := by kernel_rfl
theorem tn132 : vtypeAssert Tryz.prog (.lit .nilIface) 132 true = some (.tup [.agg [], .lit (.bool false)]) := by
 simp only [vtypeAssert, Tryz.underlying132, if_true]
 exact tz132
theorem tt132 {x : VV} : vtypeAssert Tryz.prog (.ifc 132 x) 132 true = some (.tup [x, .lit (.bool true)]) := by
 simp [vtypeAssert, Tryz.underlying132]
theorem be4 {H : Nat → Option VObj} {x y : Operand} {a b : Bool} : binV Tryz.prog H .eql 4 x y (.lit (.bool a)) (.lit (.bool b)) = some (.lit (.bool (a == b))) := zamp Tryz.underlying4
theorem bn4 {H : Nat → Option VObj} {x y : Operand} {a b : Bool} : binV Tryz.prog H .neq 4 x y (.lit (.bool a)) (.lit (.bool b)) = some (.lit (.bool (a != b))) := zalj Tryz.underlying4
theorem sq22 {H : Nat → Option VObj} {x y : Operand} {a0 b0 : Int} {a1 b1 : Int} {a2 b2 : Int} : binV Tryz.prog H .eql 22 x y (.agg [.lit (.int .i64 a0), .lit (.int .i64 a1), .lit (.int .i64 a2)]) (.agg [.lit (.int .i64 b0), .lit (.int .i64 b1), .lit (.int .i64 b2)]) = some (.lit (.bool (a0 == b0 && (a1 == b1 && (a2 == b2))))) ∧ binV Tryz.prog H .neq 22 x y (.agg [.lit (.int .i64 a0), .lit (.int .i64 a1), .lit (.int .i64 a2)]) (.agg [.lit (.int .i64 b0), .lit (.int .i64 b1), .lit (.int .i64 b2)]) = some (.lit (.bool (!(a0 == b0 && (a1 == b1 && (a2 == b2)))))) := by
 have p3 : aggT Tryz.prog 3 = some false := by kernel_rfl
 have z3 : szT Tryz.prog 3 = some 1 := by kernel_rfl
 have p22 : aggT Tryz.prog 22 = some true := by kernel_rfl
 have z22 : szT Tryz.prog 22 = some 3 := by kernel_rfl
 refine binA (xs := [.int .i64 a0, .int .i64 a1, .int .i64 a2]) (ys := [.int .i64 b0, .int .i64 b1, .int .i64 b2]) (by simp [VV.val?, valL?]) (by simp [VV.val?, valL?]) Tryz.underlying22 (by kernel_rfl) ?_
 simp [eqD, eqAs, eqFs, partO, ok1, eq1, List.range', Tryz.underlying3, p3, z3, Tryz.underlying22, p22, z22, Bool.and_assoc]
theorem se22 {H : Nat → Option VObj} {x y : Operand} {a0 b0 : Int} {a1 b1 : Int} {a2 b2 : Int} : binV Tryz.prog H .eql 22 x y (.agg [.lit (.int .i64 a0), .lit (.int .i64 a1), .lit (.int .i64 a2)]) (.agg [.lit (.int .i64 b0), .lit (.int .i64 b1), .lit (.int .i64 b2)]) = some (.lit (.bool (a0 == b0 && (a1 == b1 && (a2 == b2))))) := sq22.1
theorem sn22 {H : Nat → Option VObj} {x y : Operand} {a0 b0 : Int} {a1 b1 : Int} {a2 b2 : Int} : binV Tryz.prog H .neq 22 x y (.agg [.lit (.int .i64 a0), .lit (.int .i64 a1), .lit (.int .i64 a2)]) (.agg [.lit (.int .i64 b0), .lit (.int .i64 b1), .lit (.int .i64 b2)]) = some (.lit (.bool (!(a0 == b0 && (a1 == b1 && (a2 == b2)))))) := sq22.2
theorem sq24 {H : Nat → Option VObj} {x y : Operand} {a0 b0 : Int} {a1 b1 : Int} : binV Tryz.prog H .eql 24 x y (.agg [.lit (.int .i64 a0), .lit (.int .i64 a1)]) (.agg [.lit (.int .i64 b0), .lit (.int .i64 b1)]) = some (.lit (.bool (a0 == b0 && (a1 == b1)))) ∧ binV Tryz.prog H .neq 24 x y (.agg [.lit (.int .i64 a0), .lit (.int .i64 a1)]) (.agg [.lit (.int .i64 b0), .lit (.int .i64 b1)]) = some (.lit (.bool (!(a0 == b0 && (a1 == b1))))) := by
 refine binS (xs := [.int .i64 a0, .int .i64 a1]) (ys := [.int .i64 b0, .int .i64 b1]) (by simp [VV.val?, valL?]) (by simp [VV.val?, valL?]) Tryz.underlying24 (by kernel_rfl) (by kernel_rfl) ?_
 simp [eqF, ok1, eq1, Tryz.underlying3]
theorem se24 {H : Nat → Option VObj} {x y : Operand} {a0 b0 : Int} {a1 b1 : Int} : binV Tryz.prog H .eql 24 x y (.agg [.lit (.int .i64 a0), .lit (.int .i64 a1)]) (.agg [.lit (.int .i64 b0), .lit (.int .i64 b1)]) = some (.lit (.bool (a0 == b0 && (a1 == b1)))) := sq24.1
theorem sn24 {H : Nat → Option VObj} {x y : Operand} {a0 b0 : Int} {a1 b1 : Int} : binV Tryz.prog H .neq 24 x y (.agg [.lit (.int .i64 a0), .lit (.int .i64 a1)]) (.agg [.lit (.int .i64 b0), .lit (.int .i64 b1)]) = some (.lit (.bool (!(a0 == b0 && (a1 == b1))))) := sq24.2
theorem sq25 {H : Nat → Option VObj} {x y : Operand} {a0 b0 : Int} {a1 b1 : Int} {a2 b2 : Int} {a3 b3 : Int} {a4 b4 : Int} {a5 b5 : Int} : binV Tryz.prog H .eql 25 x y (.agg [.lit (.int .i64 a0), .lit (.int .i64 a1), .lit (.int .i64 a2), .lit (.int .i64 a3), .lit (.int .i64 a4), .lit (.int .i64 a5)]) (.agg [.lit (.int .i64 b0), .lit (.int .i64 b1), .lit (.int .i64 b2), .lit (.int .i64 b3), .lit (.int .i64 b4), .lit (.int .i64 b5)]) = some (.lit (.bool (a0 == b0 && (a1 == b1 && (a2 == b2 && (a3 == b3 && (a4 == b4 && (a5 == b5)))))))) ∧ binV Tryz.prog H .neq 25 x y (.agg [.lit (.int .i64 a0), .lit (.int .i64 a1), .lit (.int .i64 a2), .lit (.int .i64 a3), .lit (.int .i64 a4), .lit (.int .i64 a5)]) (.agg [.lit (.int .i64 b0), .lit (.int .i64 b1), .lit (.int .i64 b2), .lit (.int .i64 b3), .lit (.int .i64 b4), .lit (.int .i64 b5)]) = some (.lit (.bool (!(a0 == b0 && (a1 == b1 && (a2 == b2 && (a3 == b3 && (a4 == b4 && (a5 == b5))))))))) := by
 have p3 : aggT Tryz.prog 3 = some false := by kernel_rfl
 have z3 : szT Tryz.prog 3 = some 1 := by kernel_rfl
 have p24 : aggT Tryz.prog 24 = some true := by kernel_rfl
 have z24 : szT Tryz.prog 24 = some 2 := by kernel_rfl
 have p25 : aggT Tryz.prog 25 = some true := by kernel_rfl
 have z25 : szT Tryz.prog 25 = some 6 := by kernel_rfl
 have o24 : Tryz.prog.stoodInHeld 24 = false := by kernel_rfl
 refine binA (xs := [.int .i64 a0, .int .i64 a1, .int .i64 a2, .int .i64 a3, .int .i64 a4, .int .i64 a5]) (ys := [.int .i64 b0, .int .i64 b1, .int .i64 b2, .int .i64 b3, .int .i64 b4, .int .i64 b5]) (by simp [VV.val?, valL?]) (by simp [VV.val?, valL?]) Tryz.underlying25 (by kernel_rfl) ?_
 simp [eqD, eqAs, eqFs, partO, ok1, eq1, List.range', Tryz.underlying3, p3, z3, Tryz.underlying24, p24, z24, Tryz.underlying25, p25, z25, o24, Bool.and_assoc]
theorem se25 {H : Nat → Option VObj} {x y : Operand} {a0 b0 : Int} {a1 b1 : Int} {a2 b2 : Int} {a3 b3 : Int} {a4 b4 : Int} {a5 b5 : Int} : binV Tryz.prog H .eql 25 x y (.agg [.lit (.int .i64 a0), .lit (.int .i64 a1), .lit (.int .i64 a2), .lit (.int .i64 a3), .lit (.int .i64 a4), .lit (.int .i64 a5)]) (.agg [.lit (.int .i64 b0), .lit (.int .i64 b1), .lit (.int .i64 b2), .lit (.int .i64 b3), .lit (.int .i64 b4), .lit (.int .i64 b5)]) = some (.lit (.bool (a0 == b0 && (a1 == b1 && (a2 == b2 && (a3 == b3 && (a4 == b4 && (a5 == b5)))))))) := sq25.1
theorem sn25 {H : Nat → Option VObj} {x y : Operand} {a0 b0 : Int} {a1 b1 : Int} {a2 b2 : Int} {a3 b3 : Int} {a4 b4 : Int} {a5 b5 : Int} : binV Tryz.prog H .neq 25 x y (.agg [.lit (.int .i64 a0), .lit (.int .i64 a1), .lit (.int .i64 a2), .lit (.int .i64 a3), .lit (.int .i64 a4), .lit (.int .i64 a5)]) (.agg [.lit (.int .i64 b0), .lit (.int .i64 b1), .lit (.int .i64 b2), .lit (.int .i64 b3), .lit (.int .i64 b4), .lit (.int .i64 b5)]) = some (.lit (.bool (!(a0 == b0 && (a1 == b1 && (a2 == b2 && (a3 == b3 && (a4 == b4 && (a5 == b5))))))))) := sq25.2
theorem zakc : (VV.lit Value.nilFunc).leaf = true := rfl
theorem zala : (VV.lit Value.nilIface).leaf = true := rfl
def tyf := (And.intro (And.intro (And.intro (And.intro (And.intro (And.intro (And.intro @zgp (And.intro @zgh @zen)) (And.intro (And.intro @zfz @zey) (And.intro @zfm @zfo))) (And.intro (And.intro (And.intro @zff @ld2) (And.intro @sz2 @vzl2)) (And.intro (And.intro @ld3 @sz3) (And.intro @vzl3 @ld4)))) (And.intro (And.intro (And.intro (And.intro @sz4 @vzl4) (And.intro @ld9 @sz9)) (And.intro (And.intro @vzl9 @ld22) (And.intro @sz22 @vzl22))) (And.intro (And.intro (And.intro @zarp @zaqf) (And.intro @zapl @zarn)) (And.intro (And.intro @zarl @zapp) (And.intro @zaos @zaoz))))) (And.intro (And.intro (And.intro (And.intro (And.intro @zapw @ld24) (And.intro @sz24 @vzl24)) (And.intro (And.intro @zapj @zarm) (And.intro @zaph @zapf))) (And.intro (And.intro (And.intro @zaqn @zaok) (And.intro @ld25 @sz25)) (And.intro (And.intro @vzl25 @zaqr) (And.intro @zapv @zaru)))) (And.intro (And.intro (And.intro (And.intro @zaqz @zaqw) (And.intro @zara @zapt)) (And.intro (And.intro @zanx @zasa) (And.intro @ld26 @sz26))) (And.intro (And.intro (And.intro @vzl26 @len26) (And.intro @lenN26 @lenR26)) (And.intro (And.intro @et26 @tk26) (And.intro @zapk @ld28)))))) (And.intro (And.intro (And.intro (And.intro (And.intro (And.intro @sz28 @vzl28) (And.intro @zaqx @zaro)) (And.intro (And.intro @zarw @zaqp) (And.intro @zaql @zaox))) (And.intro (And.intro (And.intro @zaoi @zarc) (And.intro @zaqa @zaqk)) (And.intro (And.intro @zark @zaog) (And.intro @zaow @zanz)))) (And.intro (And.intro (And.intro (And.intro @zary @ld29) (And.intro @sz29 @vzl29)) (And.intro (And.intro @len29 @lenN29) (And.intro @lenR29 @et29))) (And.intro (And.intro (And.intro @tk29 @zapi) (And.intro @zard @zaqc)) (And.intro (And.intro @ld32 @sz32) (And.intro @vzl32 @ld40))))) (And.intro (And.intro (And.intro (And.intro (And.intro @sz40 @vzl40) (And.intro @len40 @lenN40)) (And.intro (And.intro @lenR40 @et40) (And.intro @tk40 @zaqq))) (And.intro (And.intro (And.intro @ld42 @sz42) (And.intro @vzl42 @zapn)) (And.intro (And.intro @zaoc @zapz) (And.intro @zaqs @zaoa)))) (And.intro (And.intro (And.intro (And.intro @zaou @zapc) (And.intro @zari @zaoe)) (And.intro (And.intro @ld47 @sz47) (And.intro @vzl47 @ld89))) (And.intro (And.intro (And.intro @sz89 @vzl89) (And.intro @zaol @zarg)) (And.intro (And.intro @zany @zarq) (And.intro @zaps @zaqh))))))) (And.intro (And.intro (And.intro (And.intro (And.intro (And.intro @ld94 (And.intro @sz94 @vzl94)) (And.intro (And.intro @zapq @zapy) (And.intro @zaoq @ld99))) (And.intro (And.intro (And.intro @sz99 @vzl99) (And.intro @zaop @zarh)) (And.intro (And.intro @zarj @zaqv) (And.intro @zarz @zaot)))) (And.intro (And.intro (And.intro (And.intro @zapm @zaqo) (And.intro @zare @ld106)) (And.intro (And.intro @sz106 @vzl106) (And.intro @len106 @lenN106))) (And.intro (And.intro (And.intro @lenR106 @et106) (And.intro @tk106 @zana)) (And.intro (And.intro @zakf @zakp) (And.intro @ld121 @sz121))))) (And.intro (And.intro (And.intro (And.intro (And.intro @vzl121 @len121) (And.intro @lenN121 @lenR121)) (And.intro (And.intro @et121 @tk121) (And.intro @zakr @ld138))) (And.intro (And.intro (And.intro @sz138 @vzl138) (And.intro @zamr @zanm)) (And.intro (And.intro @zajx @zanh) (And.intro @zamh @zaku)))) (And.intro (And.intro (And.intro (And.intro @sz1 @ld1) (And.intro @vzl1 @sz103)) (And.intro (And.intro @ld103 @vzl103) (And.intro @sz104 @ld104))) (And.intro (And.intro (And.intro @vzl104 @sz111) (And.intro @ld111 @vzl111)) (And.intro (And.intro @sz126 @ld126) (And.intro @vzl126 @sz140)))))) (And.intro (And.intro (And.intro (And.intro (And.intro (And.intro @ld140 @vzl140) (And.intro @sz144 @ld144)) (And.intro (And.intro @vzl144 @sz146) (And.intro @ld146 @vzl146))) (And.intro (And.intro (And.intro @sz147 @ld147) (And.intro @vzl147 @sz162)) (And.intro (And.intro @ld162 @vzl162) (And.intro @sz163 @ld163)))) (And.intro (And.intro (And.intro (And.intro @vzl163 @sz184) (And.intro @ld184 @vzl184)) (And.intro (And.intro @sz127 @vzl127) (And.intro @ld127 @zajz))) (And.intro (And.intro (And.intro @zajv @zaml) (And.intro @zanq @vb22)) (And.intro (And.intro @zabc @vb24) (And.intro @zagr @vb25))))) (And.intro (And.intro (And.intro (And.intro (And.intro @zacb @zzb) (And.intro @zarx @zahd)) (And.intro (And.intro @zapx @vb99) (And.intro @zyl @zadx))) (And.intro (And.intro (And.intro @vb132 @sz132) (And.intro @vzl132 @ld132)) (And.intro (And.intro @zadl @mi132) (And.intro @tn132 @tt132)))) (And.intro (And.intro (And.intro (And.intro @be4 @bn4) (And.intro @se22 @sn22)) (And.intro (And.intro @se24 @sn24) (And.intro @se25 @sn25))) (And.intro (And.intro (And.intro @zakc @zala) (And.intro @zxk @eI_eq)) (And.intro (And.intro @zamn @eB_eq) (And.intro @eS_eq @zajs))))))))
def tynrm := (And.intro (And.intro (And.intro (And.intro (And.intro @zad.norm @zad.normL) (And.intro @zad.shown @zad.showL)) (And.intro (And.intro @zal.norm @zal.normL) (And.intro @zal.shown (And.intro @zal.showL @zac.norm)))) (And.intro (And.intro (And.intro @zac.normL @zac.shown) (And.intro @zac.showL @zai.norm)) (And.intro (And.intro @zai.normL @zai.shown) (And.intro @zai.showL (And.intro @zag.norm @zag.normL))))) (And.intro (And.intro (And.intro (And.intro @zag.shown @zag.showL) (And.intro @zao.norm @zao.normL)) (And.intro (And.intro @zao.shown @zao.showL) (And.intro @zau.norm (And.intro @zau.normL @zau.shown)))) (And.intro (And.intro (And.intro @zau.showL @zdo.norm) (And.intro @zdo.normL @zdo.shown)) (And.intro (And.intro @zdo.showL @zks.norm) (And.intro @zks.normL (And.intro @zks.shown @zks.showL))))))
def tytre := (And.intro (And.intro (And.intro (And.intro @zad.tree @zad.treeL) (And.intro @zal.tree @zal.treeL)) (And.intro (And.intro @zac.tree @zac.treeL) (And.intro @zai.tree (And.intro @zai.treeL @zag.tree)))) (And.intro (And.intro (And.intro @zag.treeL @zao.tree) (And.intro @zao.treeL @zau.tree)) (And.intro (And.intro @zau.treeL @zdo.tree) (And.intro @zdo.treeL (And.intro @zks.tree @zks.treeL)))))
end Go.V
namespace Go.V
open Go Go.Proofs
theorem ktA {P : Program} {G : Glob} {d : Option Tmp} {γ : Nat} {tm : Nat → VV} {H : Nat → Option VObj} {nx : Nat} {df : List VDef} {K : St → Prop} {Qp : VV → St → Prop} {f : FuncId} {args args0 : List VV} {x : VV} (hp : VPure P G f args0 (.tree x)) (h : fin d γ tm H nx df K x .none) (hn : normL args = args0 := by first | (simp only [nrm, tynrm] <;> rfl) | rfl) (ht : treeL args = true := by simp only [tre, tytre, Bool.and_self]) : callK P G f args ⟨tm, H, nx, df⟩ d γ K Qp := ktree hn ht hp h
theorem dktA {P : Program} {G : Glob} {d : Option Tmp} {γ : Nat} {tm : Nat → VV} {H : Nat → Option VObj} {nx : Nat} {df : List VDef} {K : List Nat → List Nat → St → Prop} {f : FuncId} {args args0 : List VV} {x : VV} (hp : VPure P G f args0 (.tree x)) (h : fin d γ tm H nx df (K [] []) x .none) (hn : normL args = args0 := by first | (simp only [nrm, tynrm] <;> rfl) | rfl) (ht : treeL args = true := by simp only [tre, tytre, Bool.and_self]) : dcallK P G f args tm H nx df d γ K := dktree hn ht hp h
theorem optI {α β : Type} {K : Option β → Prop} {X : Option α} {F : α → Option β} (h : K (Option.bind X F)) (kN : ¬ K none) : ∃ r, X = some r ∧ K (F r) := by
  cases X with
  | none => exact absurd h kN
  | some r => exact ⟨r, rfl, h⟩
end Go.V
end
