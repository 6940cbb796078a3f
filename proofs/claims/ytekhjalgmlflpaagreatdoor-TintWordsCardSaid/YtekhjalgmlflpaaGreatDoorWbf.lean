/- Part of a proof. -/
import Derived.Test.YtekhjalgmlflpaaGreatDoorWbe
import Derived.Test.YtekhjalgmlflpaaGreatDoorWaw
import Derived.Test.YtekhjalgmlflpaaGreatDoorProg
set_option linter.all false
set_option maxRecDepth 4000
set_option maxHeartbeats 40000000
section
namespace Go.V
open Go Go.Proofs
theorem mixed : Tryz.prog.follows .mixedOrders = true := by kernel_rfl
structure Gi where
 a0 : Int
 a1 : Int
 a2 : Int
 deriving Inhabited, DecidableEq
def cGi (x : Gi) : List VV := [.lit (.int .i64 x.a0), .lit (.int .i64 x.a1), .lit (.int .i64 x.a2)]
theorem zii {x : Gi} : cGi x = [.lit (.int .i64 x.a0), .lit (.int .i64 x.a1), .lit (.int .i64 x.a2)] := rfl
theorem zal : EncOk cGi := EncOk.of (fun x => by simp only [zii, tre, Bool.and_self]) (fun x => by simp only [zii, nrm]) (fun x H d => by simp only [zii, nrm, List.map_cons, List.map_nil])
structure GSpan where
 Low : Int
 High : Int
 deriving Inhabited, DecidableEq
def cGSpan (x : GSpan) : List VV := [.lit (.int .i64 x.Low), .lit (.int .i64 x.High)]
theorem zho {x : GSpan} : cGSpan x = [.lit (.int .i64 x.Low), .lit (.int .i64 x.High)] := rfl
theorem zay : EncOk cGSpan := EncOk.of (fun x => by simp only [zho, tre, zal.tree, zal.treeL, Bool.and_self]) (fun x => by simp only [zho, nrm, zal.norm, zal.normL, zal.shown, zal.showL]) (fun x H d => by simp only [zho, nrm, List.map_cons, List.map_nil])
structure Ga where
 a0 : GSpan
 a1 : GSpan
 a2 : GSpan
 deriving Inhabited, DecidableEq
def cGa (x : Ga) : List VV := [.lit (.int .i64 x.a0.Low), .lit (.int .i64 x.a0.High), .lit (.int .i64 x.a1.Low), .lit (.int .i64 x.a1.High), .lit (.int .i64 x.a2.Low), .lit (.int .i64 x.a2.High)]
theorem zfl {x : Ga} : cGa x = [.lit (.int .i64 x.a0.Low), .lit (.int .i64 x.a0.High), .lit (.int .i64 x.a1.Low), .lit (.int .i64 x.a1.High), .lit (.int .i64 x.a2.Low), .lit (.int .i64 x.a2.High)] := rfl
theorem zak : EncOk cGa := EncOk.of (fun x => by simp only [zfl, tre, zal.tree, zal.treeL, zay.tree, zay.treeL, Bool.and_self]) (fun x => by simp only [zfl, nrm, zal.norm, zal.normL, zal.shown, zal.showL, zay.norm, zay.normL, zay.shown, zay.showL]) (fun x H d => by simp only [zfl, nrm, List.map_cons, List.map_nil])
structure Gt where
 pg : Ga
 deriving Inhabited, DecidableEq
def cGt (x : Gt) : List VV := [.lit (.int .i64 x.pg.a0.Low), .lit (.int .i64 x.pg.a0.High), .lit (.int .i64 x.pg.a1.Low), .lit (.int .i64 x.pg.a1.High), .lit (.int .i64 x.pg.a2.Low), .lit (.int .i64 x.pg.a2.High)]
theorem zhc {x : Gt} : cGt x = [.lit (.int .i64 x.pg.a0.Low), .lit (.int .i64 x.pg.a0.High), .lit (.int .i64 x.pg.a1.Low), .lit (.int .i64 x.pg.a1.High), .lit (.int .i64 x.pg.a2.Low), .lit (.int .i64 x.pg.a2.High)] := rfl
theorem zao : EncOk cGt := EncOk.of (fun x => by simp only [zhc, tre, zal.tree, zal.treeL, zay.tree, zay.treeL, zak.tree, zak.treeL, Bool.and_self]) (fun x => by simp only [zhc, nrm, zal.norm, zal.normL, zal.shown, zal.showL, zay.norm, zay.normL, zay.shown, zay.showL, zak.norm, zak.normL, zak.shown, zak.showL]) (fun x H d => by simp only [zhc, nrm, List.map_cons, List.map_nil])
structure Gs where
 Old : Gi
 Fade : Ga
 Years : GSpan
 Off : Int
 Tins : List Gt
 deriving Inhabited, DecidableEq
def cGs (x : Gs) : List VV := [.lit (.int .i64 x.Old.a0), .lit (.int .i64 x.Old.a1), .lit (.int .i64 x.Old.a2), .lit (.int .i64 x.Fade.a0.Low), .lit (.int .i64 x.Fade.a0.High), .lit (.int .i64 x.Fade.a1.Low), .lit (.int .i64 x.Fade.a1.High), .lit (.int .i64 x.Fade.a2.Low), .lit (.int .i64 x.Fade.a2.High), .lit (.int .i64 x.Years.Low), .lit (.int .i64 x.Years.High), .lit (.int .i64 x.Off), .sl (cellsL cGt x.Tins) (List.length x.Tins) false]
theorem zfu {x : Gs} : cGs x = [.lit (.int .i64 x.Old.a0), .lit (.int .i64 x.Old.a1), .lit (.int .i64 x.Old.a2), .lit (.int .i64 x.Fade.a0.Low), .lit (.int .i64 x.Fade.a0.High), .lit (.int .i64 x.Fade.a1.Low), .lit (.int .i64 x.Fade.a1.High), .lit (.int .i64 x.Fade.a2.Low), .lit (.int .i64 x.Fade.a2.High), .lit (.int .i64 x.Years.Low), .lit (.int .i64 x.Years.High), .lit (.int .i64 x.Off), .sl (cellsL cGt x.Tins) (List.length x.Tins) false] := rfl
theorem zam : EncOk cGs := EncOk.of (fun x => by simp only [zfu, tre, zal.tree, zal.treeL, zay.tree, zay.treeL, zak.tree, zak.treeL, zao.tree, zao.treeL, Bool.and_self]) (fun x => by simp only [zfu, nrm, zal.norm, zal.normL, zal.shown, zal.showL, zay.norm, zay.normL, zay.shown, zay.showL, zak.norm, zak.normL, zak.shown, zak.showL, zao.norm, zao.normL, zao.shown, zao.showL]) (fun x H d => by simp only [zfu, nrm, List.map_cons, List.map_nil])
structure Gu where
 Tins : List Gi
 Years : Int
 Fade : Gi
 deriving Inhabited, DecidableEq
def cGu (x : Gu) : List VV := [.sl (cellsL cGi x.Tins) (List.length x.Tins) false, .lit (.int .i64 x.Years), .lit (.int .i64 x.Fade.a0), .lit (.int .i64 x.Fade.a1), .lit (.int .i64 x.Fade.a2)]
theorem zgs {x : Gu} : cGu x = [.sl (cellsL cGi x.Tins) (List.length x.Tins) false, .lit (.int .i64 x.Years), .lit (.int .i64 x.Fade.a0), .lit (.int .i64 x.Fade.a1), .lit (.int .i64 x.Fade.a2)] := rfl
theorem zba : EncOk cGu := EncOk.of (fun x => by simp only [zgs, tre, zal.tree, zal.treeL, zay.tree, zay.treeL, zak.tree, zak.treeL, zao.tree, zao.treeL, zam.tree, zam.treeL, Bool.and_self]) (fun x => by simp only [zgs, nrm, zal.norm, zal.normL, zal.shown, zal.showL, zay.norm, zay.normL, zay.shown, zay.showL, zak.norm, zak.normL, zak.shown, zak.showL, zao.norm, zao.normL, zao.shown, zao.showL, zam.norm, zam.normL, zam.shown, zam.showL]) (fun x H d => by simp only [zgs, nrm, List.map_cons, List.map_nil])
structure Gm where
 sh : Gs
 mix : List Int
 deriving Inhabited, DecidableEq
def cGm (x : Gm) : List VV := [.lit (.int .i64 x.sh.Old.a0), .lit (.int .i64 x.sh.Old.a1), .lit (.int .i64 x.sh.Old.a2), .lit (.int .i64 x.sh.Fade.a0.Low), .lit (.int .i64 x.sh.Fade.a0.High), .lit (.int .i64 x.sh.Fade.a1.Low), .lit (.int .i64 x.sh.Fade.a1.High), .lit (.int .i64 x.sh.Fade.a2.Low), .lit (.int .i64 x.sh.Fade.a2.High), .lit (.int .i64 x.sh.Years.Low), .lit (.int .i64 x.sh.Years.High), .lit (.int .i64 x.sh.Off), .sl (cellsL cGt x.sh.Tins) (List.length x.sh.Tins) false, .sl (cellsL eI x.mix) (List.length x.mix) false]
theorem zgq {x : Gm} : cGm x = [.lit (.int .i64 x.sh.Old.a0), .lit (.int .i64 x.sh.Old.a1), .lit (.int .i64 x.sh.Old.a2), .lit (.int .i64 x.sh.Fade.a0.Low), .lit (.int .i64 x.sh.Fade.a0.High), .lit (.int .i64 x.sh.Fade.a1.Low), .lit (.int .i64 x.sh.Fade.a1.High), .lit (.int .i64 x.sh.Fade.a2.Low), .lit (.int .i64 x.sh.Fade.a2.High), .lit (.int .i64 x.sh.Years.Low), .lit (.int .i64 x.sh.Years.High), .lit (.int .i64 x.sh.Off), .sl (cellsL cGt x.sh.Tins) (List.length x.sh.Tins) false, .sl (cellsL eI x.mix) (List.length x.mix) false] := rfl
theorem zbg : EncOk cGm := EncOk.of (fun x => by simp only [zgq, tre, zal.tree, zal.treeL, zay.tree, zay.treeL, zak.tree, zak.treeL, zao.tree, zao.treeL, zam.tree, zam.treeL, zba.tree, zba.treeL, Bool.and_self]) (fun x => by simp only [zgq, nrm, zal.norm, zal.normL, zal.shown, zal.showL, zay.norm, zay.normL, zay.shown, zay.showL, zak.norm, zak.normL, zak.shown, zak.showL, zao.norm, zao.normL, zao.shown, zao.showL, zam.norm, zam.normL, zam.shown, zam.showL, zba.norm, zba.normL, zba.shown, zba.showL]) (fun x H d => by simp only [zgq, nrm, List.map_cons, List.map_nil])
structure Gf where
 pigment : Int
 years : Int
 deriving Inhabited, DecidableEq
def cGf (x : Gf) : List VV := [.lit (.int .i64 x.pigment), .lit (.int .i64 x.years)]
theorem zge {x : Gf} : cGf x = [.lit (.int .i64 x.pigment), .lit (.int .i64 x.years)] := rfl
theorem zej : EncOk cGf := EncOk.of (fun x => by simp only [zge, tre, zal.tree, zal.treeL, zay.tree, zay.treeL, zak.tree, zak.treeL, zao.tree, zao.treeL, zam.tree, zam.treeL, zba.tree, zba.treeL, zbg.tree, zbg.treeL, Bool.and_self]) (fun x => by simp only [zge, nrm, zal.norm, zal.normL, zal.shown, zal.showL, zay.norm, zay.normL, zay.shown, zay.showL, zak.norm, zak.normL, zak.shown, zak.showL, zao.norm, zao.normL, zao.shown, zao.showL, zam.norm, zam.normL, zam.shown, zam.showL, zba.norm, zba.normL, zba.shown, zba.showL, zbg.norm, zbg.normL, zbg.shown, zbg.showL]) (fun x H d => by simp only [zge, nrm, List.map_cons, List.map_nil])
theorem zlv : EncOk (eSl eI) := EncOk.sl eI_ok
theorem ld2 {c : VV} {cs : List VV} : vload Tryz.prog 2 (c :: cs) = some c := by
 have h1 : aggT Tryz.prog 2 = some false := by kernel_rfl
 simp [vload, vpart, h1]
theorem sz2 : szT Tryz.prog 2 = some 1 := by kernel_rfl
theorem vzl2 : vzl Tryz.prog 2 = some [.lit (.int .i64 0)] := by kernel_rfl
theorem ld3 {c : VV} {cs : List VV} : vload Tryz.prog 3 (c :: cs) = some c := by
 have h1 : aggT Tryz.prog 3 = some false := by kernel_rfl
 simp [vload, vpart, h1]
theorem sz3 : szT Tryz.prog 3 = some 1 := by kernel_rfl
theorem vzl3 : vzl Tryz.prog 3 = some [.lit (.int .i64 0)] := by kernel_rfl
theorem ld4 {c : VV} {cs : List VV} : vload Tryz.prog 4 (c :: cs) = some c := by
 have h1 : aggT Tryz.prog 4 = some false := by kernel_rfl
 simp [vload, vpart, h1]
theorem sz4 : szT Tryz.prog 4 = some 1 := by kernel_rfl
theorem vzl4 : vzl Tryz.prog 4 = some [.lit (.bool false)] := by kernel_rfl
theorem ld9 {c : VV} {cs : List VV} : vload Tryz.prog 9 (c :: cs) = some c := by
 have h1 : aggT Tryz.prog 9 = some false := by kernel_rfl
 simp [vload, vpart, h1]
theorem sz9 : szT Tryz.prog 9 = some 1 := by kernel_rfl
theorem vzl9 : vzl Tryz.prog 9 = some [.lit (.string ⟨#[]⟩)] := by kernel_rfl
theorem ld22 {c0 c1 c2 : VV} {cs : List VV} : vload Tryz.prog 22 (c0 :: c1 :: c2 :: cs) = some (.agg [c0, c1, c2]) := by
 have h1 : aggT Tryz.prog 22 = some true := by kernel_rfl
 have h2 : szT Tryz.prog 22 = some 3 := by kernel_rfl
 simp [vload, vpart, h1, h2]
theorem sz22 : szT Tryz.prog 22 = some 3 := by kernel_rfl
theorem vzl22 : vzl Tryz.prog 22 = some [.lit (.int .i64 0), .lit (.int .i64 0), .lit (.int .i64 0)] := by kernel_rfl
theorem zauo {H : Nat → Option VObj} {β o : Nat} {k : IntKind} : vindexAddr Tryz.prog H 22 (.ptr β o) (.lit (.int k (0 : Int))) = if (H β).isSome = true then some (.ptr β (o + 0)) else none := by
 have h2 : szT Tryz.prog 3 = some 1 := by kernel_rfl
 simp [vindexAddr, Tryz.underlying22, h2]
theorem zavm {H : Nat → Option VObj} {cs : List VV} {k : IntKind} : vindexAddr Tryz.prog H 22 (.tp cs) (.lit (.int k (0 : Int))) = some (.tp (cs.drop 0)) := by
 have h2 : szT Tryz.prog 3 = some 1 := by kernel_rfl
 simp [vindexAddr, Tryz.underlying22, h2]
theorem zast {c0 c1 c2 : VV} {k : IntKind} : vindex Tryz.prog 22 (.agg [c0, c1, c2]) (.lit (.int k (0 : Int))) = some (c0) := by
 have h1 : aggT Tryz.prog 3 = some false := by kernel_rfl
 have h2 : szT Tryz.prog 3 = some 1 := by kernel_rfl
 simp [vindex, Tryz.underlying22, vpart, h1, h2]
theorem zkg {H : Nat → Option VObj} {β o : Nat} {k : IntKind} {i : Int} (h : (i == 0) = true) : vindexAddr Tryz.prog H 22 (.ptr β o) (.lit (.int k i)) = if (H β).isSome = true then some (.ptr β (o + 0)) else none := by
 obtain rfl : i = 0 := by simpa using h
 have h2 : szT Tryz.prog 3 = some 1 := by kernel_rfl
 simp [vindexAddr, Tryz.underlying22, h2]
theorem zavp {H : Nat → Option VObj} {β o : Nat} {k : IntKind} : vindexAddr Tryz.prog H 22 (.ptr β o) (.lit (.int k (1 : Int))) = if (H β).isSome = true then some (.ptr β (o + 1)) else none := by
 have h2 : szT Tryz.prog 3 = some 1 := by kernel_rfl
 simp [vindexAddr, Tryz.underlying22, h2]
theorem zata {H : Nat → Option VObj} {cs : List VV} {k : IntKind} : vindexAddr Tryz.prog H 22 (.tp cs) (.lit (.int k (1 : Int))) = some (.tp (cs.drop 1)) := by
 have h2 : szT Tryz.prog 3 = some 1 := by kernel_rfl
 simp [vindexAddr, Tryz.underlying22, h2]
theorem zaru {c0 c1 c2 : VV} {k : IntKind} : vindex Tryz.prog 22 (.agg [c0, c1, c2]) (.lit (.int k (1 : Int))) = some (c1) := by
 have h1 : aggT Tryz.prog 3 = some false := by kernel_rfl
 have h2 : szT Tryz.prog 3 = some 1 := by kernel_rfl
 simp [vindex, Tryz.underlying22, vpart, h1, h2]
theorem zkj {H : Nat → Option VObj} {β o : Nat} {k : IntKind} {i : Int} (h : (i == 1) = true) : vindexAddr Tryz.prog H 22 (.ptr β o) (.lit (.int k i)) = if (H β).isSome = true then some (.ptr β (o + 1)) else none := by
 obtain rfl : i = 1 := by simpa using h
 have h2 : szT Tryz.prog 3 = some 1 := by kernel_rfl
 simp [vindexAddr, Tryz.underlying22, h2]
theorem zauj {H : Nat → Option VObj} {β o : Nat} {k : IntKind} : vindexAddr Tryz.prog H 22 (.ptr β o) (.lit (.int k (2 : Int))) = if (H β).isSome = true then some (.ptr β (o + 2)) else none := by
 have h2 : szT Tryz.prog 3 = some 1 := by kernel_rfl
 simp [vindexAddr, Tryz.underlying22, h2]
theorem zavg {H : Nat → Option VObj} {cs : List VV} {k : IntKind} : vindexAddr Tryz.prog H 22 (.tp cs) (.lit (.int k (2 : Int))) = some (.tp (cs.drop 2)) := by
 have h2 : szT Tryz.prog 3 = some 1 := by kernel_rfl
 simp [vindexAddr, Tryz.underlying22, h2]
theorem zask {c0 c1 c2 : VV} {k : IntKind} : vindex Tryz.prog 22 (.agg [c0, c1, c2]) (.lit (.int k (2 : Int))) = some (c2) := by
 have h1 : aggT Tryz.prog 3 = some false := by kernel_rfl
 have h2 : szT Tryz.prog 3 = some 1 := by kernel_rfl
 simp [vindex, Tryz.underlying22, vpart, h1, h2]
theorem zki {H : Nat → Option VObj} {β o : Nat} {k : IntKind} {i : Int} (h : (i == 2) = true) : vindexAddr Tryz.prog H 22 (.ptr β o) (.lit (.int k i)) = if (H β).isSome = true then some (.ptr β (o + 2)) else none := by
 obtain rfl : i = 2 := by simpa using h
 have h2 : szT Tryz.prog 3 = some 1 := by kernel_rfl
 simp [vindexAddr, Tryz.underlying22, h2]
theorem ld24 {c0 c1 : VV} {cs : List VV} : vload Tryz.prog 24 (c0 :: c1 :: cs) = some (.agg [c0, c1]) := by
 have h1 : aggT Tryz.prog 24 = some true := by kernel_rfl
 have h2 : szT Tryz.prog 24 = some 2 := by kernel_rfl
 simp [vload, vpart, h1, h2]
theorem sz24 : szT Tryz.prog 24 = some 2 := by kernel_rfl
theorem vzl24 : vzl Tryz.prog 24 = some [.lit (.int .i64 0), .lit (.int .i64 0)] := by kernel_rfl
theorem zatk {H : Nat → Option VObj} {cs : List VV} : vfieldAddr Tryz.prog H 24 (.tp cs) 0 = some (.tp (cs.drop 0)) := by
 have h2 : szT Tryz.prog 3 = some 1 := by kernel_rfl
 simp [vfieldAddr, Tryz.underlying24, h2]
theorem zavi {H : Nat → Option VObj} {β o : Nat} : vfieldAddr Tryz.prog H 24 (.ptr β o) 0 = if (H β).isSome = true then some (.ptr β (o + 0)) else none := by
 have h2 : szT Tryz.prog 3 = some 1 := by kernel_rfl
 simp [vfieldAddr, Tryz.underlying24, h2]
theorem zauq {c0 c1 : VV} : vfield Tryz.prog 24 (.agg [c0, c1]) 0 = some (c0) := by
 have h1 : aggT Tryz.prog 3 = some false := by kernel_rfl
 have h2 : szT Tryz.prog 3 = some 1 := by kernel_rfl
 simp [vfield, Tryz.underlying24, vpart, h1, h2]
theorem zauk {H : Nat → Option VObj} {cs : List VV} : vfieldAddr Tryz.prog H 24 (.tp cs) 1 = some (.tp (cs.drop 1)) := by
 have h2 : szT Tryz.prog 3 = some 1 := by kernel_rfl
 simp [vfieldAddr, Tryz.underlying24, h2]
theorem zasm {H : Nat → Option VObj} {β o : Nat} : vfieldAddr Tryz.prog H 24 (.ptr β o) 1 = if (H β).isSome = true then some (.ptr β (o + 1)) else none := by
 have h2 : szT Tryz.prog 3 = some 1 := by kernel_rfl
 simp [vfieldAddr, Tryz.underlying24, h2]
theorem zavt {c0 c1 : VV} : vfield Tryz.prog 24 (.agg [c0, c1]) 1 = some (c1) := by
 have h1 : aggT Tryz.prog 3 = some false := by kernel_rfl
 have h2 : szT Tryz.prog 3 = some 1 := by kernel_rfl
 simp [vfield, Tryz.underlying24, vpart, h1, h2]
theorem ld25 {c0 c1 c2 c3 c4 c5 : VV} {cs : List VV} : vload Tryz.prog 25 (c0 :: c1 :: c2 :: c3 :: c4 :: c5 :: cs) = some (.agg [c0, c1, c2, c3, c4, c5]) := by
 have h1 : aggT Tryz.prog 25 = some true := by kernel_rfl
 have h2 : szT Tryz.prog 25 = some 6 := by kernel_rfl
 simp [vload, vpart, h1, h2]
theorem sz25 : szT Tryz.prog 25 = some 6 := by kernel_rfl
theorem vzl25 : vzl Tryz.prog 25 = some [.lit (.int .i64 0), .lit (.int .i64 0), .lit (.int .i64 0), .lit (.int .i64 0), .lit (.int .i64 0), .lit (.int .i64 0)] := by kernel_rfl
theorem zasv {H : Nat → Option VObj} {β o : Nat} {k : IntKind} : vindexAddr Tryz.prog H 25 (.ptr β o) (.lit (.int k (0 : Int))) = if (H β).isSome = true then some (.ptr β (o + 0)) else none := by
 have h2 : szT Tryz.prog 24 = some 2 := by kernel_rfl
 simp [vindexAddr, Tryz.underlying25, h2]
theorem zarv {H : Nat → Option VObj} {cs : List VV} {k : IntKind} : vindexAddr Tryz.prog H 25 (.tp cs) (.lit (.int k (0 : Int))) = some (.tp (cs.drop 0)) := by
 have h2 : szT Tryz.prog 24 = some 2 := by kernel_rfl
 simp [vindexAddr, Tryz.underlying25, h2]
theorem zatp {c0 c1 c2 c3 c4 c5 : VV} {k : IntKind} : vindex Tryz.prog 25 (.agg [c0, c1, c2, c3, c4, c5]) (.lit (.int k (0 : Int))) = some (.agg [c0, c1]) := by
 have h1 : aggT Tryz.prog 24 = some true := by kernel_rfl
 have h2 : szT Tryz.prog 24 = some 2 := by kernel_rfl
 simp [vindex, Tryz.underlying25, vpart, h1, h2]
theorem zgm {H : Nat → Option VObj} {β o : Nat} {k : IntKind} {i : Int} (h : (i == 0) = true) : vindexAddr Tryz.prog H 25 (.ptr β o) (.lit (.int k i)) = if (H β).isSome = true then some (.ptr β (o + 0)) else none := by
 obtain rfl : i = 0 := by simpa using h
 have h2 : szT Tryz.prog 24 = some 2 := by kernel_rfl
 simp [vindexAddr, Tryz.underlying25, h2]
theorem ztq {H : Nat → Option VObj} {cs : List VV} {k : IntKind} {i : Int} (h : (i == 0) = true) : vindexAddr Tryz.prog H 25 (.tp cs) (.lit (.int k i)) = some (.tp (cs.drop 0)) := by
 obtain rfl : i = 0 := by simpa using h
 have h2 : szT Tryz.prog 24 = some 2 := by kernel_rfl
 simp [vindexAddr, Tryz.underlying25, h2]
theorem zls {c0 c1 c2 c3 c4 c5 : VV} {k : IntKind} {i : Int} (h : (i == 0) = true) : vindex Tryz.prog 25 (.agg [c0, c1, c2, c3, c4, c5]) (.lit (.int k i)) = some (.agg [c0, c1]) := by
 obtain rfl : i = 0 := by simpa using h
 have h1 : aggT Tryz.prog 24 = some true := by kernel_rfl
 have h2 : szT Tryz.prog 24 = some 2 := by kernel_rfl
 simp [vindex, Tryz.underlying25, vpart, h1, h2]
theorem zatd {H : Nat → Option VObj} {β o : Nat} {k : IntKind} : vindexAddr Tryz.prog H 25 (.ptr β o) (.lit (.int k (1 : Int))) = if (H β).isSome = true then some (.ptr β (o + 2)) else none := by
 have h2 : szT Tryz.prog 24 = some 2 := by kernel_rfl
 simp [vindexAddr, Tryz.underlying25, h2]
theorem zawc {H : Nat → Option VObj} {cs : List VV} {k : IntKind} : vindexAddr Tryz.prog H 25 (.tp cs) (.lit (.int k (1 : Int))) = some (.tp (cs.drop 2)) := by
 have h2 : szT Tryz.prog 24 = some 2 := by kernel_rfl
 simp [vindexAddr, Tryz.underlying25, h2]
theorem zawa {c0 c1 c2 c3 c4 c5 : VV} {k : IntKind} : vindex Tryz.prog 25 (.agg [c0, c1, c2, c3, c4, c5]) (.lit (.int k (1 : Int))) = some (.agg [c2, c3]) := by
 have h1 : aggT Tryz.prog 24 = some true := by kernel_rfl
 have h2 : szT Tryz.prog 24 = some 2 := by kernel_rfl
 simp [vindex, Tryz.underlying25, vpart, h1, h2]
theorem zgl {H : Nat → Option VObj} {β o : Nat} {k : IntKind} {i : Int} (h : (i == 1) = true) : vindexAddr Tryz.prog H 25 (.ptr β o) (.lit (.int k i)) = if (H β).isSome = true then some (.ptr β (o + 2)) else none := by
 obtain rfl : i = 1 := by simpa using h
 have h2 : szT Tryz.prog 24 = some 2 := by kernel_rfl
 simp [vindexAddr, Tryz.underlying25, h2]
theorem zum {H : Nat → Option VObj} {cs : List VV} {k : IntKind} {i : Int} (h : (i == 1) = true) : vindexAddr Tryz.prog H 25 (.tp cs) (.lit (.int k i)) = some (.tp (cs.drop 2)) := by
 obtain rfl : i = 1 := by simpa using h
 have h2 : szT Tryz.prog 24 = some 2 := by kernel_rfl
 simp [vindexAddr, Tryz.underlying25, h2]
theorem zln {c0 c1 c2 c3 c4 c5 : VV} {k : IntKind} {i : Int} (h : (i == 1) = true) : vindex Tryz.prog 25 (.agg [c0, c1, c2, c3, c4, c5]) (.lit (.int k i)) = some (.agg [c2, c3]) := by
 obtain rfl : i = 1 := by simpa using h
 have h1 : aggT Tryz.prog 24 = some true := by kernel_rfl
 have h2 : szT Tryz.prog 24 = some 2 := by kernel_rfl
 simp [vindex, Tryz.underlying25, vpart, h1, h2]
theorem zauh {H : Nat → Option VObj} {β o : Nat} {k : IntKind} : vindexAddr Tryz.prog H 25 (.ptr β o) (.lit (.int k (2 : Int))) = if (H β).isSome = true then some (.ptr β (o + 4)) else none := by
 have h2 : szT Tryz.prog 24 = some 2 := by kernel_rfl
 simp [vindexAddr, Tryz.underlying25, h2]
theorem zatn {H : Nat → Option VObj} {cs : List VV} {k : IntKind} : vindexAddr Tryz.prog H 25 (.tp cs) (.lit (.int k (2 : Int))) = some (.tp (cs.drop 4)) := by
 have h2 : szT Tryz.prog 24 = some 2 := by kernel_rfl
 simp [vindexAddr, Tryz.underlying25, h2]
theorem zavb {c0 c1 c2 c3 c4 c5 : VV} {k : IntKind} : vindex Tryz.prog 25 (.agg [c0, c1, c2, c3, c4, c5]) (.lit (.int k (2 : Int))) = some (.agg [c4, c5]) := by
 have h1 : aggT Tryz.prog 24 = some true := by kernel_rfl
 have h2 : szT Tryz.prog 24 = some 2 := by kernel_rfl
 simp [vindex, Tryz.underlying25, vpart, h1, h2]
theorem zgk {H : Nat → Option VObj} {β o : Nat} {k : IntKind} {i : Int} (h : (i == 2) = true) : vindexAddr Tryz.prog H 25 (.ptr β o) (.lit (.int k i)) = if (H β).isSome = true then some (.ptr β (o + 4)) else none := by
 obtain rfl : i = 2 := by simpa using h
 have h2 : szT Tryz.prog 24 = some 2 := by kernel_rfl
 simp [vindexAddr, Tryz.underlying25, h2]
theorem ztt {H : Nat → Option VObj} {cs : List VV} {k : IntKind} {i : Int} (h : (i == 2) = true) : vindexAddr Tryz.prog H 25 (.tp cs) (.lit (.int k i)) = some (.tp (cs.drop 4)) := by
 obtain rfl : i = 2 := by simpa using h
 have h2 : szT Tryz.prog 24 = some 2 := by kernel_rfl
 simp [vindexAddr, Tryz.underlying25, h2]
theorem zld {c0 c1 c2 c3 c4 c5 : VV} {k : IntKind} {i : Int} (h : (i == 2) = true) : vindex Tryz.prog 25 (.agg [c0, c1, c2, c3, c4, c5]) (.lit (.int k i)) = some (.agg [c4, c5]) := by
 obtain rfl : i = 2 := by simpa using h
 have h1 : aggT Tryz.prog 24 = some true := by kernel_rfl
 have h2 : szT Tryz.prog 24 = some 2 := by kernel_rfl
 simp [vindex, Tryz.underlying25, vpart, h1, h2]
theorem ld26 {c : VV} {cs : List VV} : vload Tryz.prog 26 (c :: cs) = some c := by
 have h1 : aggT Tryz.prog 26 = some false := by kernel_rfl
 simp [vload, vpart, h1]
theorem sz26 : szT Tryz.prog 26 = some 1 := by kernel_rfl
theorem vzl26 : vzl Tryz.prog 26 = some [.lit (.slice none 0 0)] := by kernel_rfl
theorem len26 {H : Nat → Option VObj} {cs : List VV} {n : Nat} {f : Bool} : vlen Tryz.prog H 26 (.sl cs n f) = some (.lit (.int .i64 n)) := by simp [vlen, Tryz.underlying26, sls]
theorem lenN26 {H : Nat → Option VObj} : vlen Tryz.prog H 26 (.lit (.slice none 0 0)) = some (.lit (.int .i64 0)) := by simp [vlen, Tryz.underlying26, sls]
theorem lenR26 {H : Nat → Option VObj} {β off n w c : Nat} : vlen Tryz.prog H 26 (.ref β off n w c) = (match H β with | some (.cells _ cs) => if off ≤ cs.length then some (.lit (.int .i64 n)) else none | _ => none) := lenR Tryz.underlying26
theorem et26 : elemT Tryz.prog 26 = some 94 := by simp [elemT, Tryz.underlying26]
theorem tk26 {xs : List Gt} : (cellsL cGt xs).take (xs.length * 6) = cellsL cGt xs := zjf (fun _ => rfl)
theorem zavs {c0 c1 c2 c3 c4 c5 : VV} (h : leafL [c0, c1, c2, c3, c4, c5] = true) : vbuildSlice Tryz.prog 26 1 [(0, .agg [c0, c1, c2, c3, c4, c5])] = some ([c0, c1, c2, c3, c4, c5], 6) := by
 have h2 : szT Tryz.prog 94 = some 6 := by kernel_rfl
 have h3 : vzero Tryz.prog 94 = some #[.int .i64 0, .int .i64 0, .int .i64 0, .int .i64 0, .int .i64 0, .int .i64 0] := by kernel_rfl
 simp only [zbj, zbu, Bool.and_true, Bool.and_eq_true] at h
 simp [vbuildSlice, Tryz.underlying26, h2, h3, vfill, vcells, h, overwrite, vzeros]
theorem ix26 {H : Nat → Option VObj} {xs : List Gt} {x : Gt} {f : Bool} {k : IntKind} {i : Int} (h : getI xs i = some x) : vindexAddr Tryz.prog H 26 (.sl (cellsL cGt xs) xs.length f) (.lit (.int k i)) = some (.tp (cGt x ++ cellsL cGt (xs.drop (i.toNat + 1)))) :=
 ixG Tryz.underlying26 (by kernel_rfl : szT Tryz.prog 94 = some 6) (by decide) (fun _ => rfl) h
theorem ld28 {c0 c1 c2 c3 c4 c5 c6 c7 c8 c9 c10 c11 c12 : VV} {cs : List VV} : vload Tryz.prog 28 (c0 :: c1 :: c2 :: c3 :: c4 :: c5 :: c6 :: c7 :: c8 :: c9 :: c10 :: c11 :: c12 :: cs) = some (.agg [c0, c1, c2, c3, c4, c5, c6, c7, c8, c9, c10, c11, c12]) := by
 have h1 : aggT Tryz.prog 28 = some true := by kernel_rfl
 have h2 : szT Tryz.prog 28 = some 13 := by kernel_rfl
 simp [vload, vpart, h1, h2]
theorem sz28 : szT Tryz.prog 28 = some 13 := by kernel_rfl
theorem vzl28 : vzl Tryz.prog 28 = some [.lit (.int .i64 0), .lit (.int .i64 0), .lit (.int .i64 0), .lit (.int .i64 0), .lit (.int .i64 0), .lit (.int .i64 0), .lit (.int .i64 0), .lit (.int .i64 0), .lit (.int .i64 0), .lit (.int .i64 0), .lit (.int .i64 0), .lit (.int .i64 0), .lit (.slice none 0 0)] := by kernel_rfl
theorem zavv {H : Nat → Option VObj} {cs : List VV} : vfieldAddr Tryz.prog H 28 (.tp cs) 0 = some (.tp (cs.drop 0)) := by
 have h2 : szT Tryz.prog 22 = some 3 := by kernel_rfl
 simp [vfieldAddr, Tryz.underlying28, h2]
theorem zatc {H : Nat → Option VObj} {β o : Nat} : vfieldAddr Tryz.prog H 28 (.ptr β o) 0 = if (H β).isSome = true then some (.ptr β (o + 0)) else none := by
 have h2 : szT Tryz.prog 22 = some 3 := by kernel_rfl
 simp [vfieldAddr, Tryz.underlying28, h2]
theorem zarw {c0 c1 c2 c3 c4 c5 c6 c7 c8 c9 c10 c11 c12 : VV} : vfield Tryz.prog 28 (.agg [c0, c1, c2, c3, c4, c5, c6, c7, c8, c9, c10, c11, c12]) 0 = some (.agg [c0, c1, c2]) := by
 have h1 : aggT Tryz.prog 22 = some true := by kernel_rfl
 have h2 : szT Tryz.prog 22 = some 3 := by kernel_rfl
 simp [vfield, Tryz.underlying28, vpart, h1, h2]
theorem zawb {H : Nat → Option VObj} {cs : List VV} : vfieldAddr Tryz.prog H 28 (.tp cs) 1 = some (.tp (cs.drop 3)) := by
 have h2 : szT Tryz.prog 25 = some 6 := by kernel_rfl
 simp [vfieldAddr, Tryz.underlying28, h2]
theorem zatr {H : Nat → Option VObj} {β o : Nat} : vfieldAddr Tryz.prog H 28 (.ptr β o) 1 = if (H β).isSome = true then some (.ptr β (o + 3)) else none := by
 have h2 : szT Tryz.prog 25 = some 6 := by kernel_rfl
 simp [vfieldAddr, Tryz.underlying28, h2]
theorem zasq {c0 c1 c2 c3 c4 c5 c6 c7 c8 c9 c10 c11 c12 : VV} : vfield Tryz.prog 28 (.agg [c0, c1, c2, c3, c4, c5, c6, c7, c8, c9, c10, c11, c12]) 1 = some (.agg [c3, c4, c5, c6, c7, c8]) := by
 have h1 : aggT Tryz.prog 25 = some true := by kernel_rfl
 have h2 : szT Tryz.prog 25 = some 6 := by kernel_rfl
 simp [vfield, Tryz.underlying28, vpart, h1, h2]
theorem zaul {H : Nat → Option VObj} {cs : List VV} : vfieldAddr Tryz.prog H 28 (.tp cs) 2 = some (.tp (cs.drop 9)) := by
 have h2 : szT Tryz.prog 24 = some 2 := by kernel_rfl
 simp [vfieldAddr, Tryz.underlying28, h2]
theorem zaub {H : Nat → Option VObj} {β o : Nat} : vfieldAddr Tryz.prog H 28 (.ptr β o) 2 = if (H β).isSome = true then some (.ptr β (o + 9)) else none := by
 have h2 : szT Tryz.prog 24 = some 2 := by kernel_rfl
 simp [vfieldAddr, Tryz.underlying28, h2]
theorem zauz {c0 c1 c2 c3 c4 c5 c6 c7 c8 c9 c10 c11 c12 : VV} : vfield Tryz.prog 28 (.agg [c0, c1, c2, c3, c4, c5, c6, c7, c8, c9, c10, c11, c12]) 2 = some (.agg [c9, c10]) := by
 have h1 : aggT Tryz.prog 24 = some true := by kernel_rfl
 have h2 : szT Tryz.prog 24 = some 2 := by kernel_rfl
 simp [vfield, Tryz.underlying28, vpart, h1, h2]
theorem zavw {H : Nat → Option VObj} {cs : List VV} : vfieldAddr Tryz.prog H 28 (.tp cs) 3 = some (.tp (cs.drop 11)) := by
 have h2 : szT Tryz.prog 3 = some 1 := by kernel_rfl
 simp [vfieldAddr, Tryz.underlying28, h2]
theorem zatx {H : Nat → Option VObj} {β o : Nat} : vfieldAddr Tryz.prog H 28 (.ptr β o) 3 = if (H β).isSome = true then some (.ptr β (o + 11)) else none := by
 have h2 : szT Tryz.prog 3 = some 1 := by kernel_rfl
 simp [vfieldAddr, Tryz.underlying28, h2]
theorem zash {c0 c1 c2 c3 c4 c5 c6 c7 c8 c9 c10 c11 c12 : VV} : vfield Tryz.prog 28 (.agg [c0, c1, c2, c3, c4, c5, c6, c7, c8, c9, c10, c11, c12]) 3 = some (c11) := by
 have h1 : aggT Tryz.prog 3 = some false := by kernel_rfl
 have h2 : szT Tryz.prog 3 = some 1 := by kernel_rfl
 simp [vfield, Tryz.underlying28, vpart, h1, h2]
theorem zavn {H : Nat → Option VObj} {cs : List VV} : vfieldAddr Tryz.prog H 28 (.tp cs) 4 = some (.tp (cs.drop 12)) := by
 have h2 : szT Tryz.prog 26 = some 1 := by kernel_rfl
 simp [vfieldAddr, Tryz.underlying28, h2]
theorem zats {H : Nat → Option VObj} {β o : Nat} : vfieldAddr Tryz.prog H 28 (.ptr β o) 4 = if (H β).isSome = true then some (.ptr β (o + 12)) else none := by
 have h2 : szT Tryz.prog 26 = some 1 := by kernel_rfl
 simp [vfieldAddr, Tryz.underlying28, h2]
theorem zasr {c0 c1 c2 c3 c4 c5 c6 c7 c8 c9 c10 c11 c12 : VV} : vfield Tryz.prog 28 (.agg [c0, c1, c2, c3, c4, c5, c6, c7, c8, c9, c10, c11, c12]) 4 = some (c12) := by
 have h1 : aggT Tryz.prog 26 = some false := by kernel_rfl
 have h2 : szT Tryz.prog 26 = some 1 := by kernel_rfl
 simp [vfield, Tryz.underlying28, vpart, h1, h2]
theorem ld29 {c : VV} {cs : List VV} : vload Tryz.prog 29 (c :: cs) = some c := by
 have h1 : aggT Tryz.prog 29 = some false := by kernel_rfl
 simp [vload, vpart, h1]
theorem sz29 : szT Tryz.prog 29 = some 1 := by kernel_rfl
theorem vzl29 : vzl Tryz.prog 29 = some [.lit (.slice none 0 0)] := by kernel_rfl
theorem len29 {H : Nat → Option VObj} {cs : List VV} {n : Nat} {f : Bool} : vlen Tryz.prog H 29 (.sl cs n f) = some (.lit (.int .i64 n)) := by simp [vlen, Tryz.underlying29, sls]
theorem lenN29 {H : Nat → Option VObj} : vlen Tryz.prog H 29 (.lit (.slice none 0 0)) = some (.lit (.int .i64 0)) := by simp [vlen, Tryz.underlying29, sls]
theorem lenR29 {H : Nat → Option VObj} {β off n w c : Nat} : vlen Tryz.prog H 29 (.ref β off n w c) = (match H β with | some (.cells _ cs) => if off ≤ cs.length then some (.lit (.int .i64 n)) else none | _ => none) := lenR Tryz.underlying29
theorem et29 : elemT Tryz.prog 29 = some 3 := by simp [elemT, Tryz.underlying29]
theorem ao29 : appOk Tryz.prog 29 = some (3, 1, 8) := by kernel_rfl
theorem tk29 {xs : List Int} : (cellsL eI xs).take (xs.length * 1) = cellsL eI xs := zjf (fun _ => rfl)
theorem lf29 : ∀ x : Int, leafL (eI x) = true := fun x => by simp only [eI_eq, zaol, eB_eq, eS_eq, zaqt, zbu, zbj, zafc, zyj, zqh, ztv, zaiy, Bool.and_self]
theorem zaun {a0 : VV} (h : leafL [a0] = true) : vbuildSlice Tryz.prog 29 1 [(0, a0)] = some ([a0], 1) := by
 have h2 : szT Tryz.prog 3 = some 1 := by kernel_rfl
 have h3 : vzero Tryz.prog 3 = some #[.int .i64 0] := by kernel_rfl
 simp only [zbj, zbu, Bool.and_true, Bool.and_eq_true] at h
 simp [vbuildSlice, Tryz.underlying29, h2, h3, vfill, vcells1, h, overwrite, vzeros, List.range_succ]
theorem zaud {a0 a1 : VV} (h : leafL [a0, a1] = true) : vbuildSlice Tryz.prog 29 2 [(0, a0), (1, a1)] = some ([a0, a1], 1) := by
 have h2 : szT Tryz.prog 3 = some 1 := by kernel_rfl
 have h3 : vzero Tryz.prog 3 = some #[.int .i64 0] := by kernel_rfl
 simp only [zbj, zbu, Bool.and_true, Bool.and_eq_true] at h
 simp [vbuildSlice, Tryz.underlying29, h2, h3, vfill, vcells1, h, overwrite, vzeros, List.range_succ]
theorem zawd {a0 a1 a2 : VV} (h : leafL [a0, a1, a2] = true) : vbuildSlice Tryz.prog 29 3 [(0, a0), (1, a1), (2, a2)] = some ([a0, a1, a2], 1) := by
 have h2 : szT Tryz.prog 3 = some 1 := by kernel_rfl
 have h3 : vzero Tryz.prog 3 = some #[.int .i64 0] := by kernel_rfl
 simp only [zbj, zbu, Bool.and_true, Bool.and_eq_true] at h
 simp [vbuildSlice, Tryz.underlying29, h2, h3, vfill, vcells1, h, overwrite, vzeros, List.range_succ]
theorem ix29 {H : Nat → Option VObj} {xs : List Int} {x : Int} {f : Bool} {k : IntKind} {i : Int} (h : getI xs i = some x) : vindexAddr Tryz.prog H 29 (.sl (cellsL eI xs) xs.length f) (.lit (.int k i)) = some (.tp (eI x ++ cellsL eI (xs.drop (i.toNat + 1)))) :=
 ixG Tryz.underlying29 (by kernel_rfl : szT Tryz.prog 3 = some 1) (by decide) (fun _ => rfl) h
theorem ld32 {c : VV} {cs : List VV} : vload Tryz.prog 32 (c :: cs) = some c := by
 have h1 : aggT Tryz.prog 32 = some false := by kernel_rfl
 simp [vload, vpart, h1]
theorem sz32 : szT Tryz.prog 32 = some 1 := by kernel_rfl
theorem vzl32 : vzl Tryz.prog 32 = some [.lit (.int .i64 0)] := by kernel_rfl
theorem ld40 {c : VV} {cs : List VV} : vload Tryz.prog 40 (c :: cs) = some c := by
 have h1 : aggT Tryz.prog 40 = some false := by kernel_rfl
 simp [vload, vpart, h1]
theorem sz40 : szT Tryz.prog 40 = some 1 := by kernel_rfl
theorem vzl40 : vzl Tryz.prog 40 = some [.lit (.slice none 0 0)] := by kernel_rfl
theorem len40 {H : Nat → Option VObj} {cs : List VV} {n : Nat} {f : Bool} : vlen Tryz.prog H 40 (.sl cs n f) = some (.lit (.int .i64 n)) := by simp [vlen, Tryz.underlying40, sls]
theorem lenN40 {H : Nat → Option VObj} : vlen Tryz.prog H 40 (.lit (.slice none 0 0)) = some (.lit (.int .i64 0)) := by simp [vlen, Tryz.underlying40, sls]
theorem lenR40 {H : Nat → Option VObj} {β off n w c : Nat} : vlen Tryz.prog H 40 (.ref β off n w c) = (match H β with | some (.cells _ cs) => if off ≤ cs.length then some (.lit (.int .i64 n)) else none | _ => none) := lenR Tryz.underlying40
theorem et40 : elemT Tryz.prog 40 = some 22 := by simp [elemT, Tryz.underlying40]
theorem tk40 {xs : List Gi} : (cellsL cGi xs).take (xs.length * 3) = cellsL cGi xs := zjf (fun _ => rfl)
theorem zatf {c0 c1 c2 : VV} (h : leafL [c0, c1, c2] = true) : vbuildSlice Tryz.prog 40 1 [(0, .agg [c0, c1, c2])] = some ([c0, c1, c2], 3) := by
 have h2 : szT Tryz.prog 22 = some 3 := by kernel_rfl
 have h3 : vzero Tryz.prog 22 = some #[.int .i64 0, .int .i64 0, .int .i64 0] := by kernel_rfl
 simp only [zbj, zbu, Bool.and_true, Bool.and_eq_true] at h
 simp [vbuildSlice, Tryz.underlying40, h2, h3, vfill, vcells, h, overwrite, vzeros]
theorem ld42 {c0 c1 c2 c3 c4 : VV} {cs : List VV} : vload Tryz.prog 42 (c0 :: c1 :: c2 :: c3 :: c4 :: cs) = some (.agg [c0, c1, c2, c3, c4]) := by
 have h1 : aggT Tryz.prog 42 = some true := by kernel_rfl
 have h2 : szT Tryz.prog 42 = some 5 := by kernel_rfl
 simp [vload, vpart, h1, h2]
theorem sz42 : szT Tryz.prog 42 = some 5 := by kernel_rfl
theorem vzl42 : vzl Tryz.prog 42 = some [.lit (.slice none 0 0), .lit (.int .i64 0), .lit (.int .i64 0), .lit (.int .i64 0), .lit (.int .i64 0)] := by kernel_rfl
theorem zauy {H : Nat → Option VObj} {cs : List VV} : vfieldAddr Tryz.prog H 42 (.tp cs) 0 = some (.tp (cs.drop 0)) := by
 have h2 : szT Tryz.prog 40 = some 1 := by kernel_rfl
 simp [vfieldAddr, Tryz.underlying42, h2]
theorem zaua {H : Nat → Option VObj} {β o : Nat} : vfieldAddr Tryz.prog H 42 (.ptr β o) 0 = if (H β).isSome = true then some (.ptr β (o + 0)) else none := by
 have h2 : szT Tryz.prog 40 = some 1 := by kernel_rfl
 simp [vfieldAddr, Tryz.underlying42, h2]
theorem zatu {c0 c1 c2 c3 c4 : VV} : vfield Tryz.prog 42 (.agg [c0, c1, c2, c3, c4]) 0 = some (c0) := by
 have h1 : aggT Tryz.prog 40 = some false := by kernel_rfl
 have h2 : szT Tryz.prog 40 = some 1 := by kernel_rfl
 simp [vfield, Tryz.underlying42, vpart, h1, h2]
theorem zasj {H : Nat → Option VObj} {cs : List VV} : vfieldAddr Tryz.prog H 42 (.tp cs) 1 = some (.tp (cs.drop 1)) := by
 have h2 : szT Tryz.prog 3 = some 1 := by kernel_rfl
 simp [vfieldAddr, Tryz.underlying42, h2]
theorem zatl {H : Nat → Option VObj} {β o : Nat} : vfieldAddr Tryz.prog H 42 (.ptr β o) 1 = if (H β).isSome = true then some (.ptr β (o + 1)) else none := by
 have h2 : szT Tryz.prog 3 = some 1 := by kernel_rfl
 simp [vfieldAddr, Tryz.underlying42, h2]
theorem zatm {c0 c1 c2 c3 c4 : VV} : vfield Tryz.prog 42 (.agg [c0, c1, c2, c3, c4]) 1 = some (c1) := by
 have h1 : aggT Tryz.prog 3 = some false := by kernel_rfl
 have h2 : szT Tryz.prog 3 = some 1 := by kernel_rfl
 simp [vfield, Tryz.underlying42, vpart, h1, h2]
theorem zasw {H : Nat → Option VObj} {cs : List VV} : vfieldAddr Tryz.prog H 42 (.tp cs) 2 = some (.tp (cs.drop 2)) := by
 have h2 : szT Tryz.prog 22 = some 3 := by kernel_rfl
 simp [vfieldAddr, Tryz.underlying42, h2]
theorem zasd {H : Nat → Option VObj} {β o : Nat} : vfieldAddr Tryz.prog H 42 (.ptr β o) 2 = if (H β).isSome = true then some (.ptr β (o + 2)) else none := by
 have h2 : szT Tryz.prog 22 = some 3 := by kernel_rfl
 simp [vfieldAddr, Tryz.underlying42, h2]
theorem zass {c0 c1 c2 c3 c4 : VV} : vfield Tryz.prog 42 (.agg [c0, c1, c2, c3, c4]) 2 = some (.agg [c2, c3, c4]) := by
 have h1 : aggT Tryz.prog 22 = some true := by kernel_rfl
 have h2 : szT Tryz.prog 22 = some 3 := by kernel_rfl
 simp [vfield, Tryz.underlying42, vpart, h1, h2]
theorem ld47 {c : VV} {cs : List VV} : vload Tryz.prog 47 (c :: cs) = some c := by
 have h1 : aggT Tryz.prog 47 = some false := by kernel_rfl
 simp [vload, vpart, h1]
theorem sz47 : szT Tryz.prog 47 = some 1 := by kernel_rfl
theorem vzl47 : vzl Tryz.prog 47 = some [.lit (.int .i64 0)] := by kernel_rfl
theorem ld89 {c0 c1 c2 c3 c4 c5 c6 c7 c8 c9 c10 c11 c12 c13 : VV} {cs : List VV} : vload Tryz.prog 89 (c0 :: c1 :: c2 :: c3 :: c4 :: c5 :: c6 :: c7 :: c8 :: c9 :: c10 :: c11 :: c12 :: c13 :: cs) = some (.agg [c0, c1, c2, c3, c4, c5, c6, c7, c8, c9, c10, c11, c12, c13]) := by
 have h1 : aggT Tryz.prog 89 = some true := by kernel_rfl
 have h2 : szT Tryz.prog 89 = some 14 := by kernel_rfl
 simp [vload, vpart, h1, h2]
theorem sz89 : szT Tryz.prog 89 = some 14 := by kernel_rfl
theorem vzl89 : vzl Tryz.prog 89 = some [.lit (.int .i64 0), .lit (.int .i64 0), .lit (.int .i64 0), .lit (.int .i64 0), .lit (.int .i64 0), .lit (.int .i64 0), .lit (.int .i64 0), .lit (.int .i64 0), .lit (.int .i64 0), .lit (.int .i64 0), .lit (.int .i64 0), .lit (.int .i64 0), .lit (.slice none 0 0), .lit (.slice none 0 0)] := by kernel_rfl
theorem zaui {H : Nat → Option VObj} {cs : List VV} : vfieldAddr Tryz.prog H 89 (.tp cs) 0 = some (.tp (cs.drop 0)) := by
 have h2 : szT Tryz.prog 28 = some 13 := by kernel_rfl
 simp [vfieldAddr, Tryz.underlying89, h2]
theorem zavy {H : Nat → Option VObj} {β o : Nat} : vfieldAddr Tryz.prog H 89 (.ptr β o) 0 = if (H β).isSome = true then some (.ptr β (o + 0)) else none := by
 have h2 : szT Tryz.prog 28 = some 13 := by kernel_rfl
 simp [vfieldAddr, Tryz.underlying89, h2]
theorem zasl {c0 c1 c2 c3 c4 c5 c6 c7 c8 c9 c10 c11 c12 c13 : VV} : vfield Tryz.prog 89 (.agg [c0, c1, c2, c3, c4, c5, c6, c7, c8, c9, c10, c11, c12, c13]) 0 = some (.agg [c0, c1, c2, c3, c4, c5, c6, c7, c8, c9, c10, c11, c12]) := by
 have h1 : aggT Tryz.prog 28 = some true := by kernel_rfl
 have h2 : szT Tryz.prog 28 = some 13 := by kernel_rfl
 simp [vfield, Tryz.underlying89, vpart, h1, h2]
theorem zasn {H : Nat → Option VObj} {cs : List VV} : vfieldAddr Tryz.prog H 89 (.tp cs) 1 = some (.tp (cs.drop 13)) := by
 have h2 : szT Tryz.prog 29 = some 1 := by kernel_rfl
 simp [vfieldAddr, Tryz.underlying89, h2]
theorem zasb {H : Nat → Option VObj} {β o : Nat} : vfieldAddr Tryz.prog H 89 (.ptr β o) 1 = if (H β).isSome = true then some (.ptr β (o + 13)) else none := by
 have h2 : szT Tryz.prog 29 = some 1 := by kernel_rfl
 simp [vfieldAddr, Tryz.underlying89, h2]
theorem zaup {c0 c1 c2 c3 c4 c5 c6 c7 c8 c9 c10 c11 c12 c13 : VV} : vfield Tryz.prog 89 (.agg [c0, c1, c2, c3, c4, c5, c6, c7, c8, c9, c10, c11, c12, c13]) 1 = some (c13) := by
 have h1 : aggT Tryz.prog 29 = some false := by kernel_rfl
 have h2 : szT Tryz.prog 29 = some 1 := by kernel_rfl
 simp [vfield, Tryz.underlying89, vpart, h1, h2]
theorem ld94 {c0 c1 c2 c3 c4 c5 : VV} {cs : List VV} : vload Tryz.prog 94 (c0 :: c1 :: c2 :: c3 :: c4 :: c5 :: cs) = some (.agg [c0, c1, c2, c3, c4, c5]) := by
 have h1 : aggT Tryz.prog 94 = some true := by kernel_rfl
 have h2 : szT Tryz.prog 94 = some 6 := by kernel_rfl
 simp [vload, vpart, h1, h2]
theorem sz94 : szT Tryz.prog 94 = some 6 := by kernel_rfl
theorem vzl94 : vzl Tryz.prog 94 = some [.lit (.int .i64 0), .lit (.int .i64 0), .lit (.int .i64 0), .lit (.int .i64 0), .lit (.int .i64 0), .lit (.int .i64 0)] := by kernel_rfl
theorem zasc {H : Nat → Option VObj} {cs : List VV} : vfieldAddr Tryz.prog H 94 (.tp cs) 0 = some (.tp (cs.drop 0)) := by
 have h2 : szT Tryz.prog 25 = some 6 := by kernel_rfl
 simp [vfieldAddr, Tryz.underlying94, h2]
theorem zaue {H : Nat → Option VObj} {β o : Nat} : vfieldAddr Tryz.prog H 94 (.ptr β o) 0 = if (H β).isSome = true then some (.ptr β (o + 0)) else none := by
 have h2 : szT Tryz.prog 25 = some 6 := by kernel_rfl
 simp [vfieldAddr, Tryz.underlying94, h2]
theorem zaug {c0 c1 c2 c3 c4 c5 : VV} : vfield Tryz.prog 94 (.agg [c0, c1, c2, c3, c4, c5]) 0 = some (.agg [c0, c1, c2, c3, c4, c5]) := by
 have h1 : aggT Tryz.prog 25 = some true := by kernel_rfl
 have h2 : szT Tryz.prog 25 = some 6 := by kernel_rfl
 simp [vfield, Tryz.underlying94, vpart, h1, h2]
theorem ld99 {c0 c1 c2 : VV} {cs : List VV} : vload Tryz.prog 99 (c0 :: c1 :: c2 :: cs) = some (.agg [c0, c1, c2]) := by
 have h1 : aggT Tryz.prog 99 = some true := by kernel_rfl
 have h2 : szT Tryz.prog 99 = some 3 := by kernel_rfl
 simp [vload, vpart, h1, h2]
theorem sz99 : szT Tryz.prog 99 = some 3 := by kernel_rfl
theorem vzl99 : vzl Tryz.prog 99 = some [.lit (.int .i64 0), .lit (.int .i64 0), .lit (.int .i64 0)] := by kernel_rfl
theorem zatq {H : Nat → Option VObj} {β o : Nat} {k : IntKind} : vindexAddr Tryz.prog H 99 (.ptr β o) (.lit (.int k (0 : Int))) = if (H β).isSome = true then some (.ptr β (o + 0)) else none := by
 have h2 : szT Tryz.prog 3 = some 1 := by kernel_rfl
 simp [vindexAddr, Tryz.underlying99, h2]
theorem zavj {H : Nat → Option VObj} {cs : List VV} {k : IntKind} : vindexAddr Tryz.prog H 99 (.tp cs) (.lit (.int k (0 : Int))) = some (.tp (cs.drop 0)) := by
 have h2 : szT Tryz.prog 3 = some 1 := by kernel_rfl
 simp [vindexAddr, Tryz.underlying99, h2]
theorem zatz {c0 c1 c2 : VV} {k : IntKind} : vindex Tryz.prog 99 (.agg [c0, c1, c2]) (.lit (.int k (0 : Int))) = some (c0) := by
 have h1 : aggT Tryz.prog 3 = some false := by kernel_rfl
 have h2 : szT Tryz.prog 3 = some 1 := by kernel_rfl
 simp [vindex, Tryz.underlying99, vpart, h1, h2]
theorem zaur {H : Nat → Option VObj} {β o : Nat} {k : IntKind} : vindexAddr Tryz.prog H 99 (.ptr β o) (.lit (.int k (1 : Int))) = if (H β).isSome = true then some (.ptr β (o + 1)) else none := by
 have h2 : szT Tryz.prog 3 = some 1 := by kernel_rfl
 simp [vindexAddr, Tryz.underlying99, h2]
theorem zasx {H : Nat → Option VObj} {cs : List VV} {k : IntKind} : vindexAddr Tryz.prog H 99 (.tp cs) (.lit (.int k (1 : Int))) = some (.tp (cs.drop 1)) := by
 have h2 : szT Tryz.prog 3 = some 1 := by kernel_rfl
 simp [vindexAddr, Tryz.underlying99, h2]
theorem zarx {c0 c1 c2 : VV} {k : IntKind} : vindex Tryz.prog 99 (.agg [c0, c1, c2]) (.lit (.int k (1 : Int))) = some (c1) := by
 have h1 : aggT Tryz.prog 3 = some false := by kernel_rfl
 have h2 : szT Tryz.prog 3 = some 1 := by kernel_rfl
 simp [vindex, Tryz.underlying99, vpart, h1, h2]
theorem zatb {H : Nat → Option VObj} {β o : Nat} {k : IntKind} : vindexAddr Tryz.prog H 99 (.ptr β o) (.lit (.int k (2 : Int))) = if (H β).isSome = true then some (.ptr β (o + 2)) else none := by
 have h2 : szT Tryz.prog 3 = some 1 := by kernel_rfl
 simp [vindexAddr, Tryz.underlying99, h2]
theorem zavx {H : Nat → Option VObj} {cs : List VV} {k : IntKind} : vindexAddr Tryz.prog H 99 (.tp cs) (.lit (.int k (2 : Int))) = some (.tp (cs.drop 2)) := by
 have h2 : szT Tryz.prog 3 = some 1 := by kernel_rfl
 simp [vindexAddr, Tryz.underlying99, h2]
theorem zati {c0 c1 c2 : VV} {k : IntKind} : vindex Tryz.prog 99 (.agg [c0, c1, c2]) (.lit (.int k (2 : Int))) = some (c2) := by
 have h1 : aggT Tryz.prog 3 = some false := by kernel_rfl
 have h2 : szT Tryz.prog 3 = some 1 := by kernel_rfl
 simp [vindex, Tryz.underlying99, vpart, h1, h2]
theorem ld106 {c : VV} {cs : List VV} : vload Tryz.prog 106 (c :: cs) = some c := by
 have h1 : aggT Tryz.prog 106 = some false := by kernel_rfl
 simp [vload, vpart, h1]
theorem sz106 : szT Tryz.prog 106 = some 1 := by kernel_rfl
theorem vzl106 : vzl Tryz.prog 106 = some [.lit (.slice none 0 0)] := by kernel_rfl
theorem len106 {H : Nat → Option VObj} {cs : List VV} {n : Nat} {f : Bool} : vlen Tryz.prog H 106 (.sl cs n f) = some (.lit (.int .i64 n)) := by simp [vlen, Tryz.underlying106, sls]
theorem lenN106 {H : Nat → Option VObj} : vlen Tryz.prog H 106 (.lit (.slice none 0 0)) = some (.lit (.int .i64 0)) := by simp [vlen, Tryz.underlying106, sls]
theorem lenR106 {H : Nat → Option VObj} {β off n w c : Nat} : vlen Tryz.prog H 106 (.ref β off n w c) = (match H β with | some (.cells _ cs) => if off ≤ cs.length then some (.lit (.int .i64 n)) else none | _ => none) := lenR Tryz.underlying106
theorem et106 : elemT Tryz.prog 106 = some 29 := by simp [elemT, Tryz.underlying106]
theorem tk106 {xs : List (List Int)} : (cellsL (eSl eI) xs).take (xs.length * 1) = cellsL (eSl eI) xs := zjf (fun _ => rfl)
theorem zapa {a0 : VV} (h : leafL [a0] = true) : vbuildSlice Tryz.prog 106 1 [(0, a0)] = some ([a0], 1) := by
 have h2 : szT Tryz.prog 29 = some 1 := by kernel_rfl
 have h3 : vzero Tryz.prog 29 = some #[.slice none 0 0] := by kernel_rfl
 simp only [zbj, zbu, Bool.and_true, Bool.and_eq_true] at h
 simp [vbuildSlice, Tryz.underlying106, h2, h3, vfill, vcells1, h, overwrite, vzeros, List.range_succ]
theorem zapl {a0 a1 : VV} (h : leafL [a0, a1] = true) : vbuildSlice Tryz.prog 106 2 [(0, a0), (1, a1)] = some ([a0, a1], 1) := by
 have h2 : szT Tryz.prog 29 = some 1 := by kernel_rfl
 have h3 : vzero Tryz.prog 29 = some #[.slice none 0 0] := by kernel_rfl
 simp only [zbj, zbu, Bool.and_true, Bool.and_eq_true] at h
 simp [vbuildSlice, Tryz.underlying106, h2, h3, vfill, vcells1, h, overwrite, vzeros, List.range_succ]
theorem zanz {a0 a1 a2 : VV} (h : leafL [a0, a1, a2] = true) : vbuildSlice Tryz.prog 106 3 [(0, a0), (1, a1), (2, a2)] = some ([a0, a1, a2], 1) := by
 have h2 : szT Tryz.prog 29 = some 1 := by kernel_rfl
 have h3 : vzero Tryz.prog 29 = some #[.slice none 0 0] := by kernel_rfl
 simp only [zbj, zbu, Bool.and_true, Bool.and_eq_true] at h
 simp [vbuildSlice, Tryz.underlying106, h2, h3, vfill, vcells1, h, overwrite, vzeros, List.range_succ]
theorem ld121 {c : VV} {cs : List VV} : vload Tryz.prog 121 (c :: cs) = some c := by
 have h1 : aggT Tryz.prog 121 = some false := by kernel_rfl
 simp [vload, vpart, h1]
theorem sz121 : szT Tryz.prog 121 = some 1 := by kernel_rfl
theorem vzl121 : vzl Tryz.prog 121 = some [.lit (.slice none 0 0)] := by kernel_rfl
theorem len121 {H : Nat → Option VObj} {cs : List VV} {n : Nat} {f : Bool} : vlen Tryz.prog H 121 (.sl cs n f) = some (.lit (.int .i64 n)) := by simp [vlen, Tryz.underlying121, sls]
theorem lenN121 {H : Nat → Option VObj} : vlen Tryz.prog H 121 (.lit (.slice none 0 0)) = some (.lit (.int .i64 0)) := by simp [vlen, Tryz.underlying121, sls]
theorem lenR121 {H : Nat → Option VObj} {β off n w c : Nat} : vlen Tryz.prog H 121 (.ref β off n w c) = (match H β with | some (.cells _ cs) => if off ≤ cs.length then some (.lit (.int .i64 n)) else none | _ => none) := lenR Tryz.underlying121
theorem et121 : elemT Tryz.prog 121 = some 24 := by simp [elemT, Tryz.underlying121]
theorem tk121 {xs : List GSpan} : (cellsL cGSpan xs).take (xs.length * 2) = cellsL cGSpan xs := zjf (fun _ => rfl)
theorem zapg {c0 c1 : VV} (h : leafL [c0, c1] = true) : vbuildSlice Tryz.prog 121 1 [(0, .agg [c0, c1])] = some ([c0, c1], 2) := by
 have h2 : szT Tryz.prog 24 = some 2 := by kernel_rfl
 have h3 : vzero Tryz.prog 24 = some #[.int .i64 0, .int .i64 0] := by kernel_rfl
 simp only [zbj, zbu, Bool.and_true, Bool.and_eq_true] at h
 simp [vbuildSlice, Tryz.underlying121, h2, h3, vfill, vcells, h, overwrite, vzeros]
theorem ix121 {H : Nat → Option VObj} {xs : List GSpan} {x : GSpan} {f : Bool} {k : IntKind} {i : Int} (h : getI xs i = some x) : vindexAddr Tryz.prog H 121 (.sl (cellsL cGSpan xs) xs.length f) (.lit (.int k i)) = some (.tp (cGSpan x ++ cellsL cGSpan (xs.drop (i.toNat + 1)))) :=
 ixG Tryz.underlying121 (by kernel_rfl : szT Tryz.prog 24 = some 2) (by decide) (fun _ => rfl) h
theorem ld138 {c0 c1 : VV} {cs : List VV} : vload Tryz.prog 138 (c0 :: c1 :: cs) = some (.agg [c0, c1]) := by
 have h1 : aggT Tryz.prog 138 = some true := by kernel_rfl
 have h2 : szT Tryz.prog 138 = some 2 := by kernel_rfl
 simp [vload, vpart, h1, h2]
theorem sz138 : szT Tryz.prog 138 = some 2 := by kernel_rfl
theorem vzl138 : vzl Tryz.prog 138 = some [.lit (.int .i64 0), .lit (.int .i64 0)] := by kernel_rfl
theorem zaqe {H : Nat → Option VObj} {cs : List VV} : vfieldAddr Tryz.prog H 138 (.tp cs) 0 = some (.tp (cs.drop 0)) := by
 have h2 : szT Tryz.prog 3 = some 1 := by kernel_rfl
 simp [vfieldAddr, Tryz.underlying138, h2]
theorem zapo {H : Nat → Option VObj} {β o : Nat} : vfieldAddr Tryz.prog H 138 (.ptr β o) 0 = if (H β).isSome = true then some (.ptr β (o + 0)) else none := by
 have h2 : szT Tryz.prog 3 = some 1 := by kernel_rfl
 simp [vfieldAddr, Tryz.underlying138, h2]
theorem zaoo {c0 c1 : VV} : vfield Tryz.prog 138 (.agg [c0, c1]) 0 = some (c0) := by
 have h1 : aggT Tryz.prog 3 = some false := by kernel_rfl
 have h2 : szT Tryz.prog 3 = some 1 := by kernel_rfl
 simp [vfield, Tryz.underlying138, vpart, h1, h2]
theorem zapj {H : Nat → Option VObj} {cs : List VV} : vfieldAddr Tryz.prog H 138 (.tp cs) 1 = some (.tp (cs.drop 1)) := by
 have h2 : szT Tryz.prog 3 = some 1 := by kernel_rfl
 simp [vfieldAddr, Tryz.underlying138, h2]
theorem zaqw {H : Nat → Option VObj} {β o : Nat} : vfieldAddr Tryz.prog H 138 (.ptr β o) 1 = if (H β).isSome = true then some (.ptr β (o + 1)) else none := by
 have h2 : szT Tryz.prog 3 = some 1 := by kernel_rfl
 simp [vfieldAddr, Tryz.underlying138, h2]
theorem zaof {c0 c1 : VV} : vfield Tryz.prog 138 (.agg [c0, c1]) 1 = some (c1) := by
 have h1 : aggT Tryz.prog 3 = some false := by kernel_rfl
 have h2 : szT Tryz.prog 3 = some 1 := by kernel_rfl
 simp [vfield, Tryz.underlying138, vpart, h1, h2]
theorem sz1 : szT Tryz.prog 1 = some 1 := by kernel_rfl
theorem ld1 {c : VV} {cs : List VV} : vload Tryz.prog 1 (c :: cs) = some c := by
 have h1 : aggT Tryz.prog 1 = some false := by kernel_rfl
 simp [vload, vpart, h1]
theorem vzl1 : vzl Tryz.prog 1 = some [.lit .nilFunc] := by kernel_rfl
theorem sz103 : szT Tryz.prog 103 = some 1 := by kernel_rfl
theorem ld103 {c : VV} {cs : List VV} : vload Tryz.prog 103 (c :: cs) = some c := by
 have h1 : aggT Tryz.prog 103 = some false := by kernel_rfl
 simp [vload, vpart, h1]
theorem vzl103 : vzl Tryz.prog 103 = some [.lit .nilFunc] := by kernel_rfl
theorem sz104 : szT Tryz.prog 104 = some 1 := by kernel_rfl
theorem ld104 {c : VV} {cs : List VV} : vload Tryz.prog 104 (c :: cs) = some c := by
 have h1 : aggT Tryz.prog 104 = some false := by kernel_rfl
 simp [vload, vpart, h1]
theorem vzl104 : vzl Tryz.prog 104 = some [.lit .nilFunc] := by kernel_rfl
theorem sz111 : szT Tryz.prog 111 = some 1 := by kernel_rfl
theorem ld111 {c : VV} {cs : List VV} : vload Tryz.prog 111 (c :: cs) = some c := by
 have h1 : aggT Tryz.prog 111 = some false := by kernel_rfl
 simp [vload, vpart, h1]
theorem vzl111 : vzl Tryz.prog 111 = some [.lit .nilFunc] := by kernel_rfl
theorem sz126 : szT Tryz.prog 126 = some 1 := by kernel_rfl
theorem ld126 {c : VV} {cs : List VV} : vload Tryz.prog 126 (c :: cs) = some c := by
 have h1 : aggT Tryz.prog 126 = some false := by kernel_rfl
 simp [vload, vpart, h1]
theorem vzl126 : vzl Tryz.prog 126 = some [.lit .nilFunc] := by kernel_rfl
theorem sz140 : szT Tryz.prog 140 = some 1 := by kernel_rfl
theorem ld140 {c : VV} {cs : List VV} : vload Tryz.prog 140 (c :: cs) = some c := by
 have h1 : aggT Tryz.prog 140 = some false := by kernel_rfl
 simp [vload, vpart, h1]
theorem vzl140 : vzl Tryz.prog 140 = some [.lit .nilFunc] := by kernel_rfl
theorem sz144 : szT Tryz.prog 144 = some 1 := by kernel_rfl
theorem ld144 {c : VV} {cs : List VV} : vload Tryz.prog 144 (c :: cs) = some c := by
 have h1 : aggT Tryz.prog 144 = some false := by kernel_rfl
 simp [vload, vpart, h1]
theorem vzl144 : vzl Tryz.prog 144 = some [.lit .nilFunc] := by kernel_rfl
theorem sz146 : szT Tryz.prog 146 = some 1 := by kernel_rfl
theorem ld146 {c : VV} {cs : List VV} : vload Tryz.prog 146 (c :: cs) = some c := by
 have h1 : aggT Tryz.prog 146 = some false := by kernel_rfl
 simp [vload, vpart, h1]
theorem vzl146 : vzl Tryz.prog 146 = some [.lit .nilFunc] := by kernel_rfl
theorem sz147 : szT Tryz.prog 147 = some 1 := by kernel_rfl
theorem ld147 {c : VV} {cs : List VV} : vload Tryz.prog 147 (c :: cs) = some c := by
 have h1 : aggT Tryz.prog 147 = some false := by kernel_rfl
 simp [vload, vpart, h1]
theorem vzl147 : vzl Tryz.prog 147 = some [.lit .nilFunc] := by kernel_rfl
theorem sz162 : szT Tryz.prog 162 = some 1 := by kernel_rfl
theorem ld162 {c : VV} {cs : List VV} : vload Tryz.prog 162 (c :: cs) = some c := by
 have h1 : aggT Tryz.prog 162 = some false := by kernel_rfl
 simp [vload, vpart, h1]
theorem vzl162 : vzl Tryz.prog 162 = some [.lit .nilFunc] := by kernel_rfl
theorem sz163 : szT Tryz.prog 163 = some 1 := by kernel_rfl
theorem ld163 {c : VV} {cs : List VV} : vload Tryz.prog 163 (c :: cs) = some c := by
 have h1 : aggT Tryz.prog 163 = some false := by kernel_rfl
 simp [vload, vpart, h1]
theorem vzl163 : vzl Tryz.prog 163 = some [.lit .nilFunc] := by kernel_rfl
theorem sz184 : szT Tryz.prog 184 = some 1 := by kernel_rfl
theorem ld184 {c : VV} {cs : List VV} : vload Tryz.prog 184 (c :: cs) = some c := by
 have h1 : aggT Tryz.prog 184 = some false := by kernel_rfl
 simp [vload, vpart, h1]
theorem vzl184 : vzl Tryz.prog 184 = some [.lit .nilFunc] := by kernel_rfl
theorem sz127 : szT Tryz.prog 127 = some 2 := by kernel_rfl
theorem vzl127 : vzl Tryz.prog 127 = some [.lit .nilFunc, .lit .nilFunc] := by kernel_rfl
theorem ld127 {c0 c1 : VV} {cs : List VV} : vload Tryz.prog 127 (c0 :: c1 :: cs) = some (.agg [c0, c1]) := by
 have h1 : aggT Tryz.prog 127 = some true := by kernel_rfl
 have h2 : szT Tryz.prog 127 = some 2 := by kernel_rfl
 simp [vload, vpart, h1, h2]
theorem zarn {c0 c1 : VV} {k : IntKind} : vindex Tryz.prog 127 (.agg [c0, c1]) (.lit (.int k 0)) = some c0 := by
 have h1 : aggT Tryz.prog 126 = some false := by kernel_rfl
 have h2 : szT Tryz.prog 126 = some 1 := by kernel_rfl
 simp [vindex, Tryz.underlying127, vpart, h1, h2]
theorem zare {H : Nat → Option VObj} {β o : Nat} {k : IntKind} : vindexAddr Tryz.prog H 127 (.ptr β o) (.lit (.int k 0)) = if (H β).isSome = true then some (.ptr β (o + 0)) else none := by
 have h2 : szT Tryz.prog 126 = some 1 := by kernel_rfl
 simp [vindexAddr, Tryz.underlying127, h2]
theorem zapw {c0 c1 : VV} {k : IntKind} : vindex Tryz.prog 127 (.agg [c0, c1]) (.lit (.int k 1)) = some c1 := by
 have h1 : aggT Tryz.prog 126 = some false := by kernel_rfl
 have h2 : szT Tryz.prog 126 = some 1 := by kernel_rfl
 simp [vindex, Tryz.underlying127, vpart, h1, h2]
theorem zaqu {H : Nat → Option VObj} {β o : Nat} {k : IntKind} : vindexAddr Tryz.prog H 127 (.ptr β o) (.lit (.int k 1)) = if (H β).isSome = true then some (.ptr β (o + 1)) else none := by
 have h2 : szT Tryz.prog 126 = some 1 := by kernel_rfl
 simp [vindexAddr, Tryz.underlying127, h2]
theorem vb22 : vbuild Tryz.prog 22 [] = some (.agg [.lit (.int .i64 0), .lit (.int .i64 0), .lit (.int .i64 0)]) := by
 rw [zes vzl22 (by kernel_rfl)]
 rfl
theorem zaeq {x0_0 x1_0 x2_0 : VV} (h : leafL [x0_0, x1_0, x2_0] = true) : vbuild Tryz.prog 22 [(0, x0_0), (1, x1_0), (2, x2_0)] = some (.agg [x0_0, x1_0, x2_0]) := by
 have p0 : placeT Tryz.prog 22 0 = some (0, 1) := by kernel_rfl
 have p1 : placeT Tryz.prog 22 1 = some (1, 1) := by kernel_rfl
 have p2 : placeT Tryz.prog 22 2 = some (2, 1) := by kernel_rfl
 simp only [zbj, zbu, Bool.and_true, Bool.and_eq_true] at h
 rw [zes vzl22 (by kernel_rfl)]
 simp [vfill, p0, p1, p2, vcells1, h, overwrite]
theorem vb24 : vbuild Tryz.prog 24 [] = some (.agg [.lit (.int .i64 0), .lit (.int .i64 0)]) := by
 rw [zes vzl24 (by kernel_rfl)]
 rfl
theorem zamf {x0_0 x1_0 : VV} (h : leafL [x0_0, x1_0] = true) : vbuild Tryz.prog 24 [(0, x0_0), (1, x1_0)] = some (.agg [x0_0, x1_0]) := by
 have p0 : placeT Tryz.prog 24 0 = some (0, 1) := by kernel_rfl
 have p1 : placeT Tryz.prog 24 1 = some (1, 1) := by kernel_rfl
 simp only [zbj, zbu, Bool.and_true, Bool.and_eq_true] at h
 rw [zes vzl24 (by kernel_rfl)]
 simp [vfill, p0, p1, vcells1, h, overwrite]
theorem vb25 : vbuild Tryz.prog 25 [] = some (.agg [.lit (.int .i64 0), .lit (.int .i64 0), .lit (.int .i64 0), .lit (.int .i64 0), .lit (.int .i64 0), .lit (.int .i64 0)]) := by
 rw [zes vzl25 (by kernel_rfl)]
 rfl
theorem zaem {x0_0 x0_1 x1_0 x1_1 x2_0 x2_1 : VV} (h : leafL [x0_0, x0_1, x1_0, x1_1, x2_0, x2_1] = true) : vbuild Tryz.prog 25 [(0, .agg [x0_0, x0_1]), (1, .agg [x1_0, x1_1]), (2, .agg [x2_0, x2_1])] = some (.agg [x0_0, x0_1, x1_0, x1_1, x2_0, x2_1]) := by
 have p0 : placeT Tryz.prog 25 0 = some (0, 2) := by kernel_rfl
 have p1 : placeT Tryz.prog 25 1 = some (2, 2) := by kernel_rfl
 have p2 : placeT Tryz.prog 25 2 = some (4, 2) := by kernel_rfl
 simp only [zbj, zbu, Bool.and_true, Bool.and_eq_true] at h
 have q0 : vcells (.agg [x0_0, x0_1]) = some [x0_0, x0_1] := by rw [zhd]; simp [zbj, zbu, h]
 have q1 : vcells (.agg [x1_0, x1_1]) = some [x1_0, x1_1] := by rw [zhd]; simp [zbj, zbu, h]
 have q2 : vcells (.agg [x2_0, x2_1]) = some [x2_0, x2_1] := by rw [zhd]; simp [zbj, zbu, h]
 rw [zes vzl25 (by kernel_rfl)]
 simp [vfill, p0, p1, p2, vcells1, h, overwrite, q0, q1, q2]
theorem zacw {x0_0 x1_0 x2_0 x2_1 x2_2 : VV} (h : leafL [x0_0, x1_0, x2_0, x2_1, x2_2] = true) : vbuild Tryz.prog 42 [(0, x0_0), (1, x1_0), (2, .agg [x2_0, x2_1, x2_2])] = some (.agg [x0_0, x1_0, x2_0, x2_1, x2_2]) := by
 have p0 : placeT Tryz.prog 42 0 = some (0, 1) := by kernel_rfl
 have p1 : placeT Tryz.prog 42 1 = some (1, 1) := by kernel_rfl
 have p2 : placeT Tryz.prog 42 2 = some (2, 3) := by kernel_rfl
 simp only [zbj, zbu, Bool.and_true, Bool.and_eq_true] at h
 have q2 : vcells (.agg [x2_0, x2_1, x2_2]) = some [x2_0, x2_1, x2_2] := by rw [zhd]; simp [zbj, zbu, h]
 rw [zes vzl42 (by kernel_rfl)]
 simp [vfill, p0, p1, p2, vcells1, h, overwrite, q2]
theorem zatv {x1_0 : VV} (h : leafL [x1_0] = true) : vbuild Tryz.prog 42 [(1, x1_0)] = some (.agg [.lit (.slice none 0 0), x1_0, .lit (.int .i64 0), .lit (.int .i64 0), .lit (.int .i64 0)]) := by
 have p1 : placeT Tryz.prog 42 1 = some (1, 1) := by kernel_rfl
 simp only [zbj, zbu, Bool.and_true, Bool.and_eq_true] at h
 rw [zes vzl42 (by kernel_rfl)]
 simp [vfill, p1, vcells1, h, overwrite]
theorem zakl {x0_0 x0_1 x0_2 x0_3 x0_4 x0_5 x0_6 x0_7 x0_8 x0_9 x0_10 x0_11 x0_12 x1_0 : VV} (h : leafL [x0_0, x0_1, x0_2, x0_3, x0_4, x0_5, x0_6, x0_7, x0_8, x0_9, x0_10, x0_11, x0_12, x1_0] = true) : vbuild Tryz.prog 89 [(0, .agg [x0_0, x0_1, x0_2, x0_3, x0_4, x0_5, x0_6, x0_7, x0_8, x0_9, x0_10, x0_11, x0_12]), (1, x1_0)] = some (.agg [x0_0, x0_1, x0_2, x0_3, x0_4, x0_5, x0_6, x0_7, x0_8, x0_9, x0_10, x0_11, x0_12, x1_0]) := by
 have p0 : placeT Tryz.prog 89 0 = some (0, 13) := by kernel_rfl
 have p1 : placeT Tryz.prog 89 1 = some (13, 1) := by kernel_rfl
 simp only [zbj, zbu, Bool.and_true, Bool.and_eq_true] at h
 have q0 : vcells (.agg [x0_0, x0_1, x0_2, x0_3, x0_4, x0_5, x0_6, x0_7, x0_8, x0_9, x0_10, x0_11, x0_12]) = some [x0_0, x0_1, x0_2, x0_3, x0_4, x0_5, x0_6, x0_7, x0_8, x0_9, x0_10, x0_11, x0_12] := by rw [zhd]; simp [zbj, zbu, h]
 rw [zes vzl89 (by kernel_rfl)]
 simp [vfill, p0, p1, vcells1, h, overwrite, q0]
theorem zavr {x0_0 x0_1 x0_2 x0_3 x0_4 x0_5 : VV} (h : leafL [x0_0, x0_1, x0_2, x0_3, x0_4, x0_5] = true) : vbuild Tryz.prog 94 [(0, .agg [x0_0, x0_1, x0_2, x0_3, x0_4, x0_5])] = some (.agg [x0_0, x0_1, x0_2, x0_3, x0_4, x0_5]) := by
 have p0 : placeT Tryz.prog 94 0 = some (0, 6) := by kernel_rfl
 simp only [zbj, zbu, Bool.and_true, Bool.and_eq_true] at h
 have q0 : vcells (.agg [x0_0, x0_1, x0_2, x0_3, x0_4, x0_5]) = some [x0_0, x0_1, x0_2, x0_3, x0_4, x0_5] := by rw [zhd]; simp [zbj, zbu, h]
 rw [zes vzl94 (by kernel_rfl)]
 simp [vfill, p0, vcells1, h, overwrite, q0]
theorem vb99 : vbuild Tryz.prog 99 [] = some (.agg [.lit (.int .i64 0), .lit (.int .i64 0), .lit (.int .i64 0)]) := by
 rw [zes vzl99 (by kernel_rfl)]
 rfl
theorem zafe {x0_0 x1_0 x2_0 : VV} (h : leafL [x0_0, x1_0, x2_0] = true) : vbuild Tryz.prog 99 [(0, x0_0), (1, x1_0), (2, x2_0)] = some (.agg [x0_0, x1_0, x2_0]) := by
 have p0 : placeT Tryz.prog 99 0 = some (0, 1) := by kernel_rfl
 have p1 : placeT Tryz.prog 99 1 = some (1, 1) := by kernel_rfl
 have p2 : placeT Tryz.prog 99 2 = some (2, 1) := by kernel_rfl
 simp only [zbj, zbu, Bool.and_true, Bool.and_eq_true] at h
 rw [zes vzl99 (by kernel_rfl)]
 simp [vfill, p0, p1, p2, vcells1, h, overwrite]
theorem zagk {x0_0 x1_0 : VV} (h : leafL [x0_0, x1_0] = true) : vbuild Tryz.prog 127 [(0, x0_0), (1, x1_0)] = some (.agg [x0_0, x1_0]) := by
 have p0 : placeT Tryz.prog 127 0 = some (0, 1) := by kernel_rfl
 have p1 : placeT Tryz.prog 127 1 = some (1, 1) := by kernel_rfl
 simp only [zbj, zbu, Bool.and_true, Bool.and_eq_true] at h
 rw [zes vzl127 (by kernel_rfl)]
 simp [vfill, p0, p1, vcells1, h, overwrite]
theorem vb132 : vbuild Tryz.prog 132 [] = some (.agg []) := by kernel_rfl
theorem sz132 : szT Tryz.prog 132 = some 0 := by kernel_rfl
theorem vzl132 : vzl Tryz.prog 132 = some [] := by kernel_rfl
theorem ld132 {cs : List VV} : vload Tryz.prog 132 cs = some (.agg []) := by
 have h1 : aggT Tryz.prog 132 = some true := by kernel_rfl
 have h2 : szT Tryz.prog 132 = some 0 := by kernel_rfl
 simp [vload, vpart, h1, h2]
theorem zafk {x0_0 x1_0 : VV} (h : leafL [x0_0, x1_0] = true) : vbuild Tryz.prog 138 [(0, x0_0), (1, x1_0)] = some (.agg [x0_0, x1_0]) := by
 have p0 : placeT Tryz.prog 138 0 = some (0, 1) := by kernel_rfl
 have p1 : placeT Tryz.prog 138 1 = some (1, 1) := by kernel_rfl
 simp only [zbj, zbu, Bool.and_true, Bool.and_eq_true] at h
 rw [zes vzl138 (by kernel_rfl)]
 simp [vfill, p0, p1, vcells1, h, overwrite]
theorem mi132 {x : VV} : mkIfcV Tryz.prog 132 x = some (.ifc 132 x) := by simp [mkIfcV, Tryz.underlying132]
theorem tz132 : ((Tryz.prog.info? 132).bind (·.zero)).map (fun z => VV.tup [ofVal2 z, .lit (.bool false)]) = some (.tup [.agg [], .lit (.bool false)]) := by kernel_rfl
theorem tn132 : vtypeAssert Tryz.prog (.lit .nilIface) 132 true = some (.tup [.agg [], .lit (.bool false)]) := by
 simp only [vtypeAssert, Tryz.underlying132, if_true]
 exact tz132
theorem tt132 {x : VV} : vtypeAssert Tryz.prog (.ifc 132 x) 132 true = some (.tup [x, .lit (.bool true)]) := by
 simp [vtypeAssert, Tryz.underlying132]
theorem be4 {H : Nat → Option VObj} {x y : Operand} {a b : Bool} : binV Tryz.prog H .eql 4 x y (.lit (.bool a)) (.lit (.bool b)) = some (.lit (.bool (a == b))) := zaqi Tryz.underlying4
theorem bn4 {H : Nat → Option VObj} {x y : Operand} {a b : Bool} : binV Tryz.prog H .neq 4 x y (.lit (.bool a)) (.lit (.bool b)) = some (.lit (.bool (a != b))) := zaoq Tryz.underlying4
theorem sq22 {H : Nat → Option VObj} {x y : Operand} {a0 b0 : Int} {a1 b1 : Int} {a2 b2 : Int} : binV Tryz.prog H .eql 22 x y (.agg [.lit (.int .i64 a0), .lit (.int .i64 a1), .lit (.int .i64 a2)]) (.agg [.lit (.int .i64 b0), .lit (.int .i64 b1), .lit (.int .i64 b2)]) = some (.lit (.bool (a0 == b0 && (a1 == b1 && (a2 == b2))))) ∧ binV Tryz.prog H .neq 22 x y (.agg [.lit (.int .i64 a0), .lit (.int .i64 a1), .lit (.int .i64 a2)]) (.agg [.lit (.int .i64 b0), .lit (.int .i64 b1), .lit (.int .i64 b2)]) = some (.lit (.bool (!(a0 == b0 && (a1 == b1 && (a2 == b2)))))) := by
 have p3 : aggT Tryz.prog 3 = some false := by kernel_rfl
 have z3 : szT Tryz.prog 3 = some 1 := by kernel_rfl
 have p22 : aggT Tryz.prog 22 = some true := by kernel_rfl
 have z22 : szT Tryz.prog 22 = some 3 := by kernel_rfl
 refine binA (xs := [.int .i64 a0, .int .i64 a1, .int .i64 a2]) (ys := [.int .i64 b0, .int .i64 b1, .int .i64 b2]) (by simp [VV.val?, valL?]) (by simp [VV.val?, valL?]) Tryz.underlying22 (by kernel_rfl) ?_
 simp [eqD, eqAs, eqFs, partO, ok1, eq1, List.range', Tryz.underlying3, p3, z3, Tryz.underlying22, p22, z22, Bool.and_assoc]
theorem se22 {H : Nat → Option VObj} {x y : Operand} {a0 b0 : Int} {a1 b1 : Int} {a2 b2 : Int} : binV Tryz.prog H .eql 22 x y (.agg [.lit (.int .i64 a0), .lit (.int .i64 a1), .lit (.int .i64 a2)]) (.agg [.lit (.int .i64 b0), .lit (.int .i64 b1), .lit (.int .i64 b2)]) = some (.lit (.bool (a0 == b0 && (a1 == b1 && (a2 == b2))))) := sq22.1
theorem sn22 {H : Nat → Option VObj} {x y : Operand} {a0 b0 : Int} {a1 b1 : Int} {a2 b2 : Int} : binV Tryz.prog H .neq 22 x y (.agg [.lit (.int .i64 a0), .lit (.int .i64 a1), .lit (.int .i64 a2)]) (.agg [.lit (.int .i64 b0), .lit (.int .i64 b1), .lit (.int .i64 b2)]) = some (.lit (.bool (!(a0 == b0 && (a1 == b1 && (a2 == b2)))))) := sq22.2
theorem sq24 {H : Nat → Option VObj} {x y : Operand} {a0 b0 : Int} {a1 b1 : Int} : binV Tryz.prog H .eql 24 x y (.agg [.lit (.int .i64 a0), .lit (.int .i64 a1)]) (.agg [.lit (.int .i64 b0), .lit (.int .i64 b1)]) = some (.lit (.bool (a0 == b0 && (a1 == b1)))) ∧ binV Tryz.prog H .neq 24 x y (.agg [.lit (.int .i64 a0), .lit (.int .i64 a1)]) (.agg [.lit (.int .i64 b0), .lit (.int .i64 b1)]) = some (.lit (.bool (!(a0 == b0 && (a1 == b1))))) := by
 refine binS (xs := [.int .i64 a0, .int .i64 a1]) (ys := [.int .i64 b0, .int .i64 b1]) (by simp [VV.val?, valL?]) (by simp [VV.val?, valL?]) Tryz.underlying24 (by kernel_rfl) (by kernel_rfl) ?_
 simp [eqF, ok1, eq1, Tryz.underlying3]
theorem se24 {H : Nat → Option VObj} {x y : Operand} {a0 b0 : Int} {a1 b1 : Int} : binV Tryz.prog H .eql 24 x y (.agg [.lit (.int .i64 a0), .lit (.int .i64 a1)]) (.agg [.lit (.int .i64 b0), .lit (.int .i64 b1)]) = some (.lit (.bool (a0 == b0 && (a1 == b1)))) := sq24.1
theorem sn24 {H : Nat → Option VObj} {x y : Operand} {a0 b0 : Int} {a1 b1 : Int} : binV Tryz.prog H .neq 24 x y (.agg [.lit (.int .i64 a0), .lit (.int .i64 a1)]) (.agg [.lit (.int .i64 b0), .lit (.int .i64 b1)]) = some (.lit (.bool (!(a0 == b0 && (a1 == b1))))) := sq24.2
theorem sq25 {H : Nat → Option VObj} {x y : Operand} {a0 b0 : Int} {a1 b1 : Int} {a2 b2 : Int} {a3 b3 : Int} {a4 b4 : Int} {a5 b5 : Int} : binV Tryz.prog H .eql 25 x y (.agg [.lit (.int .i64 a0), .lit (.int .i64 a1), .lit (.int .i64 a2), .lit (.int .i64 a3), .lit (.int .i64 a4), .lit (.int .i64 a5)]) (.agg [.lit (.int .i64 b0), .lit (.int .i64 b1), .lit (.int .i64 b2), .lit (.int .i64 b3), .lit (.int .i64 b4), .lit (.int .i64 b5)]) = some (.lit (.bool (a0 == b0 && (a1 == b1 && (a2 == b2 && (a3 == b3 && (a4 == b4 && (a5 == b5)))))))) ∧ binV Tryz.prog H .neq 25 x y (.agg [.lit (.int .i64 a0), .lit (.int .i64 a1), .lit (.int .i64 a2), .lit (.int .i64 a3), .lit (.int .i64 a4), .lit (.int .i64 a5)]) (.agg [.lit (.int .i64 b0), .lit (.int .i64 b1), .lit (.int .i64 b2), .lit (.int .i64 b3), .lit (.int .i64 b4), .lit (.int .i64 b5)]) = some (.lit (.bool (!(a0 == b0 && (a1 == b1 && (a2 == b2 && (a3 == b3 && (a4 == b4 && (a5 == b5))))))))) := by
 have p3 : aggT Tryz.prog 3 = some false := by kernel_rfl
 have z3 : szT Tryz.prog 3 = some 1 := by kernel_rfl
 have p24 : aggT Tryz.prog 24 = some true := by kernel_rfl
 have z24 : szT Tryz.prog 24 = some 2 := by kernel_rfl
 have p25 : aggT Tryz.prog 25 = some true := by kernel_rfl
 have z25 : szT Tryz.prog 25 = some 6 := by kernel_rfl
 have o24 : Tryz.prog.stoodInHeld 24 = false := by kernel_rfl
 refine binA (xs := [.int .i64 a0, .int .i64 a1, .int .i64 a2, .int .i64 a3, .int .i64 a4, .int .i64 a5]) (ys := [.int .i64 b0, .int .i64 b1, .int .i64 b2, .int .i64 b3, .int .i64 b4, .int .i64 b5]) (by simp [VV.val?, valL?]) (by simp [VV.val?, valL?]) Tryz.underlying25 (by kernel_rfl) ?_
 simp [eqD, eqAs, eqFs, partO, ok1, eq1, List.range', Tryz.underlying3, p3, z3, Tryz.underlying24, p24, z24, Tryz.underlying25, p25, z25, o24, Bool.and_assoc]
theorem se25 {H : Nat → Option VObj} {x y : Operand} {a0 b0 : Int} {a1 b1 : Int} {a2 b2 : Int} {a3 b3 : Int} {a4 b4 : Int} {a5 b5 : Int} : binV Tryz.prog H .eql 25 x y (.agg [.lit (.int .i64 a0), .lit (.int .i64 a1), .lit (.int .i64 a2), .lit (.int .i64 a3), .lit (.int .i64 a4), .lit (.int .i64 a5)]) (.agg [.lit (.int .i64 b0), .lit (.int .i64 b1), .lit (.int .i64 b2), .lit (.int .i64 b3), .lit (.int .i64 b4), .lit (.int .i64 b5)]) = some (.lit (.bool (a0 == b0 && (a1 == b1 && (a2 == b2 && (a3 == b3 && (a4 == b4 && (a5 == b5)))))))) := sq25.1
theorem sn25 {H : Nat → Option VObj} {x y : Operand} {a0 b0 : Int} {a1 b1 : Int} {a2 b2 : Int} {a3 b3 : Int} {a4 b4 : Int} {a5 b5 : Int} : binV Tryz.prog H .neq 25 x y (.agg [.lit (.int .i64 a0), .lit (.int .i64 a1), .lit (.int .i64 a2), .lit (.int .i64 a3), .lit (.int .i64 a4), .lit (.int .i64 a5)]) (.agg [.lit (.int .i64 b0), .lit (.int .i64 b1), .lit (.int .i64 b2), .lit (.int .i64 b3), .lit (.int .i64 b4), .lit (.int .i64 b5)]) = some (.lit (.bool (!(a0 == b0 && (a1 == b1 && (a2 == b2 && (a3 == b3 && (a4 == b4 && (a5 == b5))))))))) := sq25.2
theorem zarf : (VV.lit Value.nilFunc).leaf = true := rfl
theorem zapq : (VV.lit Value.nilIface).leaf = true := rfl
def tyf := (And.intro (And.intro (And.intro (And.intro (And.intro (And.intro (And.intro @zii (And.intro @zho @zfl)) (And.intro (And.intro @zhc @zfu) (And.intro @zgs @zgq))) (And.intro (And.intro (And.intro @zge @ld2) (And.intro @sz2 @vzl2)) (And.intro (And.intro @ld3 @sz3) (And.intro @vzl3 @ld4)))) (And.intro (And.intro (And.intro (And.intro @sz4 @vzl4) (And.intro @ld9 @sz9)) (And.intro (And.intro @vzl9 @ld22) (And.intro @sz22 @vzl22))) (And.intro (And.intro (And.intro @zauo @zavm) (And.intro @zast @zavp)) (And.intro (And.intro @zata @zaru) (And.intro @zauj @zavg))))) (And.intro (And.intro (And.intro (And.intro (And.intro @zask @ld24) (And.intro @sz24 @vzl24)) (And.intro (And.intro @zatk @zavi) (And.intro @zauq @zauk))) (And.intro (And.intro (And.intro @zasm @zavt) (And.intro @ld25 @sz25)) (And.intro (And.intro @vzl25 @zasv) (And.intro @zarv @zatp)))) (And.intro (And.intro (And.intro (And.intro @zatd @zawc) (And.intro @zawa @zauh)) (And.intro (And.intro @zatn @zavb) (And.intro @ld26 @sz26))) (And.intro (And.intro (And.intro @vzl26 @len26) (And.intro @lenN26 @lenR26)) (And.intro (And.intro @et26 @tk26) (And.intro @zavs @ld28)))))) (And.intro (And.intro (And.intro (And.intro (And.intro (And.intro @sz28 @vzl28) (And.intro @zavv @zatc)) (And.intro (And.intro @zarw @zawb) (And.intro @zatr @zasq))) (And.intro (And.intro (And.intro @zaul @zaub) (And.intro @zauz @zavw)) (And.intro (And.intro @zatx @zash) (And.intro @zavn @zats)))) (And.intro (And.intro (And.intro (And.intro @zasr @ld29) (And.intro @sz29 @vzl29)) (And.intro (And.intro @len29 @lenN29) (And.intro @lenR29 @et29))) (And.intro (And.intro (And.intro @tk29 @zaun) (And.intro @zaud @zawd)) (And.intro (And.intro @ld32 @sz32) (And.intro @vzl32 @ld40))))) (And.intro (And.intro (And.intro (And.intro (And.intro @sz40 @vzl40) (And.intro @len40 @lenN40)) (And.intro (And.intro @lenR40 @et40) (And.intro @tk40 @zatf))) (And.intro (And.intro (And.intro @ld42 @sz42) (And.intro @vzl42 @zauy)) (And.intro (And.intro @zaua @zatu) (And.intro @zasj @zatl)))) (And.intro (And.intro (And.intro (And.intro @zatm @zasw) (And.intro @zasd @zass)) (And.intro (And.intro @ld47 @sz47) (And.intro @vzl47 @ld89))) (And.intro (And.intro (And.intro @sz89 @vzl89) (And.intro @zaui @zavy)) (And.intro (And.intro @zasl @zasn) (And.intro @zasb @zaup))))))) (And.intro (And.intro (And.intro (And.intro (And.intro (And.intro @ld94 (And.intro @sz94 @vzl94)) (And.intro (And.intro @zasc @zaue) (And.intro @zaug @ld99))) (And.intro (And.intro (And.intro @sz99 @vzl99) (And.intro @zatq @zavj)) (And.intro (And.intro @zatz @zaur) (And.intro @zasx @zarx)))) (And.intro (And.intro (And.intro (And.intro @zatb @zavx) (And.intro @zati @ld106)) (And.intro (And.intro @sz106 @vzl106) (And.intro @len106 @lenN106))) (And.intro (And.intro (And.intro @lenR106 @et106) (And.intro @tk106 @zapa)) (And.intro (And.intro @zapl @zanz) (And.intro @ld121 @sz121))))) (And.intro (And.intro (And.intro (And.intro (And.intro @vzl121 @len121) (And.intro @lenN121 @lenR121)) (And.intro (And.intro @et121 @tk121) (And.intro @zapg @ld138))) (And.intro (And.intro (And.intro @sz138 @vzl138) (And.intro @zaqe @zapo)) (And.intro (And.intro @zaoo @zapj) (And.intro @zaqw @zaof)))) (And.intro (And.intro (And.intro (And.intro @sz1 @ld1) (And.intro @vzl1 @sz103)) (And.intro (And.intro @ld103 @vzl103) (And.intro @sz104 @ld104))) (And.intro (And.intro (And.intro @vzl104 @sz111) (And.intro @ld111 @vzl111)) (And.intro (And.intro @sz126 @ld126) (And.intro @vzl126 @sz140)))))) (And.intro (And.intro (And.intro (And.intro (And.intro (And.intro @ld140 @vzl140) (And.intro @sz144 @ld144)) (And.intro (And.intro @vzl144 @sz146) (And.intro @ld146 @vzl146))) (And.intro (And.intro (And.intro @sz147 @ld147) (And.intro @vzl147 @sz162)) (And.intro (And.intro @ld162 @vzl162) (And.intro @sz163 @ld163)))) (And.intro (And.intro (And.intro (And.intro @vzl163 @sz184) (And.intro @ld184 @vzl184)) (And.intro (And.intro @sz127 @vzl127) (And.intro @ld127 @zarn))) (And.intro (And.intro (And.intro @zare @zapw) (And.intro @zaqu @vb22)) (And.intro (And.intro @zaeq @vb24) (And.intro @zamf @vb25))))) (And.intro (And.intro (And.intro (And.intro (And.intro @zaem @zacw) (And.intro @zatv @zakl)) (And.intro (And.intro @zavr @vb99) (And.intro @zafe @zagk))) (And.intro (And.intro (And.intro @vb132 @sz132) (And.intro @vzl132 @ld132)) (And.intro (And.intro @zafk @mi132) (And.intro @tn132 @tt132)))) (And.intro (And.intro (And.intro (And.intro @be4 @bn4) (And.intro @se22 @sn22)) (And.intro (And.intro @se24 @sn24) (And.intro @se25 @sn25))) (And.intro (And.intro (And.intro @zarf @zapq) (And.intro @zaaj @eI_eq)) (And.intro (And.intro @zaol @eB_eq) (And.intro @eS_eq @zaqt))))))))
def tynrm := (And.intro (And.intro (And.intro (And.intro (And.intro @zal.norm @zal.normL) (And.intro @zal.shown @zal.showL)) (And.intro (And.intro @zay.norm @zay.normL) (And.intro @zay.shown (And.intro @zay.showL @zak.norm)))) (And.intro (And.intro (And.intro @zak.normL @zak.shown) (And.intro @zak.showL @zao.norm)) (And.intro (And.intro @zao.normL @zao.shown) (And.intro @zao.showL (And.intro @zam.norm @zam.normL))))) (And.intro (And.intro (And.intro (And.intro @zam.shown @zam.showL) (And.intro @zba.norm @zba.normL)) (And.intro (And.intro @zba.shown @zba.showL) (And.intro @zbg.norm (And.intro @zbg.normL @zbg.shown)))) (And.intro (And.intro (And.intro @zbg.showL @zej.norm) (And.intro @zej.normL @zej.shown)) (And.intro (And.intro @zej.showL @zlv.norm) (And.intro @zlv.normL (And.intro @zlv.shown @zlv.showL))))))
def tytre := (And.intro (And.intro (And.intro (And.intro @zal.tree @zal.treeL) (And.intro @zay.tree @zay.treeL)) (And.intro (And.intro @zak.tree @zak.treeL) (And.intro @zao.tree (And.intro @zao.treeL @zam.tree)))) (And.intro (And.intro (And.intro @zam.treeL @zba.tree) (And.intro @zba.treeL @zbg.tree)) (And.intro (And.intro @zbg.treeL @zej.tree) (And.intro @zej.treeL (And.intro @zlv.tree @zlv.treeL)))))
end Go.V
namespace Go.V
open Go Go.Proofs
theorem ktA {P : Program} {G : Glob} {d : Option Tmp} {γ : Nat} {tm : Nat → VV} {H : Nat → Option VObj} {nx : Nat} {df : List VDef} {K : St → Prop} {Qp : VV → St → Prop} {f : FuncId} {args args0 : List VV} {x : VV} (hp : VPure P G f args0 (.tree x)) (h : fin d γ tm H nx df K x .none) (hn : normL args = args0 := by first | (simp only [nrm, tynrm] <;> rfl) | rfl) (ht : treeL args = true := by simp only [tre, tytre, Bool.and_self]) : callK P G f args ⟨tm, H, nx, df⟩ d γ K Qp := ktree hn ht hp h
theorem dktA {P : Program} {G : Glob} {d : Option Tmp} {γ : Nat} {tm : Nat → VV} {H : Nat → Option VObj} {nx : Nat} {df : List VDef} {K : List Nat → List Nat → St → Prop} {f : FuncId} {args args0 : List VV} {x : VV} (hp : VPure P G f args0 (.tree x)) (h : fin d γ tm H nx df (K [] []) x .none) (hn : normL args = args0 := by first | (simp only [nrm, tynrm] <;> rfl) | rfl) (ht : treeL args = true := by simp only [tre, tytre, Bool.and_self]) : dcallK P G f args tm H nx df d γ K := dktree hn ht hp h
theorem optI {α β : Type} {K : Option β → Prop} {X : Option α} {F : α → Option β} (h : K (Option.bind X F)) (kN : ¬ K none) : ∃ r, X = some r ∧ K (F r) := by
  cases X with
  | none => exact absurd h kN
  | some r => exact ⟨r, rfl, h⟩
end Go.V
end
