/- Part of a proof. -/
import Derived.Test.YtekhjalgmlflpaaGreatDoorVbe
import Derived.Test.YtekhjalgmlflpaaGreatDoorVaw
import Derived.Test.YtekhjalgmlflpaaGreatDoorProg
set_option linter.all false
set_option maxRecDepth 4000
set_option maxHeartbeats 40000000
section
namespace Go.V
open Go Go.Proofs
theorem mixed : Tryz.prog.follows .mixedOrders = true := by kernel_rfl
structure Gi where
 a0 : Int
 a1 : Int
 a2 : Int
 deriving Inhabited, DecidableEq
def cGi (x : Gi) : List VV := [.lit (.int .i64 x.a0), .lit (.int .i64 x.a1), .lit (.int .i64 x.a2)]
theorem zhy {x : Gi} : cGi x = [.lit (.int .i64 x.a0), .lit (.int .i64 x.a1), .lit (.int .i64 x.a2)] := rfl
theorem zaj : EncOk cGi := EncOk.of (fun x => by simp only [zhy, tre, Bool.and_self]) (fun x => by simp only [zhy, nrm]) (fun x H d => by simp only [zhy, nrm, List.map_cons, List.map_nil])
structure GSpan where
 Low : Int
 High : Int
 deriving Inhabited, DecidableEq
def cGSpan (x : GSpan) : List VV := [.lit (.int .i64 x.Low), .lit (.int .i64 x.High)]
theorem zhj {x : GSpan} : cGSpan x = [.lit (.int .i64 x.Low), .lit (.int .i64 x.High)] := rfl
theorem zat : EncOk cGSpan := EncOk.of (fun x => by simp only [zhj, tre, zaj.tree, zaj.treeL, Bool.and_self]) (fun x => by simp only [zhj, nrm, zaj.norm, zaj.normL, zaj.shown, zaj.showL]) (fun x H d => by simp only [zhj, nrm, List.map_cons, List.map_nil])
structure Ga where
 a0 : GSpan
 a1 : GSpan
 a2 : GSpan
 deriving Inhabited, DecidableEq
def cGa (x : Ga) : List VV := [.lit (.int .i64 x.a0.Low), .lit (.int .i64 x.a0.High), .lit (.int .i64 x.a1.Low), .lit (.int .i64 x.a1.High), .lit (.int .i64 x.a2.Low), .lit (.int .i64 x.a2.High)]
theorem zfg {x : Ga} : cGa x = [.lit (.int .i64 x.a0.Low), .lit (.int .i64 x.a0.High), .lit (.int .i64 x.a1.Low), .lit (.int .i64 x.a1.High), .lit (.int .i64 x.a2.Low), .lit (.int .i64 x.a2.High)] := rfl
theorem zai : EncOk cGa := EncOk.of (fun x => by simp only [zfg, tre, zaj.tree, zaj.treeL, zat.tree, zat.treeL, Bool.and_self]) (fun x => by simp only [zfg, nrm, zaj.norm, zaj.normL, zaj.shown, zaj.showL, zat.norm, zat.normL, zat.shown, zat.showL]) (fun x H d => by simp only [zfg, nrm, List.map_cons, List.map_nil])
structure Gt where
 pg : Ga
 deriving Inhabited, DecidableEq
def cGt (x : Gt) : List VV := [.lit (.int .i64 x.pg.a0.Low), .lit (.int .i64 x.pg.a0.High), .lit (.int .i64 x.pg.a1.Low), .lit (.int .i64 x.pg.a1.High), .lit (.int .i64 x.pg.a2.Low), .lit (.int .i64 x.pg.a2.High)]
theorem zgt {x : Gt} : cGt x = [.lit (.int .i64 x.pg.a0.Low), .lit (.int .i64 x.pg.a0.High), .lit (.int .i64 x.pg.a1.Low), .lit (.int .i64 x.pg.a1.High), .lit (.int .i64 x.pg.a2.Low), .lit (.int .i64 x.pg.a2.High)] := rfl
theorem zam : EncOk cGt := EncOk.of (fun x => by simp only [zgt, tre, zaj.tree, zaj.treeL, zat.tree, zat.treeL, zai.tree, zai.treeL, Bool.and_self]) (fun x => by simp only [zgt, nrm, zaj.norm, zaj.normL, zaj.shown, zaj.showL, zat.norm, zat.normL, zat.shown, zat.showL, zai.norm, zai.normL, zai.shown, zai.showL]) (fun x H d => by simp only [zgt, nrm, List.map_cons, List.map_nil])
structure Gs where
 Old : Gi
 Fade : Ga
 Years : GSpan
 Off : Int
 Tins : List Gt
 deriving Inhabited, DecidableEq
def cGs (x : Gs) : List VV := [.lit (.int .i64 x.Old.a0), .lit (.int .i64 x.Old.a1), .lit (.int .i64 x.Old.a2), .lit (.int .i64 x.Fade.a0.Low), .lit (.int .i64 x.Fade.a0.High), .lit (.int .i64 x.Fade.a1.Low), .lit (.int .i64 x.Fade.a1.High), .lit (.int .i64 x.Fade.a2.Low), .lit (.int .i64 x.Fade.a2.High), .lit (.int .i64 x.Years.Low), .lit (.int .i64 x.Years.High), .lit (.int .i64 x.Off), .sl (cellsL cGt x.Tins) (List.length x.Tins) false]
theorem zfl {x : Gs} : cGs x = [.lit (.int .i64 x.Old.a0), .lit (.int .i64 x.Old.a1), .lit (.int .i64 x.Old.a2), .lit (.int .i64 x.Fade.a0.Low), .lit (.int .i64 x.Fade.a0.High), .lit (.int .i64 x.Fade.a1.Low), .lit (.int .i64 x.Fade.a1.High), .lit (.int .i64 x.Fade.a2.Low), .lit (.int .i64 x.Fade.a2.High), .lit (.int .i64 x.Years.Low), .lit (.int .i64 x.Years.High), .lit (.int .i64 x.Off), .sl (cellsL cGt x.Tins) (List.length x.Tins) false] := rfl
theorem zal : EncOk cGs := EncOk.of (fun x => by simp only [zfl, tre, zaj.tree, zaj.treeL, zat.tree, zat.treeL, zai.tree, zai.treeL, zam.tree, zam.treeL, Bool.and_self]) (fun x => by simp only [zfl, nrm, zaj.norm, zaj.normL, zaj.shown, zaj.showL, zat.norm, zat.normL, zat.shown, zat.showL, zai.norm, zai.normL, zai.shown, zai.showL, zam.norm, zam.normL, zam.shown, zam.showL]) (fun x H d => by simp only [zfl, nrm, List.map_cons, List.map_nil])
structure Gu where
 Tins : List Gi
 Years : Int
 Fade : Gi
 deriving Inhabited, DecidableEq
def cGu (x : Gu) : List VV := [.sl (cellsL cGi x.Tins) (List.length x.Tins) false, .lit (.int .i64 x.Years), .lit (.int .i64 x.Fade.a0), .lit (.int .i64 x.Fade.a1), .lit (.int .i64 x.Fade.a2)]
theorem zgh {x : Gu} : cGu x = [.sl (cellsL cGi x.Tins) (List.length x.Tins) false, .lit (.int .i64 x.Years), .lit (.int .i64 x.Fade.a0), .lit (.int .i64 x.Fade.a1), .lit (.int .i64 x.Fade.a2)] := rfl
theorem zaw : EncOk cGu := EncOk.of (fun x => by simp only [zgh, tre, zaj.tree, zaj.treeL, zat.tree, zat.treeL, zai.tree, zai.treeL, zam.tree, zam.treeL, zal.tree, zal.treeL, Bool.and_self]) (fun x => by simp only [zgh, nrm, zaj.norm, zaj.normL, zaj.shown, zaj.showL, zat.norm, zat.normL, zat.shown, zat.showL, zai.norm, zai.normL, zai.shown, zai.showL, zam.norm, zam.normL, zam.shown, zam.showL, zal.norm, zal.normL, zal.shown, zal.showL]) (fun x H d => by simp only [zgh, nrm, List.map_cons, List.map_nil])
structure Gm where
 sh : Gs
 mix : List Int
 deriving Inhabited, DecidableEq
def cGm (x : Gm) : List VV := [.lit (.int .i64 x.sh.Old.a0), .lit (.int .i64 x.sh.Old.a1), .lit (.int .i64 x.sh.Old.a2), .lit (.int .i64 x.sh.Fade.a0.Low), .lit (.int .i64 x.sh.Fade.a0.High), .lit (.int .i64 x.sh.Fade.a1.Low), .lit (.int .i64 x.sh.Fade.a1.High), .lit (.int .i64 x.sh.Fade.a2.Low), .lit (.int .i64 x.sh.Fade.a2.High), .lit (.int .i64 x.sh.Years.Low), .lit (.int .i64 x.sh.Years.High), .lit (.int .i64 x.sh.Off), .sl (cellsL cGt x.sh.Tins) (List.length x.sh.Tins) false, .sl (cellsL eI x.mix) (List.length x.mix) false]
theorem zgi {x : Gm} : cGm x = [.lit (.int .i64 x.sh.Old.a0), .lit (.int .i64 x.sh.Old.a1), .lit (.int .i64 x.sh.Old.a2), .lit (.int .i64 x.sh.Fade.a0.Low), .lit (.int .i64 x.sh.Fade.a0.High), .lit (.int .i64 x.sh.Fade.a1.Low), .lit (.int .i64 x.sh.Fade.a1.High), .lit (.int .i64 x.sh.Fade.a2.Low), .lit (.int .i64 x.sh.Fade.a2.High), .lit (.int .i64 x.sh.Years.Low), .lit (.int .i64 x.sh.Years.High), .lit (.int .i64 x.sh.Off), .sl (cellsL cGt x.sh.Tins) (List.length x.sh.Tins) false, .sl (cellsL eI x.mix) (List.length x.mix) false] := rfl
theorem zbf : EncOk cGm := EncOk.of (fun x => by simp only [zgi, tre, zaj.tree, zaj.treeL, zat.tree, zat.treeL, zai.tree, zai.treeL, zam.tree, zam.treeL, zal.tree, zal.treeL, zaw.tree, zaw.treeL, Bool.and_self]) (fun x => by simp only [zgi, nrm, zaj.norm, zaj.normL, zaj.shown, zaj.showL, zat.norm, zat.normL, zat.shown, zat.showL, zai.norm, zai.normL, zai.shown, zai.showL, zam.norm, zam.normL, zam.shown, zam.showL, zal.norm, zal.normL, zal.shown, zal.showL, zaw.norm, zaw.normL, zaw.shown, zaw.showL]) (fun x H d => by simp only [zgi, nrm, List.map_cons, List.map_nil])
structure Gf where
 pigment : Int
 years : Int
 deriving Inhabited, DecidableEq
def cGf (x : Gf) : List VV := [.lit (.int .i64 x.pigment), .lit (.int .i64 x.years)]
theorem zfy {x : Gf} : cGf x = [.lit (.int .i64 x.pigment), .lit (.int .i64 x.years)] := rfl
theorem zeb : EncOk cGf := EncOk.of (fun x => by simp only [zfy, tre, zaj.tree, zaj.treeL, zat.tree, zat.treeL, zai.tree, zai.treeL, zam.tree, zam.treeL, zal.tree, zal.treeL, zaw.tree, zaw.treeL, zbf.tree, zbf.treeL, Bool.and_self]) (fun x => by simp only [zfy, nrm, zaj.norm, zaj.normL, zaj.shown, zaj.showL, zat.norm, zat.normL, zat.shown, zat.showL, zai.norm, zai.normL, zai.shown, zai.showL, zam.norm, zam.normL, zam.shown, zam.showL, zal.norm, zal.normL, zal.shown, zal.showL, zaw.norm, zaw.normL, zaw.shown, zaw.showL, zbf.norm, zbf.normL, zbf.shown, zbf.showL]) (fun x H d => by simp only [zfy, nrm, List.map_cons, List.map_nil])
theorem zln : EncOk (eSl eI) := EncOk.sl eI_ok
theorem ld2 {c : VV} {cs : List VV} : vload Tryz.prog 2 (c :: cs) = some c := by
 have h1 : aggT Tryz.prog 2 = some false := by kernel_rfl
 simp [vload, vpart, h1]
theorem sz2 : szT Tryz.prog 2 = some 1 := by kernel_rfl
theorem vzl2 : vzl Tryz.prog 2 = some [.lit (.int .i64 0)] := by kernel_rfl
theorem ld3 {c : VV} {cs : List VV} : vload Tryz.prog 3 (c :: cs) = some c := by
 have h1 : aggT Tryz.prog 3 = some false := by kernel_rfl
 simp [vload, vpart, h1]
theorem sz3 : szT Tryz.prog 3 = some 1 := by kernel_rfl
theorem vzl3 : vzl Tryz.prog 3 = some [.lit (.int .i64 0)] := by kernel_rfl
theorem ld4 {c : VV} {cs : List VV} : vload Tryz.prog 4 (c :: cs) = some c := by
 have h1 : aggT Tryz.prog 4 = some false := by kernel_rfl
 simp [vload, vpart, h1]
theorem sz4 : szT Tryz.prog 4 = some 1 := by kernel_rfl
theorem vzl4 : vzl Tryz.prog 4 = some [.lit (.bool false)] := by kernel_rfl
theorem ld9 {c : VV} {cs : List VV} : vload Tryz.prog 9 (c :: cs) = some c := by
 have h1 : aggT Tryz.prog 9 = some false := by kernel_rfl
 simp [vload, vpart, h1]
theorem sz9 : szT Tryz.prog 9 = some 1 := by kernel_rfl
theorem vzl9 : vzl Tryz.prog 9 = some [.lit (.string ⟨#[]⟩)] := by kernel_rfl
theorem ld22 {c0 c1 c2 : VV} {cs : List VV} : vload Tryz.prog 22 (c0 :: c1 :: c2 :: cs) = some (.agg [c0, c1, c2]) := by
 have h1 : aggT Tryz.prog 22 = some true := by kernel_rfl
 have h2 : szT Tryz.prog 22 = some 3 := by kernel_rfl
 simp [vload, vpart, h1, h2]
theorem sz22 : szT Tryz.prog 22 = some 3 := by kernel_rfl
theorem vzl22 : vzl Tryz.prog 22 = some [.lit (.int .i64 0), .lit (.int .i64 0), .lit (.int .i64 0)] := by kernel_rfl
theorem zawj {H : Nat → Option VObj} {β o : Nat} {k : IntKind} : vindexAddr Tryz.prog H 22 (.ptr β o) (.lit (.int k (0 : Int))) = if (H β).isSome = true then some (.ptr β (o + 0)) else none := by
 have h2 : szT Tryz.prog 3 = some 1 := by kernel_rfl
 simp [vindexAddr, Tryz.underlying22, h2]
theorem zavb {H : Nat → Option VObj} {cs : List VV} {k : IntKind} : vindexAddr Tryz.prog H 22 (.tp cs) (.lit (.int k (0 : Int))) = some (.tp (cs.drop 0)) := by
 have h2 : szT Tryz.prog 3 = some 1 := by kernel_rfl
 simp [vindexAddr, Tryz.underlying22, h2]
theorem zaup {c0 c1 c2 : VV} {k : IntKind} : vindex Tryz.prog 22 (.agg [c0, c1, c2]) (.lit (.int k (0 : Int))) = some (c0) := by
 have h1 : aggT Tryz.prog 3 = some false := by kernel_rfl
 have h2 : szT Tryz.prog 3 = some 1 := by kernel_rfl
 simp [vindex, Tryz.underlying22, vpart, h1, h2]
theorem zlz {H : Nat → Option VObj} {β o : Nat} {k : IntKind} {i : Int} (h : (i == 0) = true) : vindexAddr Tryz.prog H 22 (.ptr β o) (.lit (.int k i)) = if (H β).isSome = true then some (.ptr β (o + 0)) else none := by
 obtain rfl : i = 0 := by simpa using h
 have h2 : szT Tryz.prog 3 = some 1 := by kernel_rfl
 simp [vindexAddr, Tryz.underlying22, h2]
theorem zaud {H : Nat → Option VObj} {β o : Nat} {k : IntKind} : vindexAddr Tryz.prog H 22 (.ptr β o) (.lit (.int k (1 : Int))) = if (H β).isSome = true then some (.ptr β (o + 1)) else none := by
 have h2 : szT Tryz.prog 3 = some 1 := by kernel_rfl
 simp [vindexAddr, Tryz.underlying22, h2]
theorem zaum {H : Nat → Option VObj} {cs : List VV} {k : IntKind} : vindexAddr Tryz.prog H 22 (.tp cs) (.lit (.int k (1 : Int))) = some (.tp (cs.drop 1)) := by
 have h2 : szT Tryz.prog 3 = some 1 := by kernel_rfl
 simp [vindexAddr, Tryz.underlying22, h2]
theorem zavo {c0 c1 c2 : VV} {k : IntKind} : vindex Tryz.prog 22 (.agg [c0, c1, c2]) (.lit (.int k (1 : Int))) = some (c1) := by
 have h1 : aggT Tryz.prog 3 = some false := by kernel_rfl
 have h2 : szT Tryz.prog 3 = some 1 := by kernel_rfl
 simp [vindex, Tryz.underlying22, vpart, h1, h2]
theorem zls {H : Nat → Option VObj} {β o : Nat} {k : IntKind} {i : Int} (h : (i == 1) = true) : vindexAddr Tryz.prog H 22 (.ptr β o) (.lit (.int k i)) = if (H β).isSome = true then some (.ptr β (o + 1)) else none := by
 obtain rfl : i = 1 := by simpa using h
 have h2 : szT Tryz.prog 3 = some 1 := by kernel_rfl
 simp [vindexAddr, Tryz.underlying22, h2]
theorem zauu {H : Nat → Option VObj} {β o : Nat} {k : IntKind} : vindexAddr Tryz.prog H 22 (.ptr β o) (.lit (.int k (2 : Int))) = if (H β).isSome = true then some (.ptr β (o + 2)) else none := by
 have h2 : szT Tryz.prog 3 = some 1 := by kernel_rfl
 simp [vindexAddr, Tryz.underlying22, h2]
theorem zawm {H : Nat → Option VObj} {cs : List VV} {k : IntKind} : vindexAddr Tryz.prog H 22 (.tp cs) (.lit (.int k (2 : Int))) = some (.tp (cs.drop 2)) := by
 have h2 : szT Tryz.prog 3 = some 1 := by kernel_rfl
 simp [vindexAddr, Tryz.underlying22, h2]
theorem zavx {c0 c1 c2 : VV} {k : IntKind} : vindex Tryz.prog 22 (.agg [c0, c1, c2]) (.lit (.int k (2 : Int))) = some (c2) := by
 have h1 : aggT Tryz.prog 3 = some false := by kernel_rfl
 have h2 : szT Tryz.prog 3 = some 1 := by kernel_rfl
 simp [vindex, Tryz.underlying22, vpart, h1, h2]
theorem zll {H : Nat → Option VObj} {β o : Nat} {k : IntKind} {i : Int} (h : (i == 2) = true) : vindexAddr Tryz.prog H 22 (.ptr β o) (.lit (.int k i)) = if (H β).isSome = true then some (.ptr β (o + 2)) else none := by
 obtain rfl : i = 2 := by simpa using h
 have h2 : szT Tryz.prog 3 = some 1 := by kernel_rfl
 simp [vindexAddr, Tryz.underlying22, h2]
theorem ld24 {c0 c1 : VV} {cs : List VV} : vload Tryz.prog 24 (c0 :: c1 :: cs) = some (.agg [c0, c1]) := by
 have h1 : aggT Tryz.prog 24 = some true := by kernel_rfl
 have h2 : szT Tryz.prog 24 = some 2 := by kernel_rfl
 simp [vload, vpart, h1, h2]
theorem sz24 : szT Tryz.prog 24 = some 2 := by kernel_rfl
theorem vzl24 : vzl Tryz.prog 24 = some [.lit (.int .i64 0), .lit (.int .i64 0)] := by kernel_rfl
theorem zatu {H : Nat → Option VObj} {cs : List VV} : vfieldAddr Tryz.prog H 24 (.tp cs) 0 = some (.tp (cs.drop 0)) := by
 have h2 : szT Tryz.prog 3 = some 1 := by kernel_rfl
 simp [vfieldAddr, Tryz.underlying24, h2]
theorem zavm {H : Nat → Option VObj} {β o : Nat} : vfieldAddr Tryz.prog H 24 (.ptr β o) 0 = if (H β).isSome = true then some (.ptr β (o + 0)) else none := by
 have h2 : szT Tryz.prog 3 = some 1 := by kernel_rfl
 simp [vfieldAddr, Tryz.underlying24, h2]
theorem zatc {c0 c1 : VV} : vfield Tryz.prog 24 (.agg [c0, c1]) 0 = some (c0) := by
 have h1 : aggT Tryz.prog 3 = some false := by kernel_rfl
 have h2 : szT Tryz.prog 3 = some 1 := by kernel_rfl
 simp [vfield, Tryz.underlying24, vpart, h1, h2]
theorem zawn {H : Nat → Option VObj} {cs : List VV} : vfieldAddr Tryz.prog H 24 (.tp cs) 1 = some (.tp (cs.drop 1)) := by
 have h2 : szT Tryz.prog 3 = some 1 := by kernel_rfl
 simp [vfieldAddr, Tryz.underlying24, h2]
theorem zawe {H : Nat → Option VObj} {β o : Nat} : vfieldAddr Tryz.prog H 24 (.ptr β o) 1 = if (H β).isSome = true then some (.ptr β (o + 1)) else none := by
 have h2 : szT Tryz.prog 3 = some 1 := by kernel_rfl
 simp [vfieldAddr, Tryz.underlying24, h2]
theorem zaul {c0 c1 : VV} : vfield Tryz.prog 24 (.agg [c0, c1]) 1 = some (c1) := by
 have h1 : aggT Tryz.prog 3 = some false := by kernel_rfl
 have h2 : szT Tryz.prog 3 = some 1 := by kernel_rfl
 simp [vfield, Tryz.underlying24, vpart, h1, h2]
theorem ld25 {c0 c1 c2 c3 c4 c5 : VV} {cs : List VV} : vload Tryz.prog 25 (c0 :: c1 :: c2 :: c3 :: c4 :: c5 :: cs) = some (.agg [c0, c1, c2, c3, c4, c5]) := by
 have h1 : aggT Tryz.prog 25 = some true := by kernel_rfl
 have h2 : szT Tryz.prog 25 = some 6 := by kernel_rfl
 simp [vload, vpart, h1, h2]
theorem sz25 : szT Tryz.prog 25 = some 6 := by kernel_rfl
theorem vzl25 : vzl Tryz.prog 25 = some [.lit (.int .i64 0), .lit (.int .i64 0), .lit (.int .i64 0), .lit (.int .i64 0), .lit (.int .i64 0), .lit (.int .i64 0)] := by kernel_rfl
theorem zauc {H : Nat → Option VObj} {β o : Nat} {k : IntKind} : vindexAddr Tryz.prog H 25 (.ptr β o) (.lit (.int k (0 : Int))) = if (H β).isSome = true then some (.ptr β (o + 0)) else none := by
 have h2 : szT Tryz.prog 24 = some 2 := by kernel_rfl
 simp [vindexAddr, Tryz.underlying25, h2]
theorem zaws {H : Nat → Option VObj} {cs : List VV} {k : IntKind} : vindexAddr Tryz.prog H 25 (.tp cs) (.lit (.int k (0 : Int))) = some (.tp (cs.drop 0)) := by
 have h2 : szT Tryz.prog 24 = some 2 := by kernel_rfl
 simp [vindexAddr, Tryz.underlying25, h2]
theorem zatn {c0 c1 c2 c3 c4 c5 : VV} {k : IntKind} : vindex Tryz.prog 25 (.agg [c0, c1, c2, c3, c4, c5]) (.lit (.int k (0 : Int))) = some (.agg [c0, c1]) := by
 have h1 : aggT Tryz.prog 24 = some true := by kernel_rfl
 have h2 : szT Tryz.prog 24 = some 2 := by kernel_rfl
 simp [vindex, Tryz.underlying25, vpart, h1, h2]
theorem zlv {H : Nat → Option VObj} {β o : Nat} {k : IntKind} {i : Int} (h : (i == 0) = true) : vindexAddr Tryz.prog H 25 (.ptr β o) (.lit (.int k i)) = if (H β).isSome = true then some (.ptr β (o + 0)) else none := by
 obtain rfl : i = 0 := by simpa using h
 have h2 : szT Tryz.prog 24 = some 2 := by kernel_rfl
 simp [vindexAddr, Tryz.underlying25, h2]
theorem zabg {H : Nat → Option VObj} {cs : List VV} {k : IntKind} {i : Int} (h : (i == 0) = true) : vindexAddr Tryz.prog H 25 (.tp cs) (.lit (.int k i)) = some (.tp (cs.drop 0)) := by
 obtain rfl : i = 0 := by simpa using h
 have h2 : szT Tryz.prog 24 = some 2 := by kernel_rfl
 simp [vindexAddr, Tryz.underlying25, h2]
theorem zyv {c0 c1 c2 c3 c4 c5 : VV} {k : IntKind} {i : Int} (h : (i == 0) = true) : vindex Tryz.prog 25 (.agg [c0, c1, c2, c3, c4, c5]) (.lit (.int k i)) = some (.agg [c0, c1]) := by
 obtain rfl : i = 0 := by simpa using h
 have h1 : aggT Tryz.prog 24 = some true := by kernel_rfl
 have h2 : szT Tryz.prog 24 = some 2 := by kernel_rfl
 simp [vindex, Tryz.underlying25, vpart, h1, h2]
theorem zawx {H : Nat → Option VObj} {β o : Nat} {k : IntKind} : vindexAddr Tryz.prog H 25 (.ptr β o) (.lit (.int k (1 : Int))) = if (H β).isSome = true then some (.ptr β (o + 2)) else none := by
 have h2 : szT Tryz.prog 24 = some 2 := by kernel_rfl
 simp [vindexAddr, Tryz.underlying25, h2]
theorem zavn {H : Nat → Option VObj} {cs : List VV} {k : IntKind} : vindexAddr Tryz.prog H 25 (.tp cs) (.lit (.int k (1 : Int))) = some (.tp (cs.drop 2)) := by
 have h2 : szT Tryz.prog 24 = some 2 := by kernel_rfl
 simp [vindexAddr, Tryz.underlying25, h2]
theorem zavc {c0 c1 c2 c3 c4 c5 : VV} {k : IntKind} : vindex Tryz.prog 25 (.agg [c0, c1, c2, c3, c4, c5]) (.lit (.int k (1 : Int))) = some (.agg [c2, c3]) := by
 have h1 : aggT Tryz.prog 24 = some true := by kernel_rfl
 have h2 : szT Tryz.prog 24 = some 2 := by kernel_rfl
 simp [vindex, Tryz.underlying25, vpart, h1, h2]
theorem zlo {H : Nat → Option VObj} {β o : Nat} {k : IntKind} {i : Int} (h : (i == 1) = true) : vindexAddr Tryz.prog H 25 (.ptr β o) (.lit (.int k i)) = if (H β).isSome = true then some (.ptr β (o + 2)) else none := by
 obtain rfl : i = 1 := by simpa using h
 have h2 : szT Tryz.prog 24 = some 2 := by kernel_rfl
 simp [vindexAddr, Tryz.underlying25, h2]
theorem zafj {H : Nat → Option VObj} {cs : List VV} {k : IntKind} {i : Int} (h : (i == 1) = true) : vindexAddr Tryz.prog H 25 (.tp cs) (.lit (.int k i)) = some (.tp (cs.drop 2)) := by
 obtain rfl : i = 1 := by simpa using h
 have h2 : szT Tryz.prog 24 = some 2 := by kernel_rfl
 simp [vindexAddr, Tryz.underlying25, h2]
theorem zaaj {c0 c1 c2 c3 c4 c5 : VV} {k : IntKind} {i : Int} (h : (i == 1) = true) : vindex Tryz.prog 25 (.agg [c0, c1, c2, c3, c4, c5]) (.lit (.int k i)) = some (.agg [c2, c3]) := by
 obtain rfl : i = 1 := by simpa using h
 have h1 : aggT Tryz.prog 24 = some true := by kernel_rfl
 have h2 : szT Tryz.prog 24 = some 2 := by kernel_rfl
 simp [vindex, Tryz.underlying25, vpart, h1, h2]
theorem zasu {H : Nat → Option VObj} {β o : Nat} {k : IntKind} : vindexAddr Tryz.prog H 25 (.ptr β o) (.lit (.int k (2 : Int))) = if (H β).isSome = true then some (.ptr β (o + 4)) else none := by
 have h2 : szT Tryz.prog 24 = some 2 := by kernel_rfl
 simp [vindexAddr, Tryz.underlying25, h2]
theorem zatl {H : Nat → Option VObj} {cs : List VV} {k : IntKind} : vindexAddr Tryz.prog H 25 (.tp cs) (.lit (.int k (2 : Int))) = some (.tp (cs.drop 4)) := by
 have h2 : szT Tryz.prog 24 = some 2 := by kernel_rfl
 simp [vindexAddr, Tryz.underlying25, h2]
theorem zasz {c0 c1 c2 c3 c4 c5 : VV} {k : IntKind} : vindex Tryz.prog 25 (.agg [c0, c1, c2, c3, c4, c5]) (.lit (.int k (2 : Int))) = some (.agg [c4, c5]) := by
 have h1 : aggT Tryz.prog 24 = some true := by kernel_rfl
 have h2 : szT Tryz.prog 24 = some 2 := by kernel_rfl
 simp [vindex, Tryz.underlying25, vpart, h1, h2]
theorem zlm {H : Nat → Option VObj} {β o : Nat} {k : IntKind} {i : Int} (h : (i == 2) = true) : vindexAddr Tryz.prog H 25 (.ptr β o) (.lit (.int k i)) = if (H β).isSome = true then some (.ptr β (o + 4)) else none := by
 obtain rfl : i = 2 := by simpa using h
 have h2 : szT Tryz.prog 24 = some 2 := by kernel_rfl
 simp [vindexAddr, Tryz.underlying25, h2]
theorem zadu {H : Nat → Option VObj} {cs : List VV} {k : IntKind} {i : Int} (h : (i == 2) = true) : vindexAddr Tryz.prog H 25 (.tp cs) (.lit (.int k i)) = some (.tp (cs.drop 4)) := by
 obtain rfl : i = 2 := by simpa using h
 have h2 : szT Tryz.prog 24 = some 2 := by kernel_rfl
 simp [vindexAddr, Tryz.underlying25, h2]
theorem zzn {c0 c1 c2 c3 c4 c5 : VV} {k : IntKind} {i : Int} (h : (i == 2) = true) : vindex Tryz.prog 25 (.agg [c0, c1, c2, c3, c4, c5]) (.lit (.int k i)) = some (.agg [c4, c5]) := by
 obtain rfl : i = 2 := by simpa using h
 have h1 : aggT Tryz.prog 24 = some true := by kernel_rfl
 have h2 : szT Tryz.prog 24 = some 2 := by kernel_rfl
 simp [vindex, Tryz.underlying25, vpart, h1, h2]
theorem ld26 {c : VV} {cs : List VV} : vload Tryz.prog 26 (c :: cs) = some c := by
 have h1 : aggT Tryz.prog 26 = some false := by kernel_rfl
 simp [vload, vpart, h1]
theorem sz26 : szT Tryz.prog 26 = some 1 := by kernel_rfl
theorem vzl26 : vzl Tryz.prog 26 = some [.lit (.slice none 0 0)] := by kernel_rfl
theorem len26 {H : Nat → Option VObj} {cs : List VV} {n : Nat} {f : Bool} : vlen Tryz.prog H 26 (.sl cs n f) = some (.lit (.int .i64 n)) := by simp [vlen, Tryz.underlying26, sls]
theorem lenN26 {H : Nat → Option VObj} : vlen Tryz.prog H 26 (.lit (.slice none 0 0)) = some (.lit (.int .i64 0)) := by simp [vlen, Tryz.underlying26, sls]
theorem lenR26 {H : Nat → Option VObj} {β off n w c : Nat} : vlen Tryz.prog H 26 (.ref β off n w c) = (match H β with | some (.cells _ cs) => if off ≤ cs.length then some (.lit (.int .i64 n)) else none | _ => none) := lenR Tryz.underlying26
theorem et26 : elemT Tryz.prog 26 = some 94 := by simp [elemT, Tryz.underlying26]
theorem tk26 {xs : List Gt} : (cellsL cGt xs).take (xs.length * 6) = cellsL cGt xs := ziu (fun _ => rfl)
theorem zaua {c0 c1 c2 c3 c4 c5 : VV} (h : leafL [c0, c1, c2, c3, c4, c5] = true) : vbuildSlice Tryz.prog 26 1 [(0, .agg [c0, c1, c2, c3, c4, c5])] = some ([c0, c1, c2, c3, c4, c5], 6) := by
 have h2 : szT Tryz.prog 94 = some 6 := by kernel_rfl
 have h3 : vzero Tryz.prog 94 = some #[.int .i64 0, .int .i64 0, .int .i64 0, .int .i64 0, .int .i64 0, .int .i64 0] := by kernel_rfl
 simp only [zbi, zbp, Bool.and_true, Bool.and_eq_true] at h
 simp [vbuildSlice, Tryz.underlying26, h2, h3, vfill, vcells, h, overwrite, vzeros]
theorem ix26 {H : Nat → Option VObj} {xs : List Gt} {x : Gt} {f : Bool} {k : IntKind} {i : Int} (h : getI xs i = some x) : vindexAddr Tryz.prog H 26 (.sl (cellsL cGt xs) xs.length f) (.lit (.int k i)) = some (.tp (cGt x ++ cellsL cGt (xs.drop (i.toNat + 1)))) :=
 ixG Tryz.underlying26 (by kernel_rfl : szT Tryz.prog 94 = some 6) (by decide) (fun _ => rfl) h
theorem ld28 {c0 c1 c2 c3 c4 c5 c6 c7 c8 c9 c10 c11 c12 : VV} {cs : List VV} : vload Tryz.prog 28 (c0 :: c1 :: c2 :: c3 :: c4 :: c5 :: c6 :: c7 :: c8 :: c9 :: c10 :: c11 :: c12 :: cs) = some (.agg [c0, c1, c2, c3, c4, c5, c6, c7, c8, c9, c10, c11, c12]) := by
 have h1 : aggT Tryz.prog 28 = some true := by kernel_rfl
 have h2 : szT Tryz.prog 28 = some 13 := by kernel_rfl
 simp [vload, vpart, h1, h2]
theorem sz28 : szT Tryz.prog 28 = some 13 := by kernel_rfl
theorem vzl28 : vzl Tryz.prog 28 = some [.lit (.int .i64 0), .lit (.int .i64 0), .lit (.int .i64 0), .lit (.int .i64 0), .lit (.int .i64 0), .lit (.int .i64 0), .lit (.int .i64 0), .lit (.int .i64 0), .lit (.int .i64 0), .lit (.int .i64 0), .lit (.int .i64 0), .lit (.int .i64 0), .lit (.slice none 0 0)] := by kernel_rfl
theorem zati {H : Nat → Option VObj} {cs : List VV} : vfieldAddr Tryz.prog H 28 (.tp cs) 0 = some (.tp (cs.drop 0)) := by
 have h2 : szT Tryz.prog 22 = some 3 := by kernel_rfl
 simp [vfieldAddr, Tryz.underlying28, h2]
theorem zatt {H : Nat → Option VObj} {β o : Nat} : vfieldAddr Tryz.prog H 28 (.ptr β o) 0 = if (H β).isSome = true then some (.ptr β (o + 0)) else none := by
 have h2 : szT Tryz.prog 22 = some 3 := by kernel_rfl
 simp [vfieldAddr, Tryz.underlying28, h2]
theorem zawv {c0 c1 c2 c3 c4 c5 c6 c7 c8 c9 c10 c11 c12 : VV} : vfield Tryz.prog 28 (.agg [c0, c1, c2, c3, c4, c5, c6, c7, c8, c9, c10, c11, c12]) 0 = some (.agg [c0, c1, c2]) := by
 have h1 : aggT Tryz.prog 22 = some true := by kernel_rfl
 have h2 : szT Tryz.prog 22 = some 3 := by kernel_rfl
 simp [vfield, Tryz.underlying28, vpart, h1, h2]
theorem zato {H : Nat → Option VObj} {cs : List VV} : vfieldAddr Tryz.prog H 28 (.tp cs) 1 = some (.tp (cs.drop 3)) := by
 have h2 : szT Tryz.prog 25 = some 6 := by kernel_rfl
 simp [vfieldAddr, Tryz.underlying28, h2]
theorem zavl {H : Nat → Option VObj} {β o : Nat} : vfieldAddr Tryz.prog H 28 (.ptr β o) 1 = if (H β).isSome = true then some (.ptr β (o + 3)) else none := by
 have h2 : szT Tryz.prog 25 = some 6 := by kernel_rfl
 simp [vfieldAddr, Tryz.underlying28, h2]
theorem zawg {c0 c1 c2 c3 c4 c5 c6 c7 c8 c9 c10 c11 c12 : VV} : vfield Tryz.prog 28 (.agg [c0, c1, c2, c3, c4, c5, c6, c7, c8, c9, c10, c11, c12]) 1 = some (.agg [c3, c4, c5, c6, c7, c8]) := by
 have h1 : aggT Tryz.prog 25 = some true := by kernel_rfl
 have h2 : szT Tryz.prog 25 = some 6 := by kernel_rfl
 simp [vfield, Tryz.underlying28, vpart, h1, h2]
theorem zavk {H : Nat → Option VObj} {cs : List VV} : vfieldAddr Tryz.prog H 28 (.tp cs) 2 = some (.tp (cs.drop 9)) := by
 have h2 : szT Tryz.prog 24 = some 2 := by kernel_rfl
 simp [vfieldAddr, Tryz.underlying28, h2]
theorem zatj {H : Nat → Option VObj} {β o : Nat} : vfieldAddr Tryz.prog H 28 (.ptr β o) 2 = if (H β).isSome = true then some (.ptr β (o + 9)) else none := by
 have h2 : szT Tryz.prog 24 = some 2 := by kernel_rfl
 simp [vfieldAddr, Tryz.underlying28, h2]
theorem zawk {c0 c1 c2 c3 c4 c5 c6 c7 c8 c9 c10 c11 c12 : VV} : vfield Tryz.prog 28 (.agg [c0, c1, c2, c3, c4, c5, c6, c7, c8, c9, c10, c11, c12]) 2 = some (.agg [c9, c10]) := by
 have h1 : aggT Tryz.prog 24 = some true := by kernel_rfl
 have h2 : szT Tryz.prog 24 = some 2 := by kernel_rfl
 simp [vfield, Tryz.underlying28, vpart, h1, h2]
theorem zasp {H : Nat → Option VObj} {cs : List VV} : vfieldAddr Tryz.prog H 28 (.tp cs) 3 = some (.tp (cs.drop 11)) := by
 have h2 : szT Tryz.prog 3 = some 1 := by kernel_rfl
 simp [vfieldAddr, Tryz.underlying28, h2]
theorem zavu {H : Nat → Option VObj} {β o : Nat} : vfieldAddr Tryz.prog H 28 (.ptr β o) 3 = if (H β).isSome = true then some (.ptr β (o + 11)) else none := by
 have h2 : szT Tryz.prog 3 = some 1 := by kernel_rfl
 simp [vfieldAddr, Tryz.underlying28, h2]
theorem zatx {c0 c1 c2 c3 c4 c5 c6 c7 c8 c9 c10 c11 c12 : VV} : vfield Tryz.prog 28 (.agg [c0, c1, c2, c3, c4, c5, c6, c7, c8, c9, c10, c11, c12]) 3 = some (c11) := by
 have h1 : aggT Tryz.prog 3 = some false := by kernel_rfl
 have h2 : szT Tryz.prog 3 = some 1 := by kernel_rfl
 simp [vfield, Tryz.underlying28, vpart, h1, h2]
theorem zawc {H : Nat → Option VObj} {cs : List VV} : vfieldAddr Tryz.prog H 28 (.tp cs) 4 = some (.tp (cs.drop 12)) := by
 have h2 : szT Tryz.prog 26 = some 1 := by kernel_rfl
 simp [vfieldAddr, Tryz.underlying28, h2]
theorem zatb {H : Nat → Option VObj} {β o : Nat} : vfieldAddr Tryz.prog H 28 (.ptr β o) 4 = if (H β).isSome = true then some (.ptr β (o + 12)) else none := by
 have h2 : szT Tryz.prog 26 = some 1 := by kernel_rfl
 simp [vfieldAddr, Tryz.underlying28, h2]
theorem zauz {c0 c1 c2 c3 c4 c5 c6 c7 c8 c9 c10 c11 c12 : VV} : vfield Tryz.prog 28 (.agg [c0, c1, c2, c3, c4, c5, c6, c7, c8, c9, c10, c11, c12]) 4 = some (c12) := by
 have h1 : aggT Tryz.prog 26 = some false := by kernel_rfl
 have h2 : szT Tryz.prog 26 = some 1 := by kernel_rfl
 simp [vfield, Tryz.underlying28, vpart, h1, h2]
theorem ld29 {c : VV} {cs : List VV} : vload Tryz.prog 29 (c :: cs) = some c := by
 have h1 : aggT Tryz.prog 29 = some false := by kernel_rfl
 simp [vload, vpart, h1]
theorem sz29 : szT Tryz.prog 29 = some 1 := by kernel_rfl
theorem vzl29 : vzl Tryz.prog 29 = some [.lit (.slice none 0 0)] := by kernel_rfl
theorem len29 {H : Nat → Option VObj} {cs : List VV} {n : Nat} {f : Bool} : vlen Tryz.prog H 29 (.sl cs n f) = some (.lit (.int .i64 n)) := by simp [vlen, Tryz.underlying29, sls]
theorem lenN29 {H : Nat → Option VObj} : vlen Tryz.prog H 29 (.lit (.slice none 0 0)) = some (.lit (.int .i64 0)) := by simp [vlen, Tryz.underlying29, sls]
theorem lenR29 {H : Nat → Option VObj} {β off n w c : Nat} : vlen Tryz.prog H 29 (.ref β off n w c) = (match H β with | some (.cells _ cs) => if off ≤ cs.length then some (.lit (.int .i64 n)) else none | _ => none) := lenR Tryz.underlying29
theorem et29 : elemT Tryz.prog 29 = some 3 := by simp [elemT, Tryz.underlying29]
theorem ao29 : appOk Tryz.prog 29 = some (3, 1, 8) := by kernel_rfl
theorem tk29 {xs : List Int} : (cellsL eI xs).take (xs.length * 1) = cellsL eI xs := ziu (fun _ => rfl)
theorem lf29 : ∀ x : Int, leafL (eI x) = true := fun x => by simp only [eI_eq, zasf, eB_eq, eS_eq, zaon, zbp, zbi, zabh, zyj, zpn, zsj, zaji, Bool.and_self]
theorem zawp {a0 : VV} (h : leafL [a0] = true) : vbuildSlice Tryz.prog 29 1 [(0, a0)] = some ([a0], 1) := by
 have h2 : szT Tryz.prog 3 = some 1 := by kernel_rfl
 have h3 : vzero Tryz.prog 3 = some #[.int .i64 0] := by kernel_rfl
 simp only [zbi, zbp, Bool.and_true, Bool.and_eq_true] at h
 simp [vbuildSlice, Tryz.underlying29, h2, h3, vfill, vcells1, h, overwrite, vzeros, List.range_succ]
theorem zata {a0 a1 : VV} (h : leafL [a0, a1] = true) : vbuildSlice Tryz.prog 29 2 [(0, a0), (1, a1)] = some ([a0, a1], 1) := by
 have h2 : szT Tryz.prog 3 = some 1 := by kernel_rfl
 have h3 : vzero Tryz.prog 3 = some #[.int .i64 0] := by kernel_rfl
 simp only [zbi, zbp, Bool.and_true, Bool.and_eq_true] at h
 simp [vbuildSlice, Tryz.underlying29, h2, h3, vfill, vcells1, h, overwrite, vzeros, List.range_succ]
theorem zawb {a0 a1 a2 : VV} (h : leafL [a0, a1, a2] = true) : vbuildSlice Tryz.prog 29 3 [(0, a0), (1, a1), (2, a2)] = some ([a0, a1, a2], 1) := by
 have h2 : szT Tryz.prog 3 = some 1 := by kernel_rfl
 have h3 : vzero Tryz.prog 3 = some #[.int .i64 0] := by kernel_rfl
 simp only [zbi, zbp, Bool.and_true, Bool.and_eq_true] at h
 simp [vbuildSlice, Tryz.underlying29, h2, h3, vfill, vcells1, h, overwrite, vzeros, List.range_succ]
theorem ix29 {H : Nat → Option VObj} {xs : List Int} {x : Int} {f : Bool} {k : IntKind} {i : Int} (h : getI xs i = some x) : vindexAddr Tryz.prog H 29 (.sl (cellsL eI xs) xs.length f) (.lit (.int k i)) = some (.tp (eI x ++ cellsL eI (xs.drop (i.toNat + 1)))) :=
 ixG Tryz.underlying29 (by kernel_rfl : szT Tryz.prog 3 = some 1) (by decide) (fun _ => rfl) h
theorem ld32 {c : VV} {cs : List VV} : vload Tryz.prog 32 (c :: cs) = some c := by
 have h1 : aggT Tryz.prog 32 = some false := by kernel_rfl
 simp [vload, vpart, h1]
theorem sz32 : szT Tryz.prog 32 = some 1 := by kernel_rfl
theorem vzl32 : vzl Tryz.prog 32 = some [.lit (.int .i64 0)] := by kernel_rfl
theorem ld40 {c : VV} {cs : List VV} : vload Tryz.prog 40 (c :: cs) = some c := by
 have h1 : aggT Tryz.prog 40 = some false := by kernel_rfl
 simp [vload, vpart, h1]
theorem sz40 : szT Tryz.prog 40 = some 1 := by kernel_rfl
theorem vzl40 : vzl Tryz.prog 40 = some [.lit (.slice none 0 0)] := by kernel_rfl
theorem len40 {H : Nat → Option VObj} {cs : List VV} {n : Nat} {f : Bool} : vlen Tryz.prog H 40 (.sl cs n f) = some (.lit (.int .i64 n)) := by simp [vlen, Tryz.underlying40, sls]
theorem lenN40 {H : Nat → Option VObj} : vlen Tryz.prog H 40 (.lit (.slice none 0 0)) = some (.lit (.int .i64 0)) := by simp [vlen, Tryz.underlying40, sls]
theorem lenR40 {H : Nat → Option VObj} {β off n w c : Nat} : vlen Tryz.prog H 40 (.ref β off n w c) = (match H β with | some (.cells _ cs) => if off ≤ cs.length then some (.lit (.int .i64 n)) else none | _ => none) := lenR Tryz.underlying40
theorem et40 : elemT Tryz.prog 40 = some 22 := by simp [elemT, Tryz.underlying40]
theorem tk40 {xs : List Gi} : (cellsL cGi xs).take (xs.length * 3) = cellsL cGi xs := ziu (fun _ => rfl)
theorem zath {c0 c1 c2 : VV} (h : leafL [c0, c1, c2] = true) : vbuildSlice Tryz.prog 40 1 [(0, .agg [c0, c1, c2])] = some ([c0, c1, c2], 3) := by
 have h2 : szT Tryz.prog 22 = some 3 := by kernel_rfl
 have h3 : vzero Tryz.prog 22 = some #[.int .i64 0, .int .i64 0, .int .i64 0] := by kernel_rfl
 simp only [zbi, zbp, Bool.and_true, Bool.and_eq_true] at h
 simp [vbuildSlice, Tryz.underlying40, h2, h3, vfill, vcells, h, overwrite, vzeros]
theorem ld42 {c0 c1 c2 c3 c4 : VV} {cs : List VV} : vload Tryz.prog 42 (c0 :: c1 :: c2 :: c3 :: c4 :: cs) = some (.agg [c0, c1, c2, c3, c4]) := by
 have h1 : aggT Tryz.prog 42 = some true := by kernel_rfl
 have h2 : szT Tryz.prog 42 = some 5 := by kernel_rfl
 simp [vload, vpart, h1, h2]
theorem sz42 : szT Tryz.prog 42 = some 5 := by kernel_rfl
theorem vzl42 : vzl Tryz.prog 42 = some [.lit (.slice none 0 0), .lit (.int .i64 0), .lit (.int .i64 0), .lit (.int .i64 0), .lit (.int .i64 0)] := by kernel_rfl
theorem zasn {H : Nat → Option VObj} {cs : List VV} : vfieldAddr Tryz.prog H 42 (.tp cs) 0 = some (.tp (cs.drop 0)) := by
 have h2 : szT Tryz.prog 40 = some 1 := by kernel_rfl
 simp [vfieldAddr, Tryz.underlying42, h2]
theorem zauy {H : Nat → Option VObj} {β o : Nat} : vfieldAddr Tryz.prog H 42 (.ptr β o) 0 = if (H β).isSome = true then some (.ptr β (o + 0)) else none := by
 have h2 : szT Tryz.prog 40 = some 1 := by kernel_rfl
 simp [vfieldAddr, Tryz.underlying42, h2]
theorem zawl {c0 c1 c2 c3 c4 : VV} : vfield Tryz.prog 42 (.agg [c0, c1, c2, c3, c4]) 0 = some (c0) := by
 have h1 : aggT Tryz.prog 40 = some false := by kernel_rfl
 have h2 : szT Tryz.prog 40 = some 1 := by kernel_rfl
 simp [vfield, Tryz.underlying42, vpart, h1, h2]
theorem zavz {H : Nat → Option VObj} {cs : List VV} : vfieldAddr Tryz.prog H 42 (.tp cs) 1 = some (.tp (cs.drop 1)) := by
 have h2 : szT Tryz.prog 3 = some 1 := by kernel_rfl
 simp [vfieldAddr, Tryz.underlying42, h2]
theorem zauh {H : Nat → Option VObj} {β o : Nat} : vfieldAddr Tryz.prog H 42 (.ptr β o) 1 = if (H β).isSome = true then some (.ptr β (o + 1)) else none := by
 have h2 : szT Tryz.prog 3 = some 1 := by kernel_rfl
 simp [vfieldAddr, Tryz.underlying42, h2]
theorem zauo {c0 c1 c2 c3 c4 : VV} : vfield Tryz.prog 42 (.agg [c0, c1, c2, c3, c4]) 1 = some (c1) := by
 have h1 : aggT Tryz.prog 3 = some false := by kernel_rfl
 have h2 : szT Tryz.prog 3 = some 1 := by kernel_rfl
 simp [vfield, Tryz.underlying42, vpart, h1, h2]
theorem zatq {H : Nat → Option VObj} {cs : List VV} : vfieldAddr Tryz.prog H 42 (.tp cs) 2 = some (.tp (cs.drop 2)) := by
 have h2 : szT Tryz.prog 22 = some 3 := by kernel_rfl
 simp [vfieldAddr, Tryz.underlying42, h2]
theorem zaui {H : Nat → Option VObj} {β o : Nat} : vfieldAddr Tryz.prog H 42 (.ptr β o) 2 = if (H β).isSome = true then some (.ptr β (o + 2)) else none := by
 have h2 : szT Tryz.prog 22 = some 3 := by kernel_rfl
 simp [vfieldAddr, Tryz.underlying42, h2]
theorem zave {c0 c1 c2 c3 c4 : VV} : vfield Tryz.prog 42 (.agg [c0, c1, c2, c3, c4]) 2 = some (.agg [c2, c3, c4]) := by
 have h1 : aggT Tryz.prog 22 = some true := by kernel_rfl
 have h2 : szT Tryz.prog 22 = some 3 := by kernel_rfl
 simp [vfield, Tryz.underlying42, vpart, h1, h2]
theorem ld47 {c : VV} {cs : List VV} : vload Tryz.prog 47 (c :: cs) = some c := by
 have h1 : aggT Tryz.prog 47 = some false := by kernel_rfl
 simp [vload, vpart, h1]
theorem sz47 : szT Tryz.prog 47 = some 1 := by kernel_rfl
theorem vzl47 : vzl Tryz.prog 47 = some [.lit (.int .i64 0)] := by kernel_rfl
theorem ld89 {c0 c1 c2 c3 c4 c5 c6 c7 c8 c9 c10 c11 c12 c13 : VV} {cs : List VV} : vload Tryz.prog 89 (c0 :: c1 :: c2 :: c3 :: c4 :: c5 :: c6 :: c7 :: c8 :: c9 :: c10 :: c11 :: c12 :: c13 :: cs) = some (.agg [c0, c1, c2, c3, c4, c5, c6, c7, c8, c9, c10, c11, c12, c13]) := by
 have h1 : aggT Tryz.prog 89 = some true := by kernel_rfl
 have h2 : szT Tryz.prog 89 = some 14 := by kernel_rfl
 simp [vload, vpart, h1, h2]
theorem sz89 : szT Tryz.prog 89 = some 14 := by kernel_rfl
theorem vzl89 : vzl Tryz.prog 89 = some [.lit (.int .i64 0), .lit (.int .i64 0), .lit (.int .i64 0), .lit (.int .i64 0), .lit (.int .i64 0), .lit (.int .i64 0), .lit (.int .i64 0), .lit (.int .i64 0), .lit (.int .i64 0), .lit (.int .i64 0), .lit (.int .i64 0), .lit (.int .i64 0), .lit (.slice none 0 0), .lit (.slice none 0 0)] := by kernel_rfl
theorem zauf {H : Nat → Option VObj} {cs : List VV} : vfieldAddr Tryz.prog H 89 (.tp cs) 0 = some (.tp (cs.drop 0)) := by
 have h2 : szT Tryz.prog 28 = some 13 := by kernel_rfl
 simp [vfieldAddr, Tryz.underlying89, h2]
theorem zava {H : Nat → Option VObj} {β o : Nat} : vfieldAddr Tryz.prog H 89 (.ptr β o) 0 = if (H β).isSome = true then some (.ptr β (o + 0)) else none := by
 have h2 : szT Tryz.prog 28 = some 13 := by kernel_rfl
 simp [vfieldAddr, Tryz.underlying89, h2]
theorem zavs {c0 c1 c2 c3 c4 c5 c6 c7 c8 c9 c10 c11 c12 c13 : VV} : vfield Tryz.prog 89 (.agg [c0, c1, c2, c3, c4, c5, c6, c7, c8, c9, c10, c11, c12, c13]) 0 = some (.agg [c0, c1, c2, c3, c4, c5, c6, c7, c8, c9, c10, c11, c12]) := by
 have h1 : aggT Tryz.prog 28 = some true := by kernel_rfl
 have h2 : szT Tryz.prog 28 = some 13 := by kernel_rfl
 simp [vfield, Tryz.underlying89, vpart, h1, h2]
theorem zate {H : Nat → Option VObj} {cs : List VV} : vfieldAddr Tryz.prog H 89 (.tp cs) 1 = some (.tp (cs.drop 13)) := by
 have h2 : szT Tryz.prog 29 = some 1 := by kernel_rfl
 simp [vfieldAddr, Tryz.underlying89, h2]
theorem zast {H : Nat → Option VObj} {β o : Nat} : vfieldAddr Tryz.prog H 89 (.ptr β o) 1 = if (H β).isSome = true then some (.ptr β (o + 13)) else none := by
 have h2 : szT Tryz.prog 29 = some 1 := by kernel_rfl
 simp [vfieldAddr, Tryz.underlying89, h2]
theorem zaww {c0 c1 c2 c3 c4 c5 c6 c7 c8 c9 c10 c11 c12 c13 : VV} : vfield Tryz.prog 89 (.agg [c0, c1, c2, c3, c4, c5, c6, c7, c8, c9, c10, c11, c12, c13]) 1 = some (c13) := by
 have h1 : aggT Tryz.prog 29 = some false := by kernel_rfl
 have h2 : szT Tryz.prog 29 = some 1 := by kernel_rfl
 simp [vfield, Tryz.underlying89, vpart, h1, h2]
theorem ld94 {c0 c1 c2 c3 c4 c5 : VV} {cs : List VV} : vload Tryz.prog 94 (c0 :: c1 :: c2 :: c3 :: c4 :: c5 :: cs) = some (.agg [c0, c1, c2, c3, c4, c5]) := by
 have h1 : aggT Tryz.prog 94 = some true := by kernel_rfl
 have h2 : szT Tryz.prog 94 = some 6 := by kernel_rfl
 simp [vload, vpart, h1, h2]
theorem sz94 : szT Tryz.prog 94 = some 6 := by kernel_rfl
theorem vzl94 : vzl Tryz.prog 94 = some [.lit (.int .i64 0), .lit (.int .i64 0), .lit (.int .i64 0), .lit (.int .i64 0), .lit (.int .i64 0), .lit (.int .i64 0)] := by kernel_rfl
theorem zaso {H : Nat → Option VObj} {cs : List VV} : vfieldAddr Tryz.prog H 94 (.tp cs) 0 = some (.tp (cs.drop 0)) := by
 have h2 : szT Tryz.prog 25 = some 6 := by kernel_rfl
 simp [vfieldAddr, Tryz.underlying94, h2]
theorem zatf {H : Nat → Option VObj} {β o : Nat} : vfieldAddr Tryz.prog H 94 (.ptr β o) 0 = if (H β).isSome = true then some (.ptr β (o + 0)) else none := by
 have h2 : szT Tryz.prog 25 = some 6 := by kernel_rfl
 simp [vfieldAddr, Tryz.underlying94, h2]
theorem zatd {c0 c1 c2 c3 c4 c5 : VV} : vfield Tryz.prog 94 (.agg [c0, c1, c2, c3, c4, c5]) 0 = some (.agg [c0, c1, c2, c3, c4, c5]) := by
 have h1 : aggT Tryz.prog 25 = some true := by kernel_rfl
 have h2 : szT Tryz.prog 25 = some 6 := by kernel_rfl
 simp [vfield, Tryz.underlying94, vpart, h1, h2]
theorem ld99 {c0 c1 c2 : VV} {cs : List VV} : vload Tryz.prog 99 (c0 :: c1 :: c2 :: cs) = some (.agg [c0, c1, c2]) := by
 have h1 : aggT Tryz.prog 99 = some true := by kernel_rfl
 have h2 : szT Tryz.prog 99 = some 3 := by kernel_rfl
 simp [vload, vpart, h1, h2]
theorem sz99 : szT Tryz.prog 99 = some 3 := by kernel_rfl
theorem vzl99 : vzl Tryz.prog 99 = some [.lit (.int .i64 0), .lit (.int .i64 0), .lit (.int .i64 0)] := by kernel_rfl
theorem zawh {H : Nat → Option VObj} {β o : Nat} {k : IntKind} : vindexAddr Tryz.prog H 99 (.ptr β o) (.lit (.int k (0 : Int))) = if (H β).isSome = true then some (.ptr β (o + 0)) else none := by
 have h2 : szT Tryz.prog 3 = some 1 := by kernel_rfl
 simp [vindexAddr, Tryz.underlying99, h2]
theorem zasx {H : Nat → Option VObj} {cs : List VV} {k : IntKind} : vindexAddr Tryz.prog H 99 (.tp cs) (.lit (.int k (0 : Int))) = some (.tp (cs.drop 0)) := by
 have h2 : szT Tryz.prog 3 = some 1 := by kernel_rfl
 simp [vindexAddr, Tryz.underlying99, h2]
theorem zatw {c0 c1 c2 : VV} {k : IntKind} : vindex Tryz.prog 99 (.agg [c0, c1, c2]) (.lit (.int k (0 : Int))) = some (c0) := by
 have h1 : aggT Tryz.prog 3 = some false := by kernel_rfl
 have h2 : szT Tryz.prog 3 = some 1 := by kernel_rfl
 simp [vindex, Tryz.underlying99, vpart, h1, h2]
theorem zaty {H : Nat → Option VObj} {β o : Nat} {k : IntKind} : vindexAddr Tryz.prog H 99 (.ptr β o) (.lit (.int k (1 : Int))) = if (H β).isSome = true then some (.ptr β (o + 1)) else none := by
 have h2 : szT Tryz.prog 3 = some 1 := by kernel_rfl
 simp [vindexAddr, Tryz.underlying99, h2]
theorem zasv {H : Nat → Option VObj} {cs : List VV} {k : IntKind} : vindexAddr Tryz.prog H 99 (.tp cs) (.lit (.int k (1 : Int))) = some (.tp (cs.drop 1)) := by
 have h2 : szT Tryz.prog 3 = some 1 := by kernel_rfl
 simp [vindexAddr, Tryz.underlying99, h2]
theorem zaur {c0 c1 c2 : VV} {k : IntKind} : vindex Tryz.prog 99 (.agg [c0, c1, c2]) (.lit (.int k (1 : Int))) = some (c1) := by
 have h1 : aggT Tryz.prog 3 = some false := by kernel_rfl
 have h2 : szT Tryz.prog 3 = some 1 := by kernel_rfl
 simp [vindex, Tryz.underlying99, vpart, h1, h2]
theorem zaue {H : Nat → Option VObj} {β o : Nat} {k : IntKind} : vindexAddr Tryz.prog H 99 (.ptr β o) (.lit (.int k (2 : Int))) = if (H β).isSome = true then some (.ptr β (o + 2)) else none := by
 have h2 : szT Tryz.prog 3 = some 1 := by kernel_rfl
 simp [vindexAddr, Tryz.underlying99, h2]
theorem zavg {H : Nat → Option VObj} {cs : List VV} {k : IntKind} : vindexAddr Tryz.prog H 99 (.tp cs) (.lit (.int k (2 : Int))) = some (.tp (cs.drop 2)) := by
 have h2 : szT Tryz.prog 3 = some 1 := by kernel_rfl
 simp [vindexAddr, Tryz.underlying99, h2]
theorem zaut {c0 c1 c2 : VV} {k : IntKind} : vindex Tryz.prog 99 (.agg [c0, c1, c2]) (.lit (.int k (2 : Int))) = some (c2) := by
 have h1 : aggT Tryz.prog 3 = some false := by kernel_rfl
 have h2 : szT Tryz.prog 3 = some 1 := by kernel_rfl
 simp [vindex, Tryz.underlying99, vpart, h1, h2]
theorem ld106 {c : VV} {cs : List VV} : vload Tryz.prog 106 (c :: cs) = some c := by
 have h1 : aggT Tryz.prog 106 = some false := by kernel_rfl
 simp [vload, vpart, h1]
theorem sz106 : szT Tryz.prog 106 = some 1 := by kernel_rfl
theorem vzl106 : vzl Tryz.prog 106 = some [.lit (.slice none 0 0)] := by kernel_rfl
theorem len106 {H : Nat → Option VObj} {cs : List VV} {n : Nat} {f : Bool} : vlen Tryz.prog H 106 (.sl cs n f) = some (.lit (.int .i64 n)) := by simp [vlen, Tryz.underlying106, sls]
theorem lenN106 {H : Nat → Option VObj} : vlen Tryz.prog H 106 (.lit (.slice none 0 0)) = some (.lit (.int .i64 0)) := by simp [vlen, Tryz.underlying106, sls]
theorem lenR106 {H : Nat → Option VObj} {β off n w c : Nat} : vlen Tryz.prog H 106 (.ref β off n w c) = (match H β with | some (.cells _ cs) => if off ≤ cs.length then some (.lit (.int .i64 n)) else none | _ => none) := lenR Tryz.underlying106
theorem et106 : elemT Tryz.prog 106 = some 29 := by simp [elemT, Tryz.underlying106]
theorem tk106 {xs : List (List Int)} : (cellsL (eSl eI) xs).take (xs.length * 1) = cellsL (eSl eI) xs := ziu (fun _ => rfl)
theorem zaql {a0 : VV} (h : leafL [a0] = true) : vbuildSlice Tryz.prog 106 1 [(0, a0)] = some ([a0], 1) := by
 have h2 : szT Tryz.prog 29 = some 1 := by kernel_rfl
 have h3 : vzero Tryz.prog 29 = some #[.slice none 0 0] := by kernel_rfl
 simp only [zbi, zbp, Bool.and_true, Bool.and_eq_true] at h
 simp [vbuildSlice, Tryz.underlying106, h2, h3, vfill, vcells1, h, overwrite, vzeros, List.range_succ]
theorem zaoy {a0 a1 : VV} (h : leafL [a0, a1] = true) : vbuildSlice Tryz.prog 106 2 [(0, a0), (1, a1)] = some ([a0, a1], 1) := by
 have h2 : szT Tryz.prog 29 = some 1 := by kernel_rfl
 have h3 : vzero Tryz.prog 29 = some #[.slice none 0 0] := by kernel_rfl
 simp only [zbi, zbp, Bool.and_true, Bool.and_eq_true] at h
 simp [vbuildSlice, Tryz.underlying106, h2, h3, vfill, vcells1, h, overwrite, vzeros, List.range_succ]
theorem zarj {a0 a1 a2 : VV} (h : leafL [a0, a1, a2] = true) : vbuildSlice Tryz.prog 106 3 [(0, a0), (1, a1), (2, a2)] = some ([a0, a1, a2], 1) := by
 have h2 : szT Tryz.prog 29 = some 1 := by kernel_rfl
 have h3 : vzero Tryz.prog 29 = some #[.slice none 0 0] := by kernel_rfl
 simp only [zbi, zbp, Bool.and_true, Bool.and_eq_true] at h
 simp [vbuildSlice, Tryz.underlying106, h2, h3, vfill, vcells1, h, overwrite, vzeros, List.range_succ]
theorem ld121 {c : VV} {cs : List VV} : vload Tryz.prog 121 (c :: cs) = some c := by
 have h1 : aggT Tryz.prog 121 = some false := by kernel_rfl
 simp [vload, vpart, h1]
theorem sz121 : szT Tryz.prog 121 = some 1 := by kernel_rfl
theorem vzl121 : vzl Tryz.prog 121 = some [.lit (.slice none 0 0)] := by kernel_rfl
theorem len121 {H : Nat → Option VObj} {cs : List VV} {n : Nat} {f : Bool} : vlen Tryz.prog H 121 (.sl cs n f) = some (.lit (.int .i64 n)) := by simp [vlen, Tryz.underlying121, sls]
theorem lenN121 {H : Nat → Option VObj} : vlen Tryz.prog H 121 (.lit (.slice none 0 0)) = some (.lit (.int .i64 0)) := by simp [vlen, Tryz.underlying121, sls]
theorem lenR121 {H : Nat → Option VObj} {β off n w c : Nat} : vlen Tryz.prog H 121 (.ref β off n w c) = (match H β with | some (.cells _ cs) => if off ≤ cs.length then some (.lit (.int .i64 n)) else none | _ => none) := lenR Tryz.underlying121
theorem et121 : elemT Tryz.prog 121 = some 24 := by simp [elemT, Tryz.underlying121]
theorem tk121 {xs : List GSpan} : (cellsL cGSpan xs).take (xs.length * 2) = cellsL cGSpan xs := ziu (fun _ => rfl)
theorem zapr {c0 c1 : VV} (h : leafL [c0, c1] = true) : vbuildSlice Tryz.prog 121 1 [(0, .agg [c0, c1])] = some ([c0, c1], 2) := by
 have h2 : szT Tryz.prog 24 = some 2 := by kernel_rfl
 have h3 : vzero Tryz.prog 24 = some #[.int .i64 0, .int .i64 0] := by kernel_rfl
 simp only [zbi, zbp, Bool.and_true, Bool.and_eq_true] at h
 simp [vbuildSlice, Tryz.underlying121, h2, h3, vfill, vcells, h, overwrite, vzeros]
theorem ix121 {H : Nat → Option VObj} {xs : List GSpan} {x : GSpan} {f : Bool} {k : IntKind} {i : Int} (h : getI xs i = some x) : vindexAddr Tryz.prog H 121 (.sl (cellsL cGSpan xs) xs.length f) (.lit (.int k i)) = some (.tp (cGSpan x ++ cellsL cGSpan (xs.drop (i.toNat + 1)))) :=
 ixG Tryz.underlying121 (by kernel_rfl : szT Tryz.prog 24 = some 2) (by decide) (fun _ => rfl) h
theorem ld138 {c0 c1 : VV} {cs : List VV} : vload Tryz.prog 138 (c0 :: c1 :: cs) = some (.agg [c0, c1]) := by
 have h1 : aggT Tryz.prog 138 = some true := by kernel_rfl
 have h2 : szT Tryz.prog 138 = some 2 := by kernel_rfl
 simp [vload, vpart, h1, h2]
theorem sz138 : szT Tryz.prog 138 = some 2 := by kernel_rfl
theorem vzl138 : vzl Tryz.prog 138 = some [.lit (.int .i64 0), .lit (.int .i64 0)] := by kernel_rfl
theorem zarz {H : Nat → Option VObj} {cs : List VV} : vfieldAddr Tryz.prog H 138 (.tp cs) 0 = some (.tp (cs.drop 0)) := by
 have h2 : szT Tryz.prog 3 = some 1 := by kernel_rfl
 simp [vfieldAddr, Tryz.underlying138, h2]
theorem zarg {H : Nat → Option VObj} {β o : Nat} : vfieldAddr Tryz.prog H 138 (.ptr β o) 0 = if (H β).isSome = true then some (.ptr β (o + 0)) else none := by
 have h2 : szT Tryz.prog 3 = some 1 := by kernel_rfl
 simp [vfieldAddr, Tryz.underlying138, h2]
theorem zape {c0 c1 : VV} : vfield Tryz.prog 138 (.agg [c0, c1]) 0 = some (c0) := by
 have h1 : aggT Tryz.prog 3 = some false := by kernel_rfl
 have h2 : szT Tryz.prog 3 = some 1 := by kernel_rfl
 simp [vfield, Tryz.underlying138, vpart, h1, h2]
theorem zarh {H : Nat → Option VObj} {cs : List VV} : vfieldAddr Tryz.prog H 138 (.tp cs) 1 = some (.tp (cs.drop 1)) := by
 have h2 : szT Tryz.prog 3 = some 1 := by kernel_rfl
 simp [vfieldAddr, Tryz.underlying138, h2]
theorem zaom {H : Nat → Option VObj} {β o : Nat} : vfieldAddr Tryz.prog H 138 (.ptr β o) 1 = if (H β).isSome = true then some (.ptr β (o + 1)) else none := by
 have h2 : szT Tryz.prog 3 = some 1 := by kernel_rfl
 simp [vfieldAddr, Tryz.underlying138, h2]
theorem zarx {c0 c1 : VV} : vfield Tryz.prog 138 (.agg [c0, c1]) 1 = some (c1) := by
 have h1 : aggT Tryz.prog 3 = some false := by kernel_rfl
 have h2 : szT Tryz.prog 3 = some 1 := by kernel_rfl
 simp [vfield, Tryz.underlying138, vpart, h1, h2]
theorem sz1 : szT Tryz.prog 1 = some 1 := by kernel_rfl
theorem ld1 {c : VV} {cs : List VV} : vload Tryz.prog 1 (c :: cs) = some c := by
 have h1 : aggT Tryz.prog 1 = some false := by kernel_rfl
 simp [vload, vpart, h1]
theorem vzl1 : vzl Tryz.prog 1 = some [.lit .nilFunc] := by kernel_rfl
theorem sz103 : szT Tryz.prog 103 = some 1 := by kernel_rfl
theorem ld103 {c : VV} {cs : List VV} : vload Tryz.prog 103 (c :: cs) = some c := by
 have h1 : aggT Tryz.prog 103 = some false := by kernel_rfl
 simp [vload, vpart, h1]
theorem vzl103 : vzl Tryz.prog 103 = some [.lit .nilFunc] := by kernel_rfl
theorem sz104 : szT Tryz.prog 104 = some 1 := by kernel_rfl
theorem ld104 {c : VV} {cs : List VV} : vload Tryz.prog 104 (c :: cs) = some c := by
 have h1 : aggT Tryz.prog 104 = some false := by kernel_rfl
 simp [vload, vpart, h1]
theorem vzl104 : vzl Tryz.prog 104 = some [.lit .nilFunc] := by kernel_rfl
theorem sz111 : szT Tryz.prog 111 = some 1 := by kernel_rfl
theorem ld111 {c : VV} {cs : List VV} : vload Tryz.prog 111 (c :: cs) = some c := by
 have h1 : aggT Tryz.prog 111 = some false := by kernel_rfl
 simp [vload, vpart, h1]
theorem vzl111 : vzl Tryz.prog 111 = some [.lit .nilFunc] := by kernel_rfl
theorem sz126 : szT Tryz.prog 126 = some 1 := by kernel_rfl
theorem ld126 {c : VV} {cs : List VV} : vload Tryz.prog 126 (c :: cs) = some c := by
 have h1 : aggT Tryz.prog 126 = some false := by kernel_rfl
 simp [vload, vpart, h1]
theorem vzl126 : vzl Tryz.prog 126 = some [.lit .nilFunc] := by kernel_rfl
theorem sz140 : szT Tryz.prog 140 = some 1 := by kernel_rfl
theorem ld140 {c : VV} {cs : List VV} : vload Tryz.prog 140 (c :: cs) = some c := by
 have h1 : aggT Tryz.prog 140 = some false := by kernel_rfl
 simp [vload, vpart, h1]
theorem vzl140 : vzl Tryz.prog 140 = some [.lit .nilFunc] := by kernel_rfl
theorem sz144 : szT Tryz.prog 144 = some 1 := by kernel_rfl
theorem ld144 {c : VV} {cs : List VV} : vload Tryz.prog 144 (c :: cs) = some c := by
 have h1 : aggT Tryz.prog 144 = some false := by kernel_rfl
 simp [vload, vpart, h1]
theorem vzl144 : vzl Tryz.prog 144 = some [.lit .nilFunc] := by kernel_rfl
theorem sz146 : szT Tryz.prog 146 = some 1 := by kernel_rfl
theorem ld146 {c : VV} {cs : List VV} : vload Tryz.prog 146 (c :: cs) = some c := by
 have h1 : aggT Tryz.prog 146 = some false := by kernel_rfl
 simp [vload, vpart, h1]
theorem vzl146 : vzl Tryz.prog 146 = some [.lit .nilFunc] := by kernel_rfl
theorem sz147 : szT Tryz.prog 147 = some 1 := by kernel_rfl
theorem ld147 {c : VV} {cs : List VV} : vload Tryz.prog 147 (c :: cs) = some c := by
 have h1 : aggT Tryz.prog 147 = some false := by kernel_rfl
 simp [vload, vpart, h1]
theorem vzl147 : vzl Tryz.prog 147 = some [.lit .nilFunc] := by kernel_rfl
theorem sz162 : szT Tryz.prog 162 = some 1 := by kernel_rfl
theorem ld162 {c : VV} {cs : List VV} : vload Tryz.prog 162 (c :: cs) = some c := by
 have h1 : aggT Tryz.prog 162 = some false := by kernel_rfl
 simp [vload, vpart, h1]
theorem vzl162 : vzl Tryz.prog 162 = some [.lit .nilFunc] := by kernel_rfl
theorem sz163 : szT Tryz.prog 163 = some 1 := by kernel_rfl
theorem ld163 {c : VV} {cs : List VV} : vload Tryz.prog 163 (c :: cs) = some c := by
 have h1 : aggT Tryz.prog 163 = some false := by kernel_rfl
 simp [vload, vpart, h1]
theorem vzl163 : vzl Tryz.prog 163 = some [.lit .nilFunc] := by kernel_rfl
theorem sz184 : szT Tryz.prog 184 = some 1 := by kernel_rfl
theorem ld184 {c : VV} {cs : List VV} : vload Tryz.prog 184 (c :: cs) = some c := by
 have h1 : aggT Tryz.prog 184 = some false := by kernel_rfl
 simp [vload, vpart, h1]
theorem vzl184 : vzl Tryz.prog 184 = some [.lit .nilFunc] := by kernel_rfl
theorem sz127 : szT Tryz.prog 127 = some 2 := by kernel_rfl
theorem vzl127 : vzl Tryz.prog 127 = some [.lit .nilFunc, .lit .nilFunc] := by kernel_rfl
theorem ld127 {c0 c1 : VV} {cs : List VV} : vload Tryz.prog 127 (c0 :: c1 :: cs) = some (.agg [c0, c1]) := by
 have h1 : aggT Tryz.prog 127 = some true := by kernel_rfl
 have h2 : szT Tryz.prog 127 = some 2 := by kernel_rfl
 simp [vload, vpart, h1, h2]
theorem zaqu {c0 c1 : VV} {k : IntKind} : vindex Tryz.prog 127 (.agg [c0, c1]) (.lit (.int k 0)) = some c0 := by
 have h1 : aggT Tryz.prog 126 = some false := by kernel_rfl
 have h2 : szT Tryz.prog 126 = some 1 := by kernel_rfl
 simp [vindex, Tryz.underlying127, vpart, h1, h2]
theorem zaos {H : Nat → Option VObj} {β o : Nat} {k : IntKind} : vindexAddr Tryz.prog H 127 (.ptr β o) (.lit (.int k 0)) = if (H β).isSome = true then some (.ptr β (o + 0)) else none := by
 have h2 : szT Tryz.prog 126 = some 1 := by kernel_rfl
 simp [vindexAddr, Tryz.underlying127, h2]
theorem zaqv {c0 c1 : VV} {k : IntKind} : vindex Tryz.prog 127 (.agg [c0, c1]) (.lit (.int k 1)) = some c1 := by
 have h1 : aggT Tryz.prog 126 = some false := by kernel_rfl
 have h2 : szT Tryz.prog 126 = some 1 := by kernel_rfl
 simp [vindex, Tryz.underlying127, vpart, h1, h2]
theorem zapz {H : Nat → Option VObj} {β o : Nat} {k : IntKind} : vindexAddr Tryz.prog H 127 (.ptr β o) (.lit (.int k 1)) = if (H β).isSome = true then some (.ptr β (o + 1)) else none := by
 have h2 : szT Tryz.prog 126 = some 1 := by kernel_rfl
 simp [vindexAddr, Tryz.underlying127, h2]
theorem vb22 : vbuild Tryz.prog 22 [] = some (.agg [.lit (.int .i64 0), .lit (.int .i64 0), .lit (.int .i64 0)]) := by
 rw [zeh vzl22 (by kernel_rfl)]
 rfl
theorem zaei {x0_0 x1_0 x2_0 : VV} (h : leafL [x0_0, x1_0, x2_0] = true) : vbuild Tryz.prog 22 [(0, x0_0), (1, x1_0), (2, x2_0)] = some (.agg [x0_0, x1_0, x2_0]) := by
 have p0 : placeT Tryz.prog 22 0 = some (0, 1) := by kernel_rfl
 have p1 : placeT Tryz.prog 22 1 = some (1, 1) := by kernel_rfl
 have p2 : placeT Tryz.prog 22 2 = some (2, 1) := by kernel_rfl
 simp only [zbi, zbp, Bool.and_true, Bool.and_eq_true] at h
 rw [zeh vzl22 (by kernel_rfl)]
 simp [vfill, p0, p1, p2, vcells1, h, overwrite]
theorem vb24 : vbuild Tryz.prog 24 [] = some (.agg [.lit (.int .i64 0), .lit (.int .i64 0)]) := by
 rw [zeh vzl24 (by kernel_rfl)]
 rfl
theorem zakl {x0_0 x1_0 : VV} (h : leafL [x0_0, x1_0] = true) : vbuild Tryz.prog 24 [(0, x0_0), (1, x1_0)] = some (.agg [x0_0, x1_0]) := by
 have p0 : placeT Tryz.prog 24 0 = some (0, 1) := by kernel_rfl
 have p1 : placeT Tryz.prog 24 1 = some (1, 1) := by kernel_rfl
 simp only [zbi, zbp, Bool.and_true, Bool.and_eq_true] at h
 rw [zeh vzl24 (by kernel_rfl)]
 simp [vfill, p0, p1, vcells1, h, overwrite]
theorem vb25 : vbuild Tryz.prog 25 [] = some (.agg [.lit (.int .i64 0), .lit (.int .i64 0), .lit (.int .i64 0), .lit (.int .i64 0), .lit (.int .i64 0), .lit (.int .i64 0)]) := by
 rw [zeh vzl25 (by kernel_rfl)]
 rfl
theorem zacr {x0_0 x0_1 x1_0 x1_1 x2_0 x2_1 : VV} (h : leafL [x0_0, x0_1, x1_0, x1_1, x2_0, x2_1] = true) : vbuild Tryz.prog 25 [(0, .agg [x0_0, x0_1]), (1, .agg [x1_0, x1_1]), (2, .agg [x2_0, x2_1])] = some (.agg [x0_0, x0_1, x1_0, x1_1, x2_0, x2_1]) := by
 have p0 : placeT Tryz.prog 25 0 = some (0, 2) := by kernel_rfl
 have p1 : placeT Tryz.prog 25 1 = some (2, 2) := by kernel_rfl
 have p2 : placeT Tryz.prog 25 2 = some (4, 2) := by kernel_rfl
 simp only [zbi, zbp, Bool.and_true, Bool.and_eq_true] at h
 have q0 : vcells (.agg [x0_0, x0_1]) = some [x0_0, x0_1] := by rw [zgv]; simp [zbi, zbp, h]
 have q1 : vcells (.agg [x1_0, x1_1]) = some [x1_0, x1_1] := by rw [zgv]; simp [zbi, zbp, h]
 have q2 : vcells (.agg [x2_0, x2_1]) = some [x2_0, x2_1] := by rw [zgv]; simp [zbi, zbp, h]
 rw [zeh vzl25 (by kernel_rfl)]
 simp [vfill, p0, p1, p2, vcells1, h, overwrite, q0, q1, q2]
theorem zacj {x0_0 x1_0 x2_0 x2_1 x2_2 : VV} (h : leafL [x0_0, x1_0, x2_0, x2_1, x2_2] = true) : vbuild Tryz.prog 42 [(0, x0_0), (1, x1_0), (2, .agg [x2_0, x2_1, x2_2])] = some (.agg [x0_0, x1_0, x2_0, x2_1, x2_2]) := by
 have p0 : placeT Tryz.prog 42 0 = some (0, 1) := by kernel_rfl
 have p1 : placeT Tryz.prog 42 1 = some (1, 1) := by kernel_rfl
 have p2 : placeT Tryz.prog 42 2 = some (2, 3) := by kernel_rfl
 simp only [zbi, zbp, Bool.and_true, Bool.and_eq_true] at h
 have q2 : vcells (.agg [x2_0, x2_1, x2_2]) = some [x2_0, x2_1, x2_2] := by rw [zgv]; simp [zbi, zbp, h]
 rw [zeh vzl42 (by kernel_rfl)]
 simp [vfill, p0, p1, p2, vcells1, h, overwrite, q2]
theorem zavj {x1_0 : VV} (h : leafL [x1_0] = true) : vbuild Tryz.prog 42 [(1, x1_0)] = some (.agg [.lit (.slice none 0 0), x1_0, .lit (.int .i64 0), .lit (.int .i64 0), .lit (.int .i64 0)]) := by
 have p1 : placeT Tryz.prog 42 1 = some (1, 1) := by kernel_rfl
 simp only [zbi, zbp, Bool.and_true, Bool.and_eq_true] at h
 rw [zeh vzl42 (by kernel_rfl)]
 simp [vfill, p1, vcells1, h, overwrite]
theorem zamb {x0_0 x0_1 x0_2 x0_3 x0_4 x0_5 x0_6 x0_7 x0_8 x0_9 x0_10 x0_11 x0_12 x1_0 : VV} (h : leafL [x0_0, x0_1, x0_2, x0_3, x0_4, x0_5, x0_6, x0_7, x0_8, x0_9, x0_10, x0_11, x0_12, x1_0] = true) : vbuild Tryz.prog 89 [(0, .agg [x0_0, x0_1, x0_2, x0_3, x0_4, x0_5, x0_6, x0_7, x0_8, x0_9, x0_10, x0_11, x0_12]), (1, x1_0)] = some (.agg [x0_0, x0_1, x0_2, x0_3, x0_4, x0_5, x0_6, x0_7, x0_8, x0_9, x0_10, x0_11, x0_12, x1_0]) := by
 have p0 : placeT Tryz.prog 89 0 = some (0, 13) := by kernel_rfl
 have p1 : placeT Tryz.prog 89 1 = some (13, 1) := by kernel_rfl
 simp only [zbi, zbp, Bool.and_true, Bool.and_eq_true] at h
 have q0 : vcells (.agg [x0_0, x0_1, x0_2, x0_3, x0_4, x0_5, x0_6, x0_7, x0_8, x0_9, x0_10, x0_11, x0_12]) = some [x0_0, x0_1, x0_2, x0_3, x0_4, x0_5, x0_6, x0_7, x0_8, x0_9, x0_10, x0_11, x0_12] := by rw [zgv]; simp [zbi, zbp, h]
 rw [zeh vzl89 (by kernel_rfl)]
 simp [vfill, p0, p1, vcells1, h, overwrite, q0]
theorem zavd {x0_0 x0_1 x0_2 x0_3 x0_4 x0_5 : VV} (h : leafL [x0_0, x0_1, x0_2, x0_3, x0_4, x0_5] = true) : vbuild Tryz.prog 94 [(0, .agg [x0_0, x0_1, x0_2, x0_3, x0_4, x0_5])] = some (.agg [x0_0, x0_1, x0_2, x0_3, x0_4, x0_5]) := by
 have p0 : placeT Tryz.prog 94 0 = some (0, 6) := by kernel_rfl
 simp only [zbi, zbp, Bool.and_true, Bool.and_eq_true] at h
 have q0 : vcells (.agg [x0_0, x0_1, x0_2, x0_3, x0_4, x0_5]) = some [x0_0, x0_1, x0_2, x0_3, x0_4, x0_5] := by rw [zgv]; simp [zbi, zbp, h]
 rw [zeh vzl94 (by kernel_rfl)]
 simp [vfill, p0, vcells1, h, overwrite, q0]
theorem vb99 : vbuild Tryz.prog 99 [] = some (.agg [.lit (.int .i64 0), .lit (.int .i64 0), .lit (.int .i64 0)]) := by
 rw [zeh vzl99 (by kernel_rfl)]
 rfl
theorem zafk {x0_0 x1_0 x2_0 : VV} (h : leafL [x0_0, x1_0, x2_0] = true) : vbuild Tryz.prog 99 [(0, x0_0), (1, x1_0), (2, x2_0)] = some (.agg [x0_0, x1_0, x2_0]) := by
 have p0 : placeT Tryz.prog 99 0 = some (0, 1) := by kernel_rfl
 have p1 : placeT Tryz.prog 99 1 = some (1, 1) := by kernel_rfl
 have p2 : placeT Tryz.prog 99 2 = some (2, 1) := by kernel_rfl
 simp only [zbi, zbp, Bool.and_true, Bool.and_eq_true] at h
 rw [zeh vzl99 (by kernel_rfl)]
 simp [vfill, p0, p1, p2, vcells1, h, overwrite]
theorem zafx {x0_0 x1_0 : VV} (h : leafL [x0_0, x1_0] = true) : vbuild Tryz.prog 127 [(0, x0_0), (1, x1_0)] = some (.agg [x0_0, x1_0]) := by
 have p0 : placeT Tryz.prog 127 0 = some (0, 1) := by kernel_rfl
 have p1 : placeT Tryz.prog 127 1 = some (1, 1) := by kernel_rfl
 simp only [zbi, zbp, Bool.and_true, Bool.and_eq_true] at h
 rw [zeh vzl127 (by kernel_rfl)]
 simp [vfill, p0, p1, vcells1, h, overwrite]
theorem vb132 : vbuild Tryz.prog 132 [] = some (.agg []) := by kernel_rfl
theorem sz132 : szT Tryz.prog 132 = some 0 := by kernel_rfl
theorem vzl132 : vzl Tryz.prog 132 = some [] := by kernel_rfl
theorem ld132 {cs : List VV} : vload Tryz.prog 132 cs = some (.agg []) := by
 have h1 : aggT Tryz.prog 132 = some true := by kernel_rfl
 have h2 : szT Tryz.prog 132 = some 0 := by kernel_rfl
 simp [vload, vpart, h1, h2]
theorem zahz {x0_0 x1_0 : VV} (h : leafL [x0_0, x1_0] = true) : vbuild Tryz.prog 138 [(0, x0_0), (1, x1_0)] = some (.agg [x0_0, x1_0]) := by
 have p0 : placeT Tryz.prog 138 0 = some (0, 1) := by kernel_rfl
 have p1 : placeT Tryz.prog 138 1 = some (1, 1) := by kernel_rfl
 simp only [zbi, zbp, Bool.and_true, Bool.and_eq_true] at h
 rw [zeh vzl138 (by kernel_rfl)]
 simp [vfill, p0, p1, vcells1, h, overwrite]
theorem mi132 {x : VV} : mkIfcV Tryz.prog 132 x = some (.ifc 132 x) := by simp [mkIfcV, Tryz.underlying132]
theorem tz132 : ((Tryz.prog.info? 132).bind (·.zero)).map (fun z => VV.tup [ofVal2 z, .lit (.bool false)]) = some (.tup [.agg [], .lit (.bool false)]) := by kernel_rfl
theorem tn132 : vtypeAssert Tryz.prog (.lit .nilIface) 132 true = some (.tup [.agg [], .lit (.bool false)]) := by
 simp only [vtypeAssert, Tryz.underlying132, if_true]
 exact tz132
theorem tt132 {x : VV} : vtypeAssert Tryz.prog (.ifc 132 x) 132 true = some (.tup [x, .lit (.bool true)]) := by
 simp [vtypeAssert, Tryz.underlying132]
theorem be4 {H : Nat → Option VObj} {x y : Operand} {a b : Bool} : binV Tryz.prog H .eql 4 x y (.lit (.bool a)) (.lit (.bool b)) = some (.lit (.bool (a == b))) := zaqs Tryz.underlying4
theorem bn4 {H : Nat → Option VObj} {x y : Operand} {a b : Bool} : binV Tryz.prog H .neq 4 x y (.lit (.bool a)) (.lit (.bool b)) = some (.lit (.bool (a != b))) := zaoe Tryz.underlying4
theorem sq22 {H : Nat → Option VObj} {x y : Operand} {a0 b0 : Int} {a1 b1 : Int} {a2 b2 : Int} : binV Tryz.prog H .eql 22 x y (.agg [.lit (.int .i64 a0), .lit (.int .i64 a1), .lit (.int .i64 a2)]) (.agg [.lit (.int .i64 b0), .lit (.int .i64 b1), .lit (.int .i64 b2)]) = some (.lit (.bool (a0 == b0 && (a1 == b1 && (a2 == b2))))) ∧ binV Tryz.prog H .neq 22 x y (.agg [.lit (.int .i64 a0), .lit (.int .i64 a1), .lit (.int .i64 a2)]) (.agg [.lit (.int .i64 b0), .lit (.int .i64 b1), .lit (.int .i64 b2)]) = some (.lit (.bool (!(a0 == b0 && (a1 == b1 && (a2 == b2)))))) := by
 have p3 : aggT Tryz.prog 3 = some false := by kernel_rfl
 have z3 : szT Tryz.prog 3 = some 1 := by kernel_rfl
 have p22 : aggT Tryz.prog 22 = some true := by kernel_rfl
 have z22 : szT Tryz.prog 22 = some 3 := by kernel_rfl
 refine binA (xs := [.int .i64 a0, .int .i64 a1, .int .i64 a2]) (ys := [.int .i64 b0, .int .i64 b1, .int .i64 b2]) (by simp [VV.val?, valL?]) (by simp [VV.val?, valL?]) Tryz.underlying22 (by kernel_rfl) ?_
 simp [eqD, eqAs, eqFs, partO, ok1, eq1, List.range', Tryz.underlying3, p3, z3, Tryz.underlying22, p22, z22, Bool.and_assoc]
theorem se22 {H : Nat → Option VObj} {x y : Operand} {a0 b0 : Int} {a1 b1 : Int} {a2 b2 : Int} : binV Tryz.prog H .eql 22 x y (.agg [.lit (.int .i64 a0), .lit (.int .i64 a1), .lit (.int .i64 a2)]) (.agg [.lit (.int .i64 b0), .lit (.int .i64 b1), .lit (.int .i64 b2)]) = some (.lit (.bool (a0 == b0 && (a1 == b1 && (a2 == b2))))) := sq22.1
theorem sn22 {H : Nat → Option VObj} {x y : Operand} {a0 b0 : Int} {a1 b1 : Int} {a2 b2 : Int} : binV Tryz.prog H .neq 22 x y (.agg [.lit (.int .i64 a0), .lit (.int .i64 a1), .lit (.int .i64 a2)]) (.agg [.lit (.int .i64 b0), .lit (.int .i64 b1), .lit (.int .i64 b2)]) = some (.lit (.bool (!(a0 == b0 && (a1 == b1 && (a2 == b2)))))) := sq22.2
theorem sq24 {H : Nat → Option VObj} {x y : Operand} {a0 b0 : Int} {a1 b1 : Int} : binV Tryz.prog H .eql 24 x y (.agg [.lit (.int .i64 a0), .lit (.int .i64 a1)]) (.agg [.lit (.int .i64 b0), .lit (.int .i64 b1)]) = some (.lit (.bool (a0 == b0 && (a1 == b1)))) ∧ binV Tryz.prog H .neq 24 x y (.agg [.lit (.int .i64 a0), .lit (.int .i64 a1)]) (.agg [.lit (.int .i64 b0), .lit (.int .i64 b1)]) = some (.lit (.bool (!(a0 == b0 && (a1 == b1))))) := by
 refine binS (xs := [.int .i64 a0, .int .i64 a1]) (ys := [.int .i64 b0, .int .i64 b1]) (by simp [VV.val?, valL?]) (by simp [VV.val?, valL?]) Tryz.underlying24 (by kernel_rfl) (by kernel_rfl) ?_
 simp [eqF, ok1, eq1, Tryz.underlying3]
theorem se24 {H : Nat → Option VObj} {x y : Operand} {a0 b0 : Int} {a1 b1 : Int} : binV Tryz.prog H .eql 24 x y (.agg [.lit (.int .i64 a0), .lit (.int .i64 a1)]) (.agg [.lit (.int .i64 b0), .lit (.int .i64 b1)]) = some (.lit (.bool (a0 == b0 && (a1 == b1)))) := sq24.1
theorem sn24 {H : Nat → Option VObj} {x y : Operand} {a0 b0 : Int} {a1 b1 : Int} : binV Tryz.prog H .neq 24 x y (.agg [.lit (.int .i64 a0), .lit (.int .i64 a1)]) (.agg [.lit (.int .i64 b0), .lit (.int .i64 b1)]) = some (.lit (.bool (!(a0 == b0 && (a1 == b1))))) := sq24.2
theorem sq25 {H : Nat → Option VObj} {x y : Operand} {a0 b0 : Int} {a1 b1 : Int} {a2 b2 : Int} {a3 b3 : Int} {a4 b4 : Int} {a5 b5 : Int} : binV Tryz.prog H .eql 25 x y (.agg [.lit (.int .i64 a0), .lit (.int .i64 a1), .lit (.int .i64 a2), .lit (.int .i64 a3), .lit (.int .i64 a4), .lit (.int .i64 a5)]) (.agg [.lit (.int .i64 b0), .lit (.int .i64 b1), .lit (.int .i64 b2), .lit (.int .i64 b3), .lit (.int .i64 b4), .lit (.int .i64 b5)]) = some (.lit (.bool (a0 == b0 && (a1 == b1 && (a2 == b2 && (a3 == b3 && (a4 == b4 && (a5 == b5)))))))) ∧ binV Tryz.prog H .neq 25 x y (.agg [.lit (.int .i64 a0), .lit (.int .i64 a1), .lit (.int .i64 a2), .lit (.int .i64 a3), .lit (.int .i64 a4), .lit (.int .i64 a5)]) (.agg [.lit (.int .i64 b0), .lit (.int .i64 b1), .lit (.int .i64 b2), .lit (.int .i64 b3), .lit (.int .i64 b4), .lit (.int .i64 b5)]) = some (.lit (.bool (!(a0 == b0 && (a1 == b1 && (a2 == b2 && (a3 == b3 && (a4 == b4 && (a5 == b5))))))))) := by
 have p3 : aggT Tryz.prog 3 = some false := by kernel_rfl
 have z3 : szT Tryz.prog 3 = some 1 := by kernel_rfl
 have p24 : aggT Tryz.prog 24 = some true := by kernel_rfl
 have z24 : szT Tryz.prog 24 = some 2 := by kernel_rfl
 have p25 : aggT Tryz.prog 25 = some true := by kernel_rfl
 have z25 : szT Tryz.prog 25 = some 6 := by kernel_rfl
 have o24 : Tryz.prog.stoodInHeld 24 = false := by kernel_rfl
 refine binA (xs := [.int .i64 a0, .int .i64 a1, .int .i64 a2, .int .i64 a3, .int .i64 a4, .int .i64 a5]) (ys := [.int .i64 b0, .int .i64 b1, .int .i64 b2, .int .i64 b3, .int .i64 b4, .int .i64 b5]) (by simp [VV.val?, valL?]) (by simp [VV.val?, valL?]) Tryz.underlying25 (by kernel_rfl) ?_
 simp [eqD, eqAs, eqFs, partO, ok1, eq1, List.range', Tryz.underlying3, p3, z3, Tryz.underlying24, p24, z24, Tryz.underlying25, p25, z25, o24, Bool.and_assoc]
theorem se25 {H : Nat → Option VObj} {x y : Operand} {a0 b0 : Int} {a1 b1 : Int} {a2 b2 : Int} {a3 b3 : Int} {a4 b4 : Int} {a5 b5 : Int} : binV Tryz.prog H .eql 25 x y (.agg [.lit (.int .i64 a0), .lit (.int .i64 a1), .lit (.int .i64 a2), .lit (.int .i64 a3), .lit (.int .i64 a4), .lit (.int .i64 a5)]) (.agg [.lit (.int .i64 b0), .lit (.int .i64 b1), .lit (.int .i64 b2), .lit (.int .i64 b3), .lit (.int .i64 b4), .lit (.int .i64 b5)]) = some (.lit (.bool (a0 == b0 && (a1 == b1 && (a2 == b2 && (a3 == b3 && (a4 == b4 && (a5 == b5)))))))) := sq25.1
theorem sn25 {H : Nat → Option VObj} {x y : Operand} {a0 b0 : Int} {a1 b1 : Int} {a2 b2 : Int} {a3 b3 : Int} {a4 b4 : Int} {a5 b5 : Int} : binV Tryz.prog H .neq 25 x y (.agg [.lit (.int .i64 a0), .lit (.int .i64 a1), .lit (.int .i64 a2), .lit (.int .i64 a3), .lit (.int .i64 a4), .lit (.int .i64 a5)]) (.agg [.lit (.int .i64 b0), .lit (.int .i64 b1), .lit (.int .i64 b2), .lit (.int .i64 b3), .lit (.int .i64 b4), .lit (.int .i64 b5)]) = some (.lit (.bool (!(a0 == b0 && (a1 == b1 && (a2 == b2 && (a3 == b3 && (a4 == b4 && (a5 == b5))))))))) := sq25.2
theorem zaro : (VV.lit Value.nilFunc).leaf = true := rfl
theorem zasj : (VV.lit Value.nilIface).leaf = true := rfl
def tyf := (And.intro (And.intro (And.intro (And.intro (And.intro (And.intro (And.intro @zhy (And.intro @zhj @zfg)) (And.intro (And.intro @zgt @zfl) (And.intro @zgh @zgi))) (And.intro (And.intro (And.intro @zfy @ld2) (And.intro @sz2 @vzl2)) (And.intro (And.intro @ld3 @sz3) (And.intro @vzl3 @ld4)))) (And.intro (And.intro (And.intro (And.intro @sz4 @vzl4) (And.intro @ld9 @sz9)) (And.intro (And.intro @vzl9 @ld22) (And.intro @sz22 @vzl22))) (And.intro (And.intro (And.intro @zawj @zavb) (And.intro @zaup @zaud)) (And.intro (And.intro @zaum @zavo) (And.intro @zauu @zawm))))) (And.intro (And.intro (And.intro (And.intro (And.intro @zavx @ld24) (And.intro @sz24 @vzl24)) (And.intro (And.intro @zatu @zavm) (And.intro @zatc @zawn))) (And.intro (And.intro (And.intro @zawe @zaul) (And.intro @ld25 @sz25)) (And.intro (And.intro @vzl25 @zauc) (And.intro @zaws @zatn)))) (And.intro (And.intro (And.intro (And.intro @zawx @zavn) (And.intro @zavc @zasu)) (And.intro (And.intro @zatl @zasz) (And.intro @ld26 @sz26))) (And.intro (And.intro (And.intro @vzl26 @len26) (And.intro @lenN26 @lenR26)) (And.intro (And.intro @et26 @tk26) (And.intro @zaua @ld28)))))) (And.intro (And.intro (And.intro (And.intro (And.intro (And.intro @sz28 @vzl28) (And.intro @zati @zatt)) (And.intro (And.intro @zawv @zato) (And.intro @zavl @zawg))) (And.intro (And.intro (And.intro @zavk @zatj) (And.intro @zawk @zasp)) (And.intro (And.intro @zavu @zatx) (And.intro @zawc @zatb)))) (And.intro (And.intro (And.intro (And.intro @zauz @ld29) (And.intro @sz29 @vzl29)) (And.intro (And.intro @len29 @lenN29) (And.intro @lenR29 @et29))) (And.intro (And.intro (And.intro @tk29 @zawp) (And.intro @zata @zawb)) (And.intro (And.intro @ld32 @sz32) (And.intro @vzl32 @ld40))))) (And.intro (And.intro (And.intro (And.intro (And.intro @sz40 @vzl40) (And.intro @len40 @lenN40)) (And.intro (And.intro @lenR40 @et40) (And.intro @tk40 @zath))) (And.intro (And.intro (And.intro @ld42 @sz42) (And.intro @vzl42 @zasn)) (And.intro (And.intro @zauy @zawl) (And.intro @zavz @zauh)))) (And.intro (And.intro (And.intro (And.intro @zauo @zatq) (And.intro @zaui @zave)) (And.intro (And.intro @ld47 @sz47) (And.intro @vzl47 @ld89))) (And.intro (And.intro (And.intro @sz89 @vzl89) (And.intro @zauf @zava)) (And.intro (And.intro @zavs @zate) (And.intro @zast @zaww))))))) (And.intro (And.intro (And.intro (And.intro (And.intro (And.intro @ld94 (And.intro @sz94 @vzl94)) (And.intro (And.intro @zaso @zatf) (And.intro @zatd @ld99))) (And.intro (And.intro (And.intro @sz99 @vzl99) (And.intro @zawh @zasx)) (And.intro (And.intro @zatw @zaty) (And.intro @zasv @zaur)))) (And.intro (And.intro (And.intro (And.intro @zaue @zavg) (And.intro @zaut @ld106)) (And.intro (And.intro @sz106 @vzl106) (And.intro @len106 @lenN106))) (And.intro (And.intro (And.intro @lenR106 @et106) (And.intro @tk106 @zaql)) (And.intro (And.intro @zaoy @zarj) (And.intro @ld121 @sz121))))) (And.intro (And.intro (And.intro (And.intro (And.intro @vzl121 @len121) (And.intro @lenN121 @lenR121)) (And.intro (And.intro @et121 @tk121) (And.intro @zapr @ld138))) (And.intro (And.intro (And.intro @sz138 @vzl138) (And.intro @zarz @zarg)) (And.intro (And.intro @zape @zarh) (And.intro @zaom @zarx)))) (And.intro (And.intro (And.intro (And.intro @sz1 @ld1) (And.intro @vzl1 @sz103)) (And.intro (And.intro @ld103 @vzl103) (And.intro @sz104 @ld104))) (And.intro (And.intro (And.intro @vzl104 @sz111) (And.intro @ld111 @vzl111)) (And.intro (And.intro @sz126 @ld126) (And.intro @vzl126 @sz140)))))) (And.intro (And.intro (And.intro (And.intro (And.intro (And.intro @ld140 @vzl140) (And.intro @sz144 @ld144)) (And.intro (And.intro @vzl144 @sz146) (And.intro @ld146 @vzl146))) (And.intro (And.intro (And.intro @sz147 @ld147) (And.intro @vzl147 @sz162)) (And.intro (And.intro @ld162 @vzl162) (And.intro @sz163 @ld163)))) (And.intro (And.intro (And.intro (And.intro @vzl163 @sz184) (And.intro @ld184 @vzl184)) (And.intro (And.intro @sz127 @vzl127) (And.intro @ld127 @zaqu))) (And.intro (And.intro (And.intro @zaos @zaqv) (And.intro @zapz @vb22)) (And.intro (And.intro @zaei @vb24) (And.intro @zakl @vb25))))) (And.intro (And.intro (And.intro (And.intro (And.intro @zacr @zacj) (And.intro @zavj @zamb)) (And.intro (And.intro @zavd @vb99) (And.intro @zafk @zafx))) (And.intro (And.intro (And.intro @vb132 @sz132) (And.intro @vzl132 @ld132)) (And.intro (And.intro @zahz @mi132) (And.intro @tn132 @tt132)))) (And.intro (And.intro (And.intro (And.intro @be4 @bn4) (And.intro @se22 @sn22)) (And.intro (And.intro @se24 @sn24) (And.intro @se25 @sn25))) (And.intro (And.intro (And.intro @zaro @zasj) (And.intro @zaan @eI_eq)) (And.intro (And.intro @zasf @eB_eq) (And.intro @eS_eq @zaon))))))))
def tynrm := (And.intro (And.intro (And.intro (And.intro (And.intro @zaj.norm @zaj.normL) (And.intro @zaj.shown @zaj.showL)) (And.intro (And.intro @zat.norm @zat.normL) (And.intro @zat.shown (And.intro @zat.showL @zai.norm)))) (And.intro (And.intro (And.intro @zai.normL @zai.shown) (And.intro @zai.showL @zam.norm)) (And.intro (And.intro @zam.normL @zam.shown) (And.intro @zam.showL (And.intro @zal.norm @zal.normL))))) (And.intro (And.intro (And.intro (And.intro @zal.shown @zal.showL) (And.intro @zaw.norm @zaw.normL)) (And.intro (And.intro @zaw.shown @zaw.showL) (And.intro @zbf.norm (And.intro @zbf.normL @zbf.shown)))) (And.intro (And.intro (And.intro @zbf.showL @zeb.norm) (And.intro @zeb.normL @zeb.shown)) (And.intro (And.intro @zeb.showL @zln.norm) (And.intro @zln.normL (And.intro @zln.shown @zln.showL))))))
def tytre := (And.intro (And.intro (And.intro (And.intro @zaj.tree @zaj.treeL) (And.intro @zat.tree @zat.treeL)) (And.intro (And.intro @zai.tree @zai.treeL) (And.intro @zam.tree (And.intro @zam.treeL @zal.tree)))) (And.intro (And.intro (And.intro @zal.treeL @zaw.tree) (And.intro @zaw.treeL @zbf.tree)) (And.intro (And.intro @zbf.treeL @zeb.tree) (And.intro @zeb.treeL (And.intro @zln.tree @zln.treeL)))))
end Go.V
namespace Go.V
open Go Go.Proofs
theorem ktA {P : Program} {G : Glob} {d : Option Tmp} {γ : Nat} {tm : Nat → VV} {H : Nat → Option VObj} {nx : Nat} {df : List VDef} {K : St → Prop} {Qp : VV → St → Prop} {f : FuncId} {args args0 : List VV} {x : VV} (hp : VPure P G f args0 (.tree x)) (h : fin d γ tm H nx df K x .none) (hn : normL args = args0 := by first | (simp only [nrm, tynrm] <;> rfl) | rfl) (ht : treeL args = true := by simp only [tre, tytre, Bool.and_self]) : callK P G f args ⟨tm, H, nx, df⟩ d γ K Qp := ktree hn ht hp h
theorem dktA {P : Program} {G : Glob} {d : Option Tmp} {γ : Nat} {tm : Nat → VV} {H : Nat → Option VObj} {nx : Nat} {df : List VDef} {K : List Nat → List Nat → St → Prop} {f : FuncId} {args args0 : List VV} {x : VV} (hp : VPure P G f args0 (.tree x)) (h : fin d γ tm H nx df (K [] []) x .none) (hn : normL args = args0 := by first | (simp only [nrm, tynrm] <;> rfl) | rfl) (ht : treeL args = true := by simp only [tre, tytre, Bool.and_self]) : dcallK P G f args tm H nx df d γ K := dktree hn ht hp h
theorem optI {α β : Type} {K : Option β → Prop} {X : Option α} {F : α → Option β} (h : K (Option.bind X F)) (kN : ¬ K none) : ∃ r, X = some r ∧ K (F r) := by
  cases X with
  | none => exact absurd h kN
  | some r => exact ⟨r, rfl, h⟩
end Go.V
end
