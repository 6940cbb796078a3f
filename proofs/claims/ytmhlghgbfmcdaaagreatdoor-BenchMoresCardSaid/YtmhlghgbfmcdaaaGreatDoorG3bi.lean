/- Part of a proof. -/
import Derived.Test.YtmhlghgbfmcdaaaGreatDoorG3bh
import Derived.Test.YtmhlghgbfmcdaaaGreatDoorG3az
import Derived.Test.YtmhlghgbfmcdaaaGreatDoorProg
set_option linter.all false
set_option maxRecDepth 4000
set_option maxHeartbeats 40000000
section
namespace Go.V
open Go Go.Proofs IntKind
theorem mixed : Tryz.prog.follows .mixedOrders = true := by kernel_rfl
structure GSpan where
 Low : Int
 High : Int
 deriving Inhabited, DecidableEq
def cGSpan (x : GSpan) : List VV := [.lit (.int .i64 x.Low), .lit (.int .i64 x.High)]
theorem qy {x : GSpan} : cGSpan x = [.lit (.int .i64 x.Low), .lit (.int .i64 x.High)] := rfl
theorem dy : EncOk cGSpan := EncOk.of (fun x => by simp only [qy, tre, Bool.and_self]) (fun x => by simp only [qy, nrm]) (fun x H d => by simp only [qy, nrm, List.map_cons, List.map_nil])
structure GBs where
 Board : Int
 Round : Bool
 Hours : GSpan
 Needs : List Int
 deriving Inhabited, DecidableEq
def cGBs (x : GBs) : List VV := [.lit (.int .i64 x.Board), .lit (.bool x.Round), .lit (.int .i64 x.Hours.Low), .lit (.int .i64 x.Hours.High), .sl (ae eI x.Needs) (List.length x.Needs) false]
theorem sa {x : GBs} : cGBs x = [.lit (.int .i64 x.Board), .lit (.bool x.Round), .lit (.int .i64 x.Hours.Low), .lit (.int .i64 x.Hours.High), .sl (ae eI x.Needs) (List.length x.Needs) false] := rfl
theorem eF : EncOk cGBs := EncOk.of (fun x => by simp only [sa, tre, dy.tree, dy.treeL, Bool.and_self]) (fun x => by simp only [sa, nrm, dy.norm, dy.normL, dy.shown, dy.showL]) (fun x H d => by simp only [sa, nrm, List.map_cons, List.map_nil])
structure GBk where
 Apprentices : Int
 Boards : List Int
 Strokes : List GBs
 deriving Inhabited, DecidableEq
def cGBk (x : GBk) : List VV := [.lit (.int .i64 x.Apprentices), .sl (ae eI x.Boards) (List.length x.Boards) false, .sl (ae cGBs x.Strokes) (List.length x.Strokes) false]
theorem kA {x : GBk} : cGBk x = [.lit (.int .i64 x.Apprentices), .sl (ae eI x.Boards) (List.length x.Boards) false, .sl (ae cGBs x.Strokes) (List.length x.Strokes) false] := rfl
theorem gn : EncOk cGBk := EncOk.of (fun x => by simp only [kA, tre, dy.tree, dy.treeL, eF.tree, eF.treeL, Bool.and_self]) (fun x => by simp only [kA, nrm, dy.norm, dy.normL, dy.shown, dy.showL, eF.norm, eF.normL, eF.shown, eF.showL]) (fun x H d => by simp only [kA, nrm, List.map_cons, List.map_nil])
structure Gbf where
 chain : List Int
 deriving Inhabited, DecidableEq
def cGbf (x : Gbf) : List VV := [.sl (ae eI x.chain) (List.length x.chain) false]
theorem we {x : Gbf} : cGbf x = [.sl (ae eI x.chain) (List.length x.chain) false] := rfl
theorem jr : EncOk cGbf := EncOk.of (fun x => by simp only [we, tre, dy.tree, dy.treeL, eF.tree, eF.treeL, gn.tree, gn.treeL, Bool.and_self]) (fun x => by simp only [we, nrm, dy.norm, dy.normL, dy.shown, dy.showL, eF.norm, eF.normL, eF.shown, eF.showL, gn.norm, gn.normL, gn.shown, gn.showL]) (fun x H d => by simp only [we, nrm, List.map_cons, List.map_nil])
structure Gbe where
 stroke : Int
 hours : Int
 deriving Inhabited, DecidableEq
def cGbe (x : Gbe) : List VV := [.lit (.int .i64 x.stroke), .lit (.int .i64 x.hours)]
theorem wg {x : Gbe} : cGbe x = [.lit (.int .i64 x.stroke), .lit (.int .i64 x.hours)] := rfl
theorem qz : EncOk cGbe := EncOk.of (fun x => by simp only [wg, tre, dy.tree, dy.treeL, eF.tree, eF.treeL, gn.tree, gn.treeL, jr.tree, jr.treeL, Bool.and_self]) (fun x => by simp only [wg, nrm, dy.norm, dy.normL, dy.shown, dy.showL, eF.norm, eF.normL, eF.shown, eF.showL, gn.norm, gn.normL, gn.shown, gn.showL, jr.norm, jr.normL, jr.shown, jr.showL]) (fun x H d => by simp only [wg, nrm, List.map_cons, List.map_nil])
theorem q9 : EncOk (eSl eI) := EncOk.sl eI_ok
theorem Nw {c : VV} {cs : List VV} : aD Tryz.prog 2 (c :: cs) = some c := by
 have h1 : aggT Tryz.prog 2 = some false := by kernel_rfl
 simp [aD, aQ, h1]
theorem Nx : szT Tryz.prog 2 = some 1 := by kernel_rfl
theorem yb : vzl Tryz.prog 2 = some [.lit (.int .i64 0)] := by kernel_rfl
theorem Ny {c : VV} {cs : List VV} : aD Tryz.prog 3 (c :: cs) = some c := by
 have h1 : aggT Tryz.prog 3 = some false := by kernel_rfl
 simp [aD, aQ, h1]
theorem Nz : szT Tryz.prog 3 = some 1 := by kernel_rfl
theorem yc : vzl Tryz.prog 3 = some [.lit (.int .i64 0)] := by kernel_rfl
theorem N0 {c : VV} {cs : List VV} : aD Tryz.prog 4 (c :: cs) = some c := by
 have h1 : aggT Tryz.prog 4 = some false := by kernel_rfl
 simp [aD, aQ, h1]
theorem N1 : szT Tryz.prog 4 = some 1 := by kernel_rfl
theorem yd : vzl Tryz.prog 4 = some [.lit (.bool false)] := by kernel_rfl
theorem N2 {c : VV} {cs : List VV} : aD Tryz.prog 9 (c :: cs) = some c := by
 have h1 : aggT Tryz.prog 9 = some false := by kernel_rfl
 simp [aD, aQ, h1]
theorem N3 : szT Tryz.prog 9 = some 1 := by kernel_rfl
theorem ye : vzl Tryz.prog 9 = some [.lit (.string ⟨#[]⟩)] := by kernel_rfl
theorem yf {c : VV} {cs : List VV} : aD Tryz.prog 22 (c :: cs) = some c := by
 have h1 : aggT Tryz.prog 22 = some false := by kernel_rfl
 simp [aD, aQ, h1]
theorem yg : szT Tryz.prog 22 = some 1 := by kernel_rfl
theorem sb : vzl Tryz.prog 22 = some [.lit (.slice none 0 0)] := by kernel_rfl
theorem sc {H : Nat → Option VObj} {cs : List VV} {n : Nat} {f : Bool} : vlen Tryz.prog H 22 (.sl cs n f) = some (.lit (.int .i64 n)) := by simp [vlen, Tryz.underlying22, sls]
theorem lenN22 {H : Nat → Option VObj} : vlen Tryz.prog H 22 (.lit (.slice none 0 0)) = some (.lit (.int .i64 0)) := by simp [vlen, Tryz.underlying22, sls]
theorem lenR22 {H : Nat → Option VObj} {β off n w c : Nat} : vlen Tryz.prog H 22 (.ref β off n w c) = (match H β with | some (.cells _ cs) => if off ≤ cs.length then some (.lit (.int .i64 n)) else none | _ => none) := lenR Tryz.underlying22
theorem cT : elemT Tryz.prog 22 = some 3 := by simp [elemT, Tryz.underlying22]
theorem de : appOk Tryz.prog 22 = some (3, 1, 8) := by kernel_rfl
theorem yh {xs : List Int} : (ae eI xs).take (xs.length * 1) = ae eI xs := sd (fun _ => rfl)
theorem dC : ∀ x : Int, leafL (eI x) = true := fun x => by simp only [eI_eq, nX, eB_eq, eS_eq, nY, fQ, fR, yi, yj, yk, ym, yn, Bool.and_self]
theorem bt {xs : List Int} {x : Int} {i : Int} (h : getI xs i = some x) : (∀ (H : Nat → Option VObj) (β c : Nat) (k : IntKind), aA Tryz.prog H 22 (.ref β 0 xs.length 1 c) (.lit (.int k i)) = if (H β).isSome = true then some (.ptr β (i.toNat * 1)) else none) ∧ (ae eI xs).drop (i.toNat * 1) = eI x ++ ae eI (xs.drop (i.toNat + 1)) ∧ (i.toNat * 1 ≤ (ae eI xs).length) = True := ixO Tryz.underlying22 (by kernel_rfl : szT Tryz.prog 3 = some 1) (fun _ => rfl) h
theorem yo {a0 : VV} (h : leafL [a0] = true) : av Tryz.prog 22 1 [(0, a0)] = some ([a0], 1) := by
 have h2 : szT Tryz.prog 3 = some 1 := by kernel_rfl
 have h3 : vzero Tryz.prog 3 = some #[.int .i64 0] := by kernel_rfl
 simp only [fR, fQ, Bool.and_true, Bool.and_eq_true] at h
 simp [av, Tryz.underlying22, h2, h3, vfill, vcells1, h, overwrite, vzeros, List.range_succ]
theorem yp {a0 a1 : VV} (h : leafL [a0, a1] = true) : av Tryz.prog 22 2 [(0, a0), (1, a1)] = some ([a0, a1], 1) := by
 have h2 : szT Tryz.prog 3 = some 1 := by kernel_rfl
 have h3 : vzero Tryz.prog 3 = some #[.int .i64 0] := by kernel_rfl
 simp only [fR, fQ, Bool.and_true, Bool.and_eq_true] at h
 simp [av, Tryz.underlying22, h2, h3, vfill, vcells1, h, overwrite, vzeros, List.range_succ]
theorem yq {a0 a1 a2 : VV} (h : leafL [a0, a1, a2] = true) : av Tryz.prog 22 3 [(0, a0), (1, a1), (2, a2)] = some ([a0, a1, a2], 1) := by
 have h2 : szT Tryz.prog 3 = some 1 := by kernel_rfl
 have h3 : vzero Tryz.prog 3 = some #[.int .i64 0] := by kernel_rfl
 simp only [fR, fQ, Bool.and_true, Bool.and_eq_true] at h
 simp [av, Tryz.underlying22, h2, h3, vfill, vcells1, h, overwrite, vzeros, List.range_succ]
theorem aY {H : Nat → Option VObj} {xs : List Int} {x : Int} {f : Bool} {k : IntKind} {i : Int} (h : getI xs i = some x) : aA Tryz.prog H 22 (.sl (ae eI xs) xs.length f) (.lit (.int k i)) = some (.tp (eI x ++ ae eI (xs.drop (i.toNat + 1)))) :=
 ixG Tryz.underlying22 (by kernel_rfl : szT Tryz.prog 3 = some 1) (by decide) (fun _ => rfl) h
theorem yr {c : VV} {cs : List VV} : aD Tryz.prog 23 (c :: cs) = some c := by
 have h1 : aggT Tryz.prog 23 = some false := by kernel_rfl
 simp [aD, aQ, h1]
theorem yu : szT Tryz.prog 23 = some 1 := by kernel_rfl
theorem se : vzl Tryz.prog 23 = some [.lit (.slice none 0 0)] := by kernel_rfl
theorem sf {H : Nat → Option VObj} {cs : List VV} {n : Nat} {f : Bool} : vlen Tryz.prog H 23 (.sl cs n f) = some (.lit (.int .i64 n)) := by simp [vlen, Tryz.underlying23, sls]
theorem lenN23 {H : Nat → Option VObj} : vlen Tryz.prog H 23 (.lit (.slice none 0 0)) = some (.lit (.int .i64 0)) := by simp [vlen, Tryz.underlying23, sls]
theorem lenR23 {H : Nat → Option VObj} {β off n w c : Nat} : vlen Tryz.prog H 23 (.ref β off n w c) = (match H β with | some (.cells _ cs) => if off ≤ cs.length then some (.lit (.int .i64 n)) else none | _ => none) := lenR Tryz.underlying23
theorem yv : elemT Tryz.prog 23 = some 49 := by simp [elemT, Tryz.underlying23]
theorem yw {xs : List GBs} : (ae cGBs xs).take (xs.length * 5) = ae cGBs xs := sd (fun _ => rfl)
theorem mA {xs : List GBs} {x : GBs} {i : Int} (h : getI xs i = some x) : (∀ (H : Nat → Option VObj) (β c : Nat) (k : IntKind), aA Tryz.prog H 23 (.ref β 0 xs.length 5 c) (.lit (.int k i)) = if (H β).isSome = true then some (.ptr β (i.toNat * 5)) else none) ∧ (ae cGBs xs).drop (i.toNat * 5) = cGBs x ++ ae cGBs (xs.drop (i.toNat + 1)) ∧ (i.toNat * 5 ≤ (ae cGBs xs).length) = True := ixO Tryz.underlying23 (by kernel_rfl : szT Tryz.prog 49 = some 5) (fun _ => rfl) h
theorem yx {c0 c1 c2 c3 c4 : VV} (h : leafL [c0, c1, c2, c3, c4] = true) : av Tryz.prog 23 1 [(0, .agg [c0, c1, c2, c3, c4])] = some ([c0, c1, c2, c3, c4], 5) := by
 have h2 : szT Tryz.prog 49 = some 5 := by kernel_rfl
 have h3 : vzero Tryz.prog 49 = some #[.int .i64 0, .bool false, .int .i64 0, .int .i64 0, .slice none 0 0] := by kernel_rfl
 simp only [fR, fQ, Bool.and_true, Bool.and_eq_true] at h
 simp [av, Tryz.underlying23, h2, h3, vfill, aT, h, overwrite, vzeros]
theorem bd {H : Nat → Option VObj} {xs : List GBs} {x : GBs} {f : Bool} {k : IntKind} {i : Int} (h : getI xs i = some x) : aA Tryz.prog H 23 (.sl (ae cGBs xs) xs.length f) (.lit (.int k i)) = some (.tp (cGBs x ++ ae cGBs (xs.drop (i.toNat + 1)))) :=
 ixG Tryz.underlying23 (by kernel_rfl : szT Tryz.prog 49 = some 5) (by decide) (fun _ => rfl) h
theorem yy {c0 c1 c2 : VV} {cs : List VV} : aD Tryz.prog 25 (c0 :: c1 :: c2 :: cs) = some (.agg [c0, c1, c2]) := by
 have h1 : aggT Tryz.prog 25 = some true := by kernel_rfl
 have h2 : szT Tryz.prog 25 = some 3 := by kernel_rfl
 simp [aD, aQ, h1, h2]
theorem yz : szT Tryz.prog 25 = some 3 := by kernel_rfl
theorem sg : vzl Tryz.prog 25 = some [.lit (.int .i64 0), .lit (.slice none 0 0), .lit (.slice none 0 0)] := by kernel_rfl
theorem y6 {H : Nat → Option VObj} {cs : List VV} : aj Tryz.prog H 25 (.tp cs) 0 = some (.tp (cs.drop 0)) := by
 have h2 : szT Tryz.prog 3 = some 1 := by kernel_rfl
 simp [aj, Tryz.underlying25, h2]
theorem y7 {H : Nat → Option VObj} {β o : Nat} : aj Tryz.prog H 25 (.ptr β o) 0 = if (H β).isSome = true then some (.ptr β (o + 0)) else none := by
 have h2 : szT Tryz.prog 3 = some 1 := by kernel_rfl
 simp [aj, Tryz.underlying25, h2]
theorem y8 {c0 c1 c2 : VV} : aU Tryz.prog 25 (.agg [c0, c1, c2]) 0 = some (c0) := by
 have h1 : aggT Tryz.prog 3 = some false := by kernel_rfl
 have h2 : szT Tryz.prog 3 = some 1 := by kernel_rfl
 simp [aU, Tryz.underlying25, aQ, h1, h2]
theorem y9 {H : Nat → Option VObj} {cs : List VV} : aj Tryz.prog H 25 (.tp cs) 1 = some (.tp (cs.drop 1)) := by
 have h2 : szT Tryz.prog 22 = some 1 := by kernel_rfl
 simp [aj, Tryz.underlying25, h2]
theorem yA {H : Nat → Option VObj} {β o : Nat} : aj Tryz.prog H 25 (.ptr β o) 1 = if (H β).isSome = true then some (.ptr β (o + 1)) else none := by
 have h2 : szT Tryz.prog 22 = some 1 := by kernel_rfl
 simp [aj, Tryz.underlying25, h2]
theorem yB {c0 c1 c2 : VV} : aU Tryz.prog 25 (.agg [c0, c1, c2]) 1 = some (c1) := by
 have h1 : aggT Tryz.prog 22 = some false := by kernel_rfl
 have h2 : szT Tryz.prog 22 = some 1 := by kernel_rfl
 simp [aU, Tryz.underlying25, aQ, h1, h2]
theorem yC {H : Nat → Option VObj} {cs : List VV} : aj Tryz.prog H 25 (.tp cs) 2 = some (.tp (cs.drop 2)) := by
 have h2 : szT Tryz.prog 23 = some 1 := by kernel_rfl
 simp [aj, Tryz.underlying25, h2]
theorem yD {H : Nat → Option VObj} {β o : Nat} : aj Tryz.prog H 25 (.ptr β o) 2 = if (H β).isSome = true then some (.ptr β (o + 2)) else none := by
 have h2 : szT Tryz.prog 23 = some 1 := by kernel_rfl
 simp [aj, Tryz.underlying25, h2]
theorem yE {c0 c1 c2 : VV} : aU Tryz.prog 25 (.agg [c0, c1, c2]) 2 = some (c2) := by
 have h1 : aggT Tryz.prog 23 = some false := by kernel_rfl
 have h2 : szT Tryz.prog 23 = some 1 := by kernel_rfl
 simp [aU, Tryz.underlying25, aQ, h1, h2]
theorem yF {c : VV} {cs : List VV} : aD Tryz.prog 29 (c :: cs) = some c := by
 have h1 : aggT Tryz.prog 29 = some false := by kernel_rfl
 simp [aD, aQ, h1]
theorem yG : szT Tryz.prog 29 = some 1 := by kernel_rfl
theorem sh : vzl Tryz.prog 29 = some [.lit (.int .i64 0)] := by kernel_rfl
theorem yH {c : VV} {cs : List VV} : aD Tryz.prog 31 (c :: cs) = some c := by
 have h1 : aggT Tryz.prog 31 = some false := by kernel_rfl
 simp [aD, aQ, h1]
theorem yI : szT Tryz.prog 31 = some 1 := by kernel_rfl
theorem si : vzl Tryz.prog 31 = some [.lit (.slice none 0 0)] := by kernel_rfl
theorem sj {H : Nat → Option VObj} {cs : List VV} {n : Nat} {f : Bool} : vlen Tryz.prog H 31 (.sl cs n f) = some (.lit (.int .i64 n)) := by simp [vlen, Tryz.underlying31, sls]
theorem lenN31 {H : Nat → Option VObj} : vlen Tryz.prog H 31 (.lit (.slice none 0 0)) = some (.lit (.int .i64 0)) := by simp [vlen, Tryz.underlying31, sls]
theorem lenR31 {H : Nat → Option VObj} {β off n w c : Nat} : vlen Tryz.prog H 31 (.ref β off n w c) = (match H β with | some (.cells _ cs) => if off ≤ cs.length then some (.lit (.int .i64 n)) else none | _ => none) := lenR Tryz.underlying31
theorem yJ : elemT Tryz.prog 31 = some 35 := by simp [elemT, Tryz.underlying31]
theorem yK {xs : List GSpan} : (ae cGSpan xs).take (xs.length * 2) = ae cGSpan xs := sd (fun _ => rfl)
theorem yL {c0 c1 : VV} (h : leafL [c0, c1] = true) : av Tryz.prog 31 1 [(0, .agg [c0, c1])] = some ([c0, c1], 2) := by
 have h2 : szT Tryz.prog 35 = some 2 := by kernel_rfl
 have h3 : vzero Tryz.prog 35 = some #[.int .i64 0, .int .i64 0] := by kernel_rfl
 simp only [fR, fQ, Bool.and_true, Bool.and_eq_true] at h
 simp [av, Tryz.underlying31, h2, h3, vfill, aT, h, overwrite, vzeros]
theorem yM {c0 c1 : VV} {cs : List VV} : aD Tryz.prog 35 (c0 :: c1 :: cs) = some (.agg [c0, c1]) := by
 have h1 : aggT Tryz.prog 35 = some true := by kernel_rfl
 have h2 : szT Tryz.prog 35 = some 2 := by kernel_rfl
 simp [aD, aQ, h1, h2]
theorem yN : szT Tryz.prog 35 = some 2 := by kernel_rfl
theorem j8 : vzl Tryz.prog 35 = some [.lit (.int .i64 0), .lit (.int .i64 0)] := by kernel_rfl
theorem yO {H : Nat → Option VObj} {cs : List VV} : aj Tryz.prog H 35 (.tp cs) 0 = some (.tp (cs.drop 0)) := by
 have h2 : szT Tryz.prog 3 = some 1 := by kernel_rfl
 simp [aj, Tryz.underlying35, h2]
theorem yP {H : Nat → Option VObj} {β o : Nat} : aj Tryz.prog H 35 (.ptr β o) 0 = if (H β).isSome = true then some (.ptr β (o + 0)) else none := by
 have h2 : szT Tryz.prog 3 = some 1 := by kernel_rfl
 simp [aj, Tryz.underlying35, h2]
theorem yQ {c0 c1 : VV} : aU Tryz.prog 35 (.agg [c0, c1]) 0 = some (c0) := by
 have h1 : aggT Tryz.prog 3 = some false := by kernel_rfl
 have h2 : szT Tryz.prog 3 = some 1 := by kernel_rfl
 simp [aU, Tryz.underlying35, aQ, h1, h2]
theorem yR {H : Nat → Option VObj} {cs : List VV} : aj Tryz.prog H 35 (.tp cs) 1 = some (.tp (cs.drop 1)) := by
 have h2 : szT Tryz.prog 3 = some 1 := by kernel_rfl
 simp [aj, Tryz.underlying35, h2]
theorem yS {H : Nat → Option VObj} {β o : Nat} : aj Tryz.prog H 35 (.ptr β o) 1 = if (H β).isSome = true then some (.ptr β (o + 1)) else none := by
 have h2 : szT Tryz.prog 3 = some 1 := by kernel_rfl
 simp [aj, Tryz.underlying35, h2]
theorem yT {c0 c1 : VV} : aU Tryz.prog 35 (.agg [c0, c1]) 1 = some (c1) := by
 have h1 : aggT Tryz.prog 3 = some false := by kernel_rfl
 have h2 : szT Tryz.prog 3 = some 1 := by kernel_rfl
 simp [aU, Tryz.underlying35, aQ, h1, h2]
theorem yU {c0 c1 c2 c3 c4 : VV} {cs : List VV} : aD Tryz.prog 49 (c0 :: c1 :: c2 :: c3 :: c4 :: cs) = some (.agg [c0, c1, c2, c3, c4]) := by
 have h1 : aggT Tryz.prog 49 = some true := by kernel_rfl
 have h2 : szT Tryz.prog 49 = some 5 := by kernel_rfl
 simp [aD, aQ, h1, h2]
theorem yV : szT Tryz.prog 49 = some 5 := by kernel_rfl
theorem sk : vzl Tryz.prog 49 = some [.lit (.int .i64 0), .lit (.bool false), .lit (.int .i64 0), .lit (.int .i64 0), .lit (.slice none 0 0)] := by kernel_rfl
theorem yW {H : Nat → Option VObj} {cs : List VV} : aj Tryz.prog H 49 (.tp cs) 0 = some (.tp (cs.drop 0)) := by
 have h2 : szT Tryz.prog 3 = some 1 := by kernel_rfl
 simp [aj, Tryz.underlying49, h2]
theorem yX {H : Nat → Option VObj} {β o : Nat} : aj Tryz.prog H 49 (.ptr β o) 0 = if (H β).isSome = true then some (.ptr β (o + 0)) else none := by
 have h2 : szT Tryz.prog 3 = some 1 := by kernel_rfl
 simp [aj, Tryz.underlying49, h2]
theorem yY {c0 c1 c2 c3 c4 : VV} : aU Tryz.prog 49 (.agg [c0, c1, c2, c3, c4]) 0 = some (c0) := by
 have h1 : aggT Tryz.prog 3 = some false := by kernel_rfl
 have h2 : szT Tryz.prog 3 = some 1 := by kernel_rfl
 simp [aU, Tryz.underlying49, aQ, h1, h2]
theorem yZ {H : Nat → Option VObj} {cs : List VV} : aj Tryz.prog H 49 (.tp cs) 1 = some (.tp (cs.drop 1)) := by
 have h2 : szT Tryz.prog 4 = some 1 := by kernel_rfl
 simp [aj, Tryz.underlying49, h2]
theorem za {H : Nat → Option VObj} {β o : Nat} : aj Tryz.prog H 49 (.ptr β o) 1 = if (H β).isSome = true then some (.ptr β (o + 1)) else none := by
 have h2 : szT Tryz.prog 4 = some 1 := by kernel_rfl
 simp [aj, Tryz.underlying49, h2]
theorem zb {c0 c1 c2 c3 c4 : VV} : aU Tryz.prog 49 (.agg [c0, c1, c2, c3, c4]) 1 = some (c1) := by
 have h1 : aggT Tryz.prog 4 = some false := by kernel_rfl
 have h2 : szT Tryz.prog 4 = some 1 := by kernel_rfl
 simp [aU, Tryz.underlying49, aQ, h1, h2]
theorem zc {H : Nat → Option VObj} {cs : List VV} : aj Tryz.prog H 49 (.tp cs) 2 = some (.tp (cs.drop 2)) := by
 have h2 : szT Tryz.prog 35 = some 2 := by kernel_rfl
 simp [aj, Tryz.underlying49, h2]
theorem zd {H : Nat → Option VObj} {β o : Nat} : aj Tryz.prog H 49 (.ptr β o) 2 = if (H β).isSome = true then some (.ptr β (o + 2)) else none := by
 have h2 : szT Tryz.prog 35 = some 2 := by kernel_rfl
 simp [aj, Tryz.underlying49, h2]
theorem ze {c0 c1 c2 c3 c4 : VV} : aU Tryz.prog 49 (.agg [c0, c1, c2, c3, c4]) 2 = some (.agg [c2, c3]) := by
 have h1 : aggT Tryz.prog 35 = some true := by kernel_rfl
 have h2 : szT Tryz.prog 35 = some 2 := by kernel_rfl
 simp [aU, Tryz.underlying49, aQ, h1, h2]
theorem zf {H : Nat → Option VObj} {cs : List VV} : aj Tryz.prog H 49 (.tp cs) 3 = some (.tp (cs.drop 4)) := by
 have h2 : szT Tryz.prog 22 = some 1 := by kernel_rfl
 simp [aj, Tryz.underlying49, h2]
theorem zg {H : Nat → Option VObj} {β o : Nat} : aj Tryz.prog H 49 (.ptr β o) 3 = if (H β).isSome = true then some (.ptr β (o + 4)) else none := by
 have h2 : szT Tryz.prog 22 = some 1 := by kernel_rfl
 simp [aj, Tryz.underlying49, h2]
theorem zh {c0 c1 c2 c3 c4 : VV} : aU Tryz.prog 49 (.agg [c0, c1, c2, c3, c4]) 3 = some (c4) := by
 have h1 : aggT Tryz.prog 22 = some false := by kernel_rfl
 have h2 : szT Tryz.prog 22 = some 1 := by kernel_rfl
 simp [aU, Tryz.underlying49, aQ, h1, h2]
theorem zi {c : VV} {cs : List VV} : aD Tryz.prog 51 (c :: cs) = some c := by
 have h1 : aggT Tryz.prog 51 = some false := by kernel_rfl
 simp [aD, aQ, h1]
theorem zj : szT Tryz.prog 51 = some 1 := by kernel_rfl
theorem sm : vzl Tryz.prog 51 = some [.lit (.slice none 0 0)] := by kernel_rfl
theorem sn {H : Nat → Option VObj} {cs : List VV} {n : Nat} {f : Bool} : vlen Tryz.prog H 51 (.sl cs n f) = some (.lit (.int .i64 n)) := by simp [vlen, Tryz.underlying51, sls]
theorem lenN51 {H : Nat → Option VObj} : vlen Tryz.prog H 51 (.lit (.slice none 0 0)) = some (.lit (.int .i64 0)) := by simp [vlen, Tryz.underlying51, sls]
theorem lenR51 {H : Nat → Option VObj} {β off n w c : Nat} : vlen Tryz.prog H 51 (.ref β off n w c) = (match H β with | some (.cells _ cs) => if off ≤ cs.length then some (.lit (.int .i64 n)) else none | _ => none) := lenR Tryz.underlying51
theorem zk : elemT Tryz.prog 51 = some 60 := by simp [elemT, Tryz.underlying51]
theorem zl {xs : List Int} : (ae eI xs).take (xs.length * 1) = ae eI xs := sd (fun _ => rfl)
theorem zm {a0 : VV} (h : leafL [a0] = true) : av Tryz.prog 51 1 [(0, a0)] = some ([a0], 1) := by
 have h2 : szT Tryz.prog 60 = some 1 := by kernel_rfl
 have h3 : vzero Tryz.prog 60 = some #[.int .i64 0] := by kernel_rfl
 simp only [fR, fQ, Bool.and_true, Bool.and_eq_true] at h
 simp [av, Tryz.underlying51, h2, h3, vfill, vcells1, h, overwrite, vzeros, List.range_succ]
theorem zn {a0 a1 : VV} (h : leafL [a0, a1] = true) : av Tryz.prog 51 2 [(0, a0), (1, a1)] = some ([a0, a1], 1) := by
 have h2 : szT Tryz.prog 60 = some 1 := by kernel_rfl
 have h3 : vzero Tryz.prog 60 = some #[.int .i64 0] := by kernel_rfl
 simp only [fR, fQ, Bool.and_true, Bool.and_eq_true] at h
 simp [av, Tryz.underlying51, h2, h3, vfill, vcells1, h, overwrite, vzeros, List.range_succ]
theorem zo {a0 a1 a2 : VV} (h : leafL [a0, a1, a2] = true) : av Tryz.prog 51 3 [(0, a0), (1, a1), (2, a2)] = some ([a0, a1, a2], 1) := by
 have h2 : szT Tryz.prog 60 = some 1 := by kernel_rfl
 have h3 : vzero Tryz.prog 60 = some #[.int .i64 0] := by kernel_rfl
 simp only [fR, fQ, Bool.and_true, Bool.and_eq_true] at h
 simp [av, Tryz.underlying51, h2, h3, vfill, vcells1, h, overwrite, vzeros, List.range_succ]
theorem zp {c : VV} {cs : List VV} : aD Tryz.prog 60 (c :: cs) = some c := by
 have h1 : aggT Tryz.prog 60 = some false := by kernel_rfl
 simp [aD, aQ, h1]
theorem zq : szT Tryz.prog 60 = some 1 := by kernel_rfl
theorem so : vzl Tryz.prog 60 = some [.lit (.int .i64 0)] := by kernel_rfl
theorem zr {c : VV} {cs : List VV} : aD Tryz.prog 71 (c :: cs) = some c := by
 have h1 : aggT Tryz.prog 71 = some false := by kernel_rfl
 simp [aD, aQ, h1]
theorem zt : szT Tryz.prog 71 = some 1 := by kernel_rfl
theorem sq : vzl Tryz.prog 71 = some [.lit (.slice none 0 0)] := by kernel_rfl
theorem ss {H : Nat → Option VObj} {cs : List VV} {n : Nat} {f : Bool} : vlen Tryz.prog H 71 (.sl cs n f) = some (.lit (.int .i64 n)) := by simp [vlen, Tryz.underlying71, sls]
theorem lenN71 {H : Nat → Option VObj} : vlen Tryz.prog H 71 (.lit (.slice none 0 0)) = some (.lit (.int .i64 0)) := by simp [vlen, Tryz.underlying71, sls]
theorem lenR71 {H : Nat → Option VObj} {β off n w c : Nat} : vlen Tryz.prog H 71 (.ref β off n w c) = (match H β with | some (.cells _ cs) => if off ≤ cs.length then some (.lit (.int .i64 n)) else none | _ => none) := lenR Tryz.underlying71
theorem bw : elemT Tryz.prog 71 = some 22 := by simp [elemT, Tryz.underlying71]
theorem ff : appOk Tryz.prog 71 = some (22, 1, 24) := by kernel_rfl
theorem zu {xs : List (List Int)} : (ae (eSl eI) xs).take (xs.length * 1) = ae (eSl eI) xs := sd (fun _ => rfl)
theorem iR : ∀ x : (List Int), leafL ((eSl eI) x) = true := fun x => by simp only [eI_eq, nX, eB_eq, eS_eq, nY, fQ, fR, yi, yj, yk, ym, yn, Bool.and_self]
theorem bE {xs : List (List Int)} {x : (List Int)} {i : Int} (h : getI xs i = some x) : (∀ (H : Nat → Option VObj) (β c : Nat) (k : IntKind), aA Tryz.prog H 71 (.ref β 0 xs.length 1 c) (.lit (.int k i)) = if (H β).isSome = true then some (.ptr β (i.toNat * 1)) else none) ∧ (ae (eSl eI) xs).drop (i.toNat * 1) = (eSl eI) x ++ ae (eSl eI) (xs.drop (i.toNat + 1)) ∧ (i.toNat * 1 ≤ (ae (eSl eI) xs).length) = True := ixO Tryz.underlying71 (by kernel_rfl : szT Tryz.prog 22 = some 1) (fun _ => rfl) h
theorem zw {a0 : VV} (h : leafL [a0] = true) : av Tryz.prog 71 1 [(0, a0)] = some ([a0], 1) := by
 have h2 : szT Tryz.prog 22 = some 1 := by kernel_rfl
 have h3 : vzero Tryz.prog 22 = some #[.slice none 0 0] := by kernel_rfl
 simp only [fR, fQ, Bool.and_true, Bool.and_eq_true] at h
 simp [av, Tryz.underlying71, h2, h3, vfill, vcells1, h, overwrite, vzeros, List.range_succ]
theorem zx {a0 a1 : VV} (h : leafL [a0, a1] = true) : av Tryz.prog 71 2 [(0, a0), (1, a1)] = some ([a0, a1], 1) := by
 have h2 : szT Tryz.prog 22 = some 1 := by kernel_rfl
 have h3 : vzero Tryz.prog 22 = some #[.slice none 0 0] := by kernel_rfl
 simp only [fR, fQ, Bool.and_true, Bool.and_eq_true] at h
 simp [av, Tryz.underlying71, h2, h3, vfill, vcells1, h, overwrite, vzeros, List.range_succ]
theorem zy {a0 a1 a2 : VV} (h : leafL [a0, a1, a2] = true) : av Tryz.prog 71 3 [(0, a0), (1, a1), (2, a2)] = some ([a0, a1, a2], 1) := by
 have h2 : szT Tryz.prog 22 = some 1 := by kernel_rfl
 have h3 : vzero Tryz.prog 22 = some #[.slice none 0 0] := by kernel_rfl
 simp only [fR, fQ, Bool.and_true, Bool.and_eq_true] at h
 simp [av, Tryz.underlying71, h2, h3, vfill, vcells1, h, overwrite, vzeros, List.range_succ]
theorem bh {H : Nat → Option VObj} {xs : List (List Int)} {x : (List Int)} {f : Bool} {k : IntKind} {i : Int} (h : getI xs i = some x) : aA Tryz.prog H 71 (.sl (ae (eSl eI) xs) xs.length f) (.lit (.int k i)) = some (.tp ((eSl eI) x ++ ae (eSl eI) (xs.drop (i.toNat + 1)))) :=
 ixG Tryz.underlying71 (by kernel_rfl : szT Tryz.prog 22 = some 1) (by decide) (fun _ => rfl) h
theorem z1 {c0 c1 c2 c3 c4 : VV} {cs : List VV} : aD Tryz.prog 92 (c0 :: c1 :: c2 :: c3 :: c4 :: cs) = some (.agg [c0, c1, c2, c3, c4]) := by
 have h1 : aggT Tryz.prog 92 = some true := by kernel_rfl
 have h2 : szT Tryz.prog 92 = some 5 := by kernel_rfl
 simp [aD, aQ, h1, h2]
theorem z2 : szT Tryz.prog 92 = some 5 := by kernel_rfl
theorem mB : vzl Tryz.prog 92 = some [.lit (.int .i64 0), .lit (.slice none 0 0), .lit (.slice none 0 0), .lit (.slice none 0 0), .lit (.map none)] := by kernel_rfl
theorem z3 {H : Nat → Option VObj} {cs : List VV} : aj Tryz.prog H 92 (.tp cs) 0 = some (.tp (cs.drop 0)) := by
 have h2 : szT Tryz.prog 25 = some 3 := by kernel_rfl
 simp [aj, Tryz.underlying92, h2]
theorem z4 {H : Nat → Option VObj} {β o : Nat} : aj Tryz.prog H 92 (.ptr β o) 0 = if (H β).isSome = true then some (.ptr β (o + 0)) else none := by
 have h2 : szT Tryz.prog 25 = some 3 := by kernel_rfl
 simp [aj, Tryz.underlying92, h2]
theorem z5 {c0 c1 c2 c3 c4 : VV} : aU Tryz.prog 92 (.agg [c0, c1, c2, c3, c4]) 0 = some (.agg [c0, c1, c2]) := by
 have h1 : aggT Tryz.prog 25 = some true := by kernel_rfl
 have h2 : szT Tryz.prog 25 = some 3 := by kernel_rfl
 simp [aU, Tryz.underlying92, aQ, h1, h2]
theorem z6 {H : Nat → Option VObj} {cs : List VV} : aj Tryz.prog H 92 (.tp cs) 1 = some (.tp (cs.drop 3)) := by
 have h2 : szT Tryz.prog 22 = some 1 := by kernel_rfl
 simp [aj, Tryz.underlying92, h2]
theorem z7 {H : Nat → Option VObj} {β o : Nat} : aj Tryz.prog H 92 (.ptr β o) 1 = if (H β).isSome = true then some (.ptr β (o + 3)) else none := by
 have h2 : szT Tryz.prog 22 = some 1 := by kernel_rfl
 simp [aj, Tryz.underlying92, h2]
theorem z8 {c0 c1 c2 c3 c4 : VV} : aU Tryz.prog 92 (.agg [c0, c1, c2, c3, c4]) 1 = some (c3) := by
 have h1 : aggT Tryz.prog 22 = some false := by kernel_rfl
 have h2 : szT Tryz.prog 22 = some 1 := by kernel_rfl
 simp [aU, Tryz.underlying92, aQ, h1, h2]
theorem z9 {H : Nat → Option VObj} {cs : List VV} : aj Tryz.prog H 92 (.tp cs) 2 = some (.tp (cs.drop 4)) := by
 have h2 : szT Tryz.prog 90 = some 1 := by kernel_rfl
 simp [aj, Tryz.underlying92, h2]
theorem zA {H : Nat → Option VObj} {β o : Nat} : aj Tryz.prog H 92 (.ptr β o) 2 = if (H β).isSome = true then some (.ptr β (o + 4)) else none := by
 have h2 : szT Tryz.prog 90 = some 1 := by kernel_rfl
 simp [aj, Tryz.underlying92, h2]
theorem zB {c0 c1 c2 c3 c4 : VV} : aU Tryz.prog 92 (.agg [c0, c1, c2, c3, c4]) 2 = some (c4) := by
 have h1 : aggT Tryz.prog 90 = some false := by kernel_rfl
 have h2 : szT Tryz.prog 90 = some 1 := by kernel_rfl
 simp [aU, Tryz.underlying92, aQ, h1, h2]
theorem su {c0 : VV} {cs : List VV} : aD Tryz.prog 124 (c0 :: cs) = some (.agg [c0]) := by
 have h1 : aggT Tryz.prog 124 = some true := by kernel_rfl
 have h2 : szT Tryz.prog 124 = some 1 := by kernel_rfl
 simp [aD, aQ, h1, h2]
theorem sv : szT Tryz.prog 124 = some 1 := by kernel_rfl
theorem j9 : vzl Tryz.prog 124 = some [.lit (.slice none 0 0)] := by kernel_rfl
theorem zC {H : Nat → Option VObj} {cs : List VV} : aj Tryz.prog H 124 (.tp cs) 0 = some (.tp (cs.drop 0)) := by
 have h2 : szT Tryz.prog 22 = some 1 := by kernel_rfl
 simp [aj, Tryz.underlying124, h2]
theorem zD {H : Nat → Option VObj} {β o : Nat} : aj Tryz.prog H 124 (.ptr β o) 0 = if (H β).isSome = true then some (.ptr β (o + 0)) else none := by
 have h2 : szT Tryz.prog 22 = some 1 := by kernel_rfl
 simp [aj, Tryz.underlying124, h2]
theorem zE {c0 : VV} : aU Tryz.prog 124 (.agg [c0]) 0 = some (c0) := by
 have h1 : aggT Tryz.prog 22 = some false := by kernel_rfl
 have h2 : szT Tryz.prog 22 = some 1 := by kernel_rfl
 simp [aU, Tryz.underlying124, aQ, h1, h2]
theorem sw {c0 c1 : VV} {cs : List VV} : aD Tryz.prog 152 (c0 :: c1 :: cs) = some (.agg [c0, c1]) := by
 have h1 : aggT Tryz.prog 152 = some true := by kernel_rfl
 have h2 : szT Tryz.prog 152 = some 2 := by kernel_rfl
 simp [aD, aQ, h1, h2]
theorem sx : szT Tryz.prog 152 = some 2 := by kernel_rfl
theorem jA : vzl Tryz.prog 152 = some [.lit (.int .i64 0), .lit (.int .i64 0)] := by kernel_rfl
theorem zF {H : Nat → Option VObj} {cs : List VV} : aj Tryz.prog H 152 (.tp cs) 0 = some (.tp (cs.drop 0)) := by
 have h2 : szT Tryz.prog 3 = some 1 := by kernel_rfl
 simp [aj, Tryz.underlying152, h2]
theorem zG {H : Nat → Option VObj} {β o : Nat} : aj Tryz.prog H 152 (.ptr β o) 0 = if (H β).isSome = true then some (.ptr β (o + 0)) else none := by
 have h2 : szT Tryz.prog 3 = some 1 := by kernel_rfl
 simp [aj, Tryz.underlying152, h2]
theorem zH {c0 c1 : VV} : aU Tryz.prog 152 (.agg [c0, c1]) 0 = some (c0) := by
 have h1 : aggT Tryz.prog 3 = some false := by kernel_rfl
 have h2 : szT Tryz.prog 3 = some 1 := by kernel_rfl
 simp [aU, Tryz.underlying152, aQ, h1, h2]
theorem zI {H : Nat → Option VObj} {cs : List VV} : aj Tryz.prog H 152 (.tp cs) 1 = some (.tp (cs.drop 1)) := by
 have h2 : szT Tryz.prog 3 = some 1 := by kernel_rfl
 simp [aj, Tryz.underlying152, h2]
theorem zJ {H : Nat → Option VObj} {β o : Nat} : aj Tryz.prog H 152 (.ptr β o) 1 = if (H β).isSome = true then some (.ptr β (o + 1)) else none := by
 have h2 : szT Tryz.prog 3 = some 1 := by kernel_rfl
 simp [aj, Tryz.underlying152, h2]
theorem zK {c0 c1 : VV} : aU Tryz.prog 152 (.agg [c0, c1]) 1 = some (c1) := by
 have h1 : aggT Tryz.prog 3 = some false := by kernel_rfl
 have h2 : szT Tryz.prog 3 = some 1 := by kernel_rfl
 simp [aU, Tryz.underlying152, aQ, h1, h2]
theorem sy {c : VV} {cs : List VV} : aD Tryz.prog 156 (c :: cs) = some c := by
 have h1 : aggT Tryz.prog 156 = some false := by kernel_rfl
 simp [aD, aQ, h1]
theorem s5 : szT Tryz.prog 156 = some 1 := by kernel_rfl
theorem nZ : vzl Tryz.prog 156 = some [.lit (.int .i64 0)] := by kernel_rfl
theorem N4 : szT Tryz.prog 1 = some 1 := by kernel_rfl
theorem N5 {c : VV} {cs : List VV} : aD Tryz.prog 1 (c :: cs) = some c := by
 have h1 : aggT Tryz.prog 1 = some false := by kernel_rfl
 simp [aD, aQ, h1]
theorem zL : vzl Tryz.prog 1 = some [.lit .nilFunc] := by kernel_rfl
theorem bY : szT Tryz.prog 27 = some 1 := by kernel_rfl
theorem bZ {c : VV} {cs : List VV} : aD Tryz.prog 27 (c :: cs) = some c := by
 have h1 : aggT Tryz.prog 27 = some false := by kernel_rfl
 simp [aD, aQ, h1]
theorem bu : vzl Tryz.prog 27 = some [.lit .nilFunc] := by kernel_rfl
theorem zM : szT Tryz.prog 47 = some 1 := by kernel_rfl
theorem ca {c : VV} {cs : List VV} : aD Tryz.prog 47 (c :: cs) = some c := by
 have h1 : aggT Tryz.prog 47 = some false := by kernel_rfl
 simp [aD, aQ, h1]
theorem s6 : vzl Tryz.prog 47 = some [.lit .nilFunc] := by kernel_rfl
theorem s7 : szT Tryz.prog 104 = some 1 := by kernel_rfl
theorem s8 {c : VV} {cs : List VV} : aD Tryz.prog 104 (c :: cs) = some c := by
 have h1 : aggT Tryz.prog 104 = some false := by kernel_rfl
 simp [aD, aQ, h1]
theorem oa : vzl Tryz.prog 104 = some [.lit .nilFunc] := by kernel_rfl
theorem s9 : szT Tryz.prog 105 = some 1 := by kernel_rfl
theorem sA {c : VV} {cs : List VV} : aD Tryz.prog 105 (c :: cs) = some c := by
 have h1 : aggT Tryz.prog 105 = some false := by kernel_rfl
 simp [aD, aQ, h1]
theorem oc : vzl Tryz.prog 105 = some [.lit .nilFunc] := by kernel_rfl
theorem sB : szT Tryz.prog 129 = some 1 := by kernel_rfl
theorem mC {c : VV} {cs : List VV} : aD Tryz.prog 129 (c :: cs) = some c := by
 have h1 : aggT Tryz.prog 129 = some false := by kernel_rfl
 simp [aD, aQ, h1]
theorem od : vzl Tryz.prog 129 = some [.lit .nilFunc] := by kernel_rfl
theorem sC : szT Tryz.prog 130 = some 1 := by kernel_rfl
theorem dD {c : VV} {cs : List VV} : aD Tryz.prog 130 (c :: cs) = some c := by
 have h1 : aggT Tryz.prog 130 = some false := by kernel_rfl
 simp [aD, aQ, h1]
theorem oe : vzl Tryz.prog 130 = some [.lit .nilFunc] := by kernel_rfl
theorem sD : szT Tryz.prog 131 = some 1 := by kernel_rfl
theorem sE {c : VV} {cs : List VV} : aD Tryz.prog 131 (c :: cs) = some c := by
 have h1 : aggT Tryz.prog 131 = some false := by kernel_rfl
 simp [aD, aQ, h1]
theorem og : vzl Tryz.prog 131 = some [.lit .nilFunc] := by kernel_rfl
theorem sF : szT Tryz.prog 132 = some 1 := by kernel_rfl
theorem sG {c : VV} {cs : List VV} : aD Tryz.prog 132 (c :: cs) = some c := by
 have h1 : aggT Tryz.prog 132 = some false := by kernel_rfl
 simp [aD, aQ, h1]
theorem oh : vzl Tryz.prog 132 = some [.lit .nilFunc] := by kernel_rfl
theorem sH : szT Tryz.prog 153 = some 1 := by kernel_rfl
theorem sJ {c : VV} {cs : List VV} : aD Tryz.prog 153 (c :: cs) = some c := by
 have h1 : aggT Tryz.prog 153 = some false := by kernel_rfl
 simp [aD, aQ, h1]
theorem om : vzl Tryz.prog 153 = some [.lit .nilFunc] := by kernel_rfl
theorem sK : szT Tryz.prog 154 = some 2 := by kernel_rfl
theorem jB : vzl Tryz.prog 154 = some [.lit .nilFunc, .lit .nilFunc] := by kernel_rfl
theorem sL {c0 c1 : VV} {cs : List VV} : aD Tryz.prog 154 (c0 :: c1 :: cs) = some (.agg [c0, c1]) := by
 have h1 : aggT Tryz.prog 154 = some true := by kernel_rfl
 have h2 : szT Tryz.prog 154 = some 2 := by kernel_rfl
 simp [aD, aQ, h1, h2]
theorem zN {c0 c1 : VV} {k : IntKind} : vindex Tryz.prog 154 (.agg [c0, c1]) (.lit (.int k 0)) = some c0 := by
 have h1 : aggT Tryz.prog 153 = some false := by kernel_rfl
 have h2 : szT Tryz.prog 153 = some 1 := by kernel_rfl
 simp [vindex, Tryz.underlying154, aQ, h1, h2]
theorem zO {H : Nat → Option VObj} {β o : Nat} {k : IntKind} : aA Tryz.prog H 154 (.ptr β o) (.lit (.int k 0)) = if (H β).isSome = true then some (.ptr β (o + 0)) else none := by
 have h2 : szT Tryz.prog 153 = some 1 := by kernel_rfl
 simp [aA, Tryz.underlying154, h2]
theorem zP {c0 c1 : VV} {k : IntKind} : vindex Tryz.prog 154 (.agg [c0, c1]) (.lit (.int k 1)) = some c1 := by
 have h1 : aggT Tryz.prog 153 = some false := by kernel_rfl
 have h2 : szT Tryz.prog 153 = some 1 := by kernel_rfl
 simp [vindex, Tryz.underlying154, aQ, h1, h2]
theorem zQ {H : Nat → Option VObj} {β o : Nat} {k : IntKind} : aA Tryz.prog H 154 (.ptr β o) (.lit (.int k 1)) = if (H β).isSome = true then some (.ptr β (o + 1)) else none := by
 have h2 : szT Tryz.prog 153 = some 1 := by kernel_rfl
 simp [aA, Tryz.underlying154, h2]
theorem zR : vbuild Tryz.prog 35 [] = some (.agg [.lit (.int .i64 0), .lit (.int .i64 0)]) := by
 rw [qA j8 (by kernel_rfl)]
 rfl
theorem zS {c8 dw : VV} (h : leafL [c8, dw] = true) : vbuild Tryz.prog 35 [(0, c8), (1, dw)] = some (.agg [c8, dw]) := by
 have p0 : placeT Tryz.prog 35 0 = some (0, 1) := by kernel_rfl
 have p1 : placeT Tryz.prog 35 1 = some (1, 1) := by kernel_rfl
 simp only [fR, fQ, Bool.and_true, Bool.and_eq_true] at h
 rw [qA j8 (by kernel_rfl)]
 simp [vfill, p0, p1, vcells1, h, overwrite]
theorem zT {c8 jC jD dw oo : VV} (h : leafL [c8, jC, jD, dw, oo] = true) : vbuild Tryz.prog 92 [(0, .agg [c8, jC, jD]), (1, dw), (2, oo)] = some (.agg [c8, jC, jD, dw, oo]) := by
 have p0 : placeT Tryz.prog 92 0 = some (0, 3) := by kernel_rfl
 have p1 : placeT Tryz.prog 92 1 = some (3, 1) := by kernel_rfl
 have p2 : placeT Tryz.prog 92 2 = some (4, 1) := by kernel_rfl
 simp only [fR, fQ, Bool.and_true, Bool.and_eq_true] at h
 have q0 : aT (.agg [c8, jC, jD]) = some [c8, jC, jD] := by rw [JP]; simp [fR, fQ, h]
 rw [qA mB (by kernel_rfl)]
 simp [vfill, p0, p1, p2, vcells1, h, overwrite, q0]
theorem zU {c8 : VV} (h : leafL [c8] = true) : vbuild Tryz.prog 124 [(0, c8)] = some (.agg [c8]) := by
 have p0 : placeT Tryz.prog 124 0 = some (0, 1) := by kernel_rfl
 simp only [fR, fQ, Bool.and_true, Bool.and_eq_true] at h
 rw [qA j9 (by kernel_rfl)]
 simp [vfill, p0, vcells1, h, overwrite]
theorem zV {c8 dw : VV} (h : leafL [c8, dw] = true) : vbuild Tryz.prog 152 [(0, c8), (1, dw)] = some (.agg [c8, dw]) := by
 have p0 : placeT Tryz.prog 152 0 = some (0, 1) := by kernel_rfl
 have p1 : placeT Tryz.prog 152 1 = some (1, 1) := by kernel_rfl
 simp only [fR, fQ, Bool.and_true, Bool.and_eq_true] at h
 rw [qA jA (by kernel_rfl)]
 simp [vfill, p0, p1, vcells1, h, overwrite]
theorem zW {c8 dw : VV} (h : leafL [c8, dw] = true) : vbuild Tryz.prog 154 [(0, c8), (1, dw)] = some (.agg [c8, dw]) := by
 have p0 : placeT Tryz.prog 154 0 = some (0, 1) := by kernel_rfl
 have p1 : placeT Tryz.prog 154 1 = some (1, 1) := by kernel_rfl
 simp only [fR, fQ, Bool.and_true, Bool.and_eq_true] at h
 rw [qA jB (by kernel_rfl)]
 simp [vfill, p0, p1, vcells1, h, overwrite]
theorem sM {x : VV} : mkIfcV Tryz.prog 124 x = some (.ifc 124 x) := by simp [mkIfcV, Tryz.underlying124]
theorem sN : ((Tryz.prog.info? 124).bind (·.zero)).map (fun z => VV.tup [ofVal2 z, .lit (.bool false)]) = some (.tup [.agg [.lit (.slice none 0 0)], .lit (.bool false)]) := by kernel_rfl
theorem sO : vtypeAssert Tryz.prog (.lit .nilIface) 124 true = some (.tup [.agg [.lit (.slice none 0 0)], .lit (.bool false)]) := by
 simp only [vtypeAssert, Tryz.underlying124, if_true]
 exact sN
theorem sP {x : VV} : vtypeAssert Tryz.prog (.ifc 124 x) 124 true = some (.tup [x, .lit (.bool true)]) := by
 simp [vtypeAssert, Tryz.underlying124]
theorem N6 {H : Nat → Option VObj} {x y : Operand} {a b : Bool} : binV Tryz.prog H .eql 4 x y (.lit (.bool a)) (.lit (.bool b)) = some (.lit (.bool (a == b))) := zX Tryz.underlying4
theorem N7 {H : Nat → Option VObj} {x y : Operand} {a b : Bool} : binV Tryz.prog H .neq 4 x y (.lit (.bool a)) (.lit (.bool b)) = some (.lit (.bool (a != b))) := zY Tryz.underlying4
theorem sQ {H : Nat → Option VObj} {x y : Operand} {a0 b0 : Int} {a1 b1 : Int} : binV Tryz.prog H .eql 35 x y (.agg [.lit (.int .i64 a0), .lit (.int .i64 a1)]) (.agg [.lit (.int .i64 b0), .lit (.int .i64 b1)]) = some (.lit (.bool (a0 == b0 && (a1 == b1)))) ∧ binV Tryz.prog H .neq 35 x y (.agg [.lit (.int .i64 a0), .lit (.int .i64 a1)]) (.agg [.lit (.int .i64 b0), .lit (.int .i64 b1)]) = some (.lit (.bool (!(a0 == b0 && (a1 == b1))))) := by
 refine binS (xs := [.int .i64 a0, .int .i64 a1]) (ys := [.int .i64 b0, .int .i64 b1]) (by simp [VV.val?, valL?]) (by simp [VV.val?, valL?]) Tryz.underlying35 (by kernel_rfl) (by kernel_rfl) ?_
 simp [eqF, jE, eq1, Tryz.underlying3]
theorem zZ {H : Nat → Option VObj} {x y : Operand} {a0 b0 : Int} {a1 b1 : Int} : binV Tryz.prog H .eql 35 x y (.agg [.lit (.int .i64 a0), .lit (.int .i64 a1)]) (.agg [.lit (.int .i64 b0), .lit (.int .i64 b1)]) = some (.lit (.bool (a0 == b0 && (a1 == b1)))) := sQ.1
theorem Aa {H : Nat → Option VObj} {x y : Operand} {a0 b0 : Int} {a1 b1 : Int} : binV Tryz.prog H .neq 35 x y (.agg [.lit (.int .i64 a0), .lit (.int .i64 a1)]) (.agg [.lit (.int .i64 b0), .lit (.int .i64 b1)]) = some (.lit (.bool (!(a0 == b0 && (a1 == b1))))) := sQ.2
theorem Ab : (VV.lit Value.nilFunc).leaf = true := rfl
theorem Ac : (VV.lit Value.nilIface).leaf = true := rfl
def tyf := (And.intro (And.intro (And.intro (And.intro (And.intro (And.intro (And.intro @qy (And.intro @sa @kA)) (And.intro @we (And.intro @wg @Nw))) (And.intro (And.intro @Nx (And.intro @yb @Ny)) (And.intro @Nz (And.intro @yc @N0)))) (And.intro (And.intro (And.intro @N1 (And.intro @yd @N2)) (And.intro @N3 (And.intro @ye @yf))) (And.intro (And.intro @yg (And.intro @sb @sc)) (And.intro @lenN22 (And.intro @lenR22 @cT))))) (And.intro (And.intro (And.intro (And.intro @yh (And.intro @yo @yp)) (And.intro @yq (And.intro @yr @yu))) (And.intro (And.intro @se (And.intro @sf @lenN23)) (And.intro @lenR23 (And.intro @yv @yw)))) (And.intro (And.intro (And.intro @yx (And.intro @yy @yz)) (And.intro @sg (And.intro @y6 @y7))) (And.intro (And.intro @y8 (And.intro @y9 @yA)) (And.intro (And.intro @yB @yC) (And.intro @yD @yE)))))) (And.intro (And.intro (And.intro (And.intro (And.intro @yF (And.intro @yG @sh)) (And.intro @yH (And.intro @yI @si))) (And.intro (And.intro @sj (And.intro @lenN31 @lenR31)) (And.intro @yJ (And.intro @yK @yL)))) (And.intro (And.intro (And.intro @yM (And.intro @yN @j8)) (And.intro @yO (And.intro @yP @yQ))) (And.intro (And.intro @yR (And.intro @yS @yT)) (And.intro (And.intro @yU @yV) (And.intro @sk @yW))))) (And.intro (And.intro (And.intro (And.intro @yX (And.intro @yY @yZ)) (And.intro @za (And.intro @zb @zc))) (And.intro (And.intro @zd (And.intro @ze @zf)) (And.intro @zg (And.intro @zh @zi)))) (And.intro (And.intro (And.intro @zj (And.intro @sm @sn)) (And.intro @lenN51 (And.intro @lenR51 @zk))) (And.intro (And.intro @zl (And.intro @zm @zn)) (And.intro (And.intro @zo @zp) (And.intro @zq @so))))))) (And.intro (And.intro (And.intro (And.intro (And.intro (And.intro @zr (And.intro @zt @sq)) (And.intro @ss (And.intro @lenN71 @lenR71))) (And.intro (And.intro @bw (And.intro @zu @zw)) (And.intro @zx (And.intro @zy @z1)))) (And.intro (And.intro (And.intro @z2 (And.intro @mB @z3)) (And.intro @z4 (And.intro @z5 @z6))) (And.intro (And.intro @z7 (And.intro @z8 @z9)) (And.intro @zA (And.intro @zB @su))))) (And.intro (And.intro (And.intro (And.intro @sv (And.intro @j9 @zC)) (And.intro @zD (And.intro @zE @sw))) (And.intro (And.intro @sx (And.intro @jA @zF)) (And.intro @zG (And.intro @zH @zI)))) (And.intro (And.intro (And.intro @zJ (And.intro @zK @sy)) (And.intro @s5 (And.intro @nZ @N4))) (And.intro (And.intro @N5 (And.intro @zL @bY)) (And.intro (And.intro @bZ @bu) (And.intro @zM @ca)))))) (And.intro (And.intro (And.intro (And.intro (And.intro @s6 (And.intro @s7 @s8)) (And.intro @oa (And.intro @s9 @sA))) (And.intro (And.intro @oc (And.intro @sB @mC)) (And.intro @od (And.intro @sC @dD)))) (And.intro (And.intro (And.intro @oe (And.intro @sD @sE)) (And.intro @og (And.intro @sF @sG))) (And.intro (And.intro @oh (And.intro @sH @sJ)) (And.intro (And.intro @om @sK) (And.intro @jB @sL))))) (And.intro (And.intro (And.intro (And.intro @zN (And.intro @zO @zP)) (And.intro @zQ (And.intro @zR @zS))) (And.intro (And.intro @zT (And.intro @zU @zV)) (And.intro @zW (And.intro @sM @sO)))) (And.intro (And.intro (And.intro @sP (And.intro @N6 @N7)) (And.intro @zZ (And.intro @Aa @Ab))) (And.intro (And.intro @Ac (And.intro @JQ @eI_eq)) (And.intro (And.intro @nX @eB_eq) (And.intro @eS_eq @nY))))))))
def aN := (And.intro (And.intro (And.intro (And.intro @dy.norm (And.intro @dy.normL @dy.shown)) (And.intro @dy.showL (And.intro @eF.norm @eF.normL))) (And.intro (And.intro @eF.shown (And.intro @eF.showL @gn.norm)) (And.intro @gn.normL (And.intro @gn.shown @gn.showL)))) (And.intro (And.intro (And.intro @jr.norm (And.intro @jr.normL @jr.shown)) (And.intro @jr.showL (And.intro @qz.norm @qz.normL))) (And.intro (And.intro @qz.shown (And.intro @qz.showL @q9.norm)) (And.intro @q9.normL (And.intro @q9.shown @q9.showL)))))
def tytre := (And.intro (And.intro (And.intro @dy.tree (And.intro @dy.treeL @eF.tree)) (And.intro @eF.treeL (And.intro @gn.tree @gn.treeL))) (And.intro (And.intro @jr.tree (And.intro @jr.treeL @qz.tree)) (And.intro @qz.treeL (And.intro @q9.tree @q9.treeL))))
end Go.V
namespace Go.V
open Go Go.Proofs IntKind
theorem ktA {P : Program} {G : Glob} {d : Option Tmp} {γ : Nat} {tm : Nat → VV} {H : Nat → Option VObj} {nx : Nat} {df : List VDef} {K : St → Prop} {Qp : VV → St → Prop} {f : FuncId} {args args0 : List VV} {x : VV} (hp : ak P G f args0 (.tree x)) (h : fin d γ tm H nx df K x .none) (hn : normL args = args0 := by first | (simp only [nrm, aN] <;> rfl) | rfl) (ht : treeL args = true := by simp only [tre, tytre, Bool.and_self]) : callK P G f args ⟨tm, H, nx, df⟩ d γ K Qp := ktree hn ht hp h
theorem dktA {P : Program} {G : Glob} {d : Option Tmp} {γ : Nat} {tm : Nat → VV} {H : Nat → Option VObj} {nx : Nat} {df : List VDef} {K : List Nat → List Nat → St → Prop} {f : FuncId} {args args0 : List VV} {x : VV} (hp : ak P G f args0 (.tree x)) (h : fin d γ tm H nx df (K [] []) x .none) (hn : normL args = args0 := by first | (simp only [nrm, aN] <;> rfl) | rfl) (ht : treeL args = true := by simp only [tre, tytre, Bool.and_self]) : dcallK P G f args tm H nx df d γ K := dktree hn ht hp h
theorem optI {α β : Type} {K : Option β → Prop} {X : Option α} {F : α → Option β} (h : K (Option.bind X F)) (kN : ¬ K none) : ∃ r, X = some r ∧ K (F r) := by
  cases X with
  | none => exact absurd h kN
  | some r => exact ⟨r, rfl, h⟩
end Go.V
end
section
namespace Go.V
open Go Go.Proofs IntKind
def Dec (P : Program) (n : Nat) (t : TypeId) {α : Type} (enc : α → List VV) (R : α → Prop) : Prop := ∀ xs, ShapeT P n t xs → ∃ x : α, R x ∧ normL xs = enc x
theorem Ad {P : Program} {n : Nat} {t : TypeId} (hu : P.underlying t = some (.int .i64)) : Dec P (n + 1) t eI (fun _ => True) := by
 intro xs h
 simp only [ShapeT, hu] at h
 obtain ⟨i, _, rfl⟩ := h
 exact ⟨i, trivial, by simp only [mD, oq, JR, eI]⟩
theorem Ae {P : Program} {n : Nat} {t : TypeId} (hu : P.underlying t = some .bool) : Dec P (n + 1) t eB (fun _ => True) := by
 intro xs h
 simp only [ShapeT, hu] at h
 obtain ⟨b, rfl⟩ := h
 exact ⟨b, trivial, by simp only [mD, oq, Af, eB]⟩
theorem JS {P : Program} {n : Nat} {t : TypeId} {α : Type} {enc : α → List VV} {R : α → Prop} (h : Dec P n t enc R) : ∀ yss : List (List VV), (∀ ys ∈ yss, ShapeT P n t ys) → ∃ l : List α, l.length = yss.length ∧ (∀ x ∈ l, R x) ∧ normL yss.flatten = ae enc l
 | [], _ => ⟨[], rfl, fun _ hx => (by cases hx), rfl⟩
 | ys :: yss, hs => by
  obtain ⟨x, hx, e⟩ := h ys (hs ys (List.mem_cons_self ..))
  obtain ⟨l, h1, h2, h3⟩ := JS h yss (fun y hy => hs y (List.mem_cons_of_mem _ hy))
  refine ⟨x :: l, by simp [h1], fun y hy => ?_, by rw [List.flatten_cons, qB, e, h3, fq]⟩
  rcases List.mem_cons.1 hy with rfl | hy
  ·exact hx
  ·exact h2 y hy
theorem JT {P : Program} {n : Nat} {t e : TypeId} {α : Type} {enc : α → List VV} {R : α → Prop} (hu : P.underlying t = some (.slice e)) (h : Dec P n e enc R) : Dec P (n + 1) t (fun l : List α => [.sl (ae enc l) l.length false]) (fun l => aO l = true ∧ ∀ x ∈ l, R x) := by
 intro xs hs
 simp only [ShapeT, hu] at hs
 rcases hs with rfl | ⟨yss, hl, hall, rfl⟩
 ·exact ⟨[], ⟨rfl, fun _ hx => (by cases hx)⟩, by simp only [mD, oq, JU]; rfl⟩
 ·obtain ⟨l, h1, h2, h3⟩ := JS h yss hall
  refine ⟨l, ⟨?_, h2⟩, by simp only [mD, oq, sR, h3, h1]⟩
  have : maxLen = 9223372036854775807 := by decide
  unfold aO
  exact decide_eq_true (by omega)
theorem N8 {P : Program} {n : Nat} {t : TypeId} {fs : Array Field} {xs : List VV} (hu : P.underlying t = some (.struct fs)) (h : ShapeT P (n + 1) t xs) : ∃ yss, FieldsS (ShapeT P n) fs.toList yss ∧ xs = yss.flatten := by
 simp only [ShapeT, hu] at h
 exact h
def TypesS (S : TypeId → List VV → Prop) : List TypeId → List (List VV) → Prop
 | [], [] => True
 | t :: ts, ys :: yss => S t ys ∧ TypesS S ts yss
 | _, _ => False
theorem sS {S : TypeId → List VV → Prop} : ∀ (fs : List Field) (yss : List (List VV)), FieldsS S fs yss → TypesS S (fs.map Field.type) yss
 | [], [], _ => trivial
 | f :: fs, ys :: yss, ⟨h1, h2⟩ => ⟨h1, sS fs yss h2⟩
 | [], _ :: _, h => h
 | _ :: _, [], h => h
theorem Ag {P : Program} {n : Nat} {t : TypeId} {fs : Array Field} {ts : List TypeId} {xs : List VV} (hu : P.underlying t = some (.struct fs)) (ht : fs.toList.map Field.type = ts) (h : ShapeT P (n + 1) t xs) : ∃ yss, TypesS (ShapeT P n) ts yss ∧ xs = yss.flatten := by
 obtain ⟨yss, h1, h2⟩ := N8 hu h
 exact ⟨yss, ht ▸ sS _ _ h1, h2⟩
theorem JV {P : Program} {n : Nat} {t : TypeId} {ts : List TypeId} {xs : List VV} (h : ArgsS P n (t :: ts) xs) : ∃ x xs', xs = x :: xs' ∧ ArgS P n t x ∧ ArgsS P n ts xs' := by
 match xs, h with
 | x :: xs', h => exact ⟨x, xs', rfl, h.1, h.2⟩
theorem Ah {P : Program} {n : Nat} {xs : List VV} (h : ArgsS P n [] xs) : xs = [] := by
 match xs, h with
 | [], _ => rfl
theorem Ai {P : Program} {n : Nat} {t : TypeId} {fs : Array Field} {x : VV} {α : Type} {enc : α → List VV} {R : α → Prop} (hu : P.underlying t = some (.struct fs)) (hd : Dec P n t enc R) (h : ArgS P n t x) : ∃ s, R s ∧ normV x = .agg (enc s) := by
 obtain ⟨ys, h1, h2⟩ := h
 rw [hu] at h2
 obtain rfl : x = .agg ys := h2
 obtain ⟨s, hs, e⟩ := hd ys h1
 exact ⟨s, hs, by rw [JW, e]⟩
theorem Aj {P : Program} {n : Nat} {t : TypeId} {d : TypeDesc} {x : VV} {α : Type} {enc : α → List VV} {R : α → Prop} (hu : P.underlying t = some d) (hn : (∀ fs, d ≠ .struct fs) ∧ ∀ m e, d ≠ .array m e) (hd : Dec P n t enc R) (h : ArgS P n t x) : ∃ s, R s ∧ [normV x] = enc s := by
 obtain ⟨ys, h1, h2⟩ := h
 rw [hu] at h2
 have h3 : ys = [x] := by
  cases d <;> first | exact h2 | exact absurd rfl (hn.1 _) | exact absurd rfl (hn.2 _ _)
 subst h3
 obtain ⟨s, hs, e⟩ := hd _ h1
 exact ⟨s, hs, by rw [← e, mD, oq]⟩
end Go.V
end
section
set_option maxRecDepth 100000
namespace Go.V
open Go Go.Proofs IntKind
def Ak (x : GBs) : Prop := aO x.Needs = true
def JX (x : GBk) : Prop := aO x.Boards = true ∧ aO x.Strokes = true ∧ ∀ y ∈ x.Strokes, Ak y
section
variable {P : Program} (gI : P.underlying 3 = some (.int .i64)) (dU : P.underlying 22 = some (.slice 3)) (iS : P.underlying 4 = some (.bool)) {JY : Array Field} (dV : P.underlying 35 = some (.struct JY)) (dW : JY.toList.map Field.type = [3, 3]) {JZ : Array Field} (dX : P.underlying 49 = some (.struct JZ)) (dY : JZ.toList.map Field.type = [3, 4, 35, 22]) (dZ : P.underlying 23 = some (.slice 49)) {Ke : Array Field} (ed : P.underlying 25 = some (.struct Ke)) (eg : Ke.toList.map Field.type = [3, 22, 23])
include gI dU iS dV dW dX dY dZ ed eg
theorem gd_3 {n : Nat} : Dec P (n + 1) 3 eI (fun _ => True) := Ad gI
theorem gd_22 {n : Nat} : Dec P (n + 2) 22 (eSl eI) (fun l => aO l = true ∧ ∀ x ∈ l, True) := JT dU (gd_3 gI dU iS dV dW dX dY dZ ed eg (n := n))
theorem gd_4 {n : Nat} : Dec P (n + 1) 4 eB (fun _ => True) := Ae iS
theorem gd_35 {n : Nat} : Dec P (n + 2) 35 cGSpan (fun _ => True) := by
 intro xs h
 obtain ⟨yss, hf, rfl⟩ := Ag (n := n + 1) (ts := [3, 3]) dV dW h
 match yss, hf with
 | [y0, y1], ⟨h0, h1, _⟩ =>
  obtain ⟨x0, r0, e0⟩ := gd_3 gI dU iS dV dW dX dY dZ ed eg (n := n + 0) _ h0
  obtain ⟨x1, r1, e1⟩ := gd_3 gI dU iS dV dW dX dY dZ ed eg (n := n + 0) _ h1
  exact ⟨⟨x0, x1⟩, trivial, by simp only [List.flatten_cons, List.flatten_nil, List.append_nil, qB, e0, e1, eI, qC, eB, eS, eSl, qy, List.cons_append, List.nil_append]⟩
theorem gd_49 {n : Nat} : Dec P (n + 3) 49 cGBs (Ak) := by
 intro xs h
 obtain ⟨yss, hf, rfl⟩ := Ag (n := n + 2) (ts := [3, 4, 35, 22]) dX dY h
 match yss, hf with
 | [y0, y1, y2, y3], ⟨h0, h1, h2, h3, _⟩ =>
  obtain ⟨x0, r0, e0⟩ := gd_3 gI dU iS dV dW dX dY dZ ed eg (n := n + 1) _ h0
  obtain ⟨x1, r1, e1⟩ := gd_4 gI dU iS dV dW dX dY dZ ed eg (n := n + 1) _ h1
  obtain ⟨x2, r2, e2⟩ := gd_35 gI dU iS dV dW dX dY dZ ed eg (n := n + 0) _ h2
  obtain ⟨x3, r3, e3⟩ := gd_22 gI dU iS dV dW dX dY dZ ed eg (n := n + 0) _ h3
  exact ⟨⟨x0, x1, x2, x3⟩, r3.1, by simp only [List.flatten_cons, List.flatten_nil, List.append_nil, qB, e0, e1, e2, e3, eI, qC, eB, eS, eSl, sa, qy, List.cons_append, List.nil_append]⟩
theorem gd_23 {n : Nat} : Dec P (n + 4) 23 (eSl cGBs) (fun l => aO l = true ∧ ∀ x ∈ l, Ak x) := JT dZ (gd_49 gI dU iS dV dW dX dY dZ ed eg (n := n))
theorem gd_25 {n : Nat} : Dec P (n + 5) 25 cGBk (JX) := by
 intro xs h
 obtain ⟨yss, hf, rfl⟩ := Ag (n := n + 4) (ts := [3, 22, 23]) ed eg h
 match yss, hf with
 | [y0, y1, y2], ⟨h0, h1, h2, _⟩ =>
  obtain ⟨x0, r0, e0⟩ := gd_3 gI dU iS dV dW dX dY dZ ed eg (n := n + 3) _ h0
  obtain ⟨x1, r1, e1⟩ := gd_22 gI dU iS dV dW dX dY dZ ed eg (n := n + 2) _ h1
  obtain ⟨x2, r2, e2⟩ := gd_23 gI dU iS dV dW dX dY dZ ed eg (n := n + 0) _ h2
  exact ⟨⟨x0, x1, x2⟩, ⟨r1.1, r2.1, r2.2⟩, by simp only [List.flatten_cons, List.flatten_nil, List.append_nil, qB, e0, e1, e2, eI, qC, eB, eS, eSl, kA, List.cons_append, List.nil_append]⟩
end
theorem dec_3 {n : Nat} : Dec Tryz.prog (n + 1) 3 eI (fun _ => True) := gd_3 Tryz.underlying3 Tryz.underlying22 Tryz.underlying4 Tryz.underlying35 (by kernel_rfl) Tryz.underlying49 (by kernel_rfl) Tryz.underlying23 Tryz.underlying25 (by kernel_rfl)
theorem Al {n : Nat} : Dec Tryz.prog (n + 5) 25 cGBk (JX) := gd_25 Tryz.underlying3 Tryz.underlying22 Tryz.underlying4 Tryz.underlying35 (by kernel_rfl) Tryz.underlying49 (by kernel_rfl) Tryz.underlying23 Tryz.underlying25 (by kernel_rfl)
end Go.V
end
section
namespace Go.V
open Go Go.Proofs IntKind
def wh (xs : List Int) : Option (List Int) := cond (neB xs) (cond (aE 8 xs.length) (some xs) none) none
theorem N9 (xs R : List Int) (h : wh xs = some R) : ak Tryz.prog G0 124 [.sl (ae eI xs) xs.length false] (.own (ae eI R) R.length 1) := by
 unfold wh at h
 cases hn : neB xs with
 | false => rw [hn] at h; cases h
 | true =>
 cases hr : aE 8 xs.length with
 | false => rw [hn, hr] at h; cases h
 | true =>
 rw [hn, hr] at h
 simp only [cond_true, Option.some.injEq] at h
 subst h
 have hc : ae eI xs ≠ [] := by
  cases xs with
  | nil => cases hn
  | cons a l => intro hh; cases hh
 have hnil : ∀ (H : Nat → Option VObj) (x y : Operand), binV Tryz.prog H .eql 22 x y (.sl (ae eI xs) xs.length false) (.lit (.slice none 0 0)) = some (.lit (.bool false)) := fun H x y => Am Tryz.underlying22 hc
 have hb : av Tryz.prog 22 0 [] = some ([], 1) := by kernel_rfl
 refine ak.run mixed Tryz.call124 Tryz.func124 rfl (by simp [Tryz.ntmps124]; kernel_rfl) ?_
 simp only [vz, tyf, hnil, hb, List.map_nil, seval]
 refine An (w := 1) (enc := eI) (xs := ([] : List Int)) (ys := xs) (el := some 3) (fun _ => rfl) dC de Tryz.underlying22 rfl hn (by rw [List.nil_append]; exact hr) ?_
 simp only [vz, tyf, List.nil_append, seval]
 refine ⟨rfl, .ref 5 0 xs.length 1 xs.length, by simp [Tryz.results124, resV, resL, aR, upd], (ae eI xs).length + 1, 5, _, ae eI xs, ⟨_, rfl⟩, by simp only [aK, bk, seval] <;> rfl, mG _ _ (eI_ok.treeL xs) (Nat.lt_succ_self _)⟩
def ExtOk (β y e : Nat) (mc : List VV) (mf : Nat) (ln lim : Nat) (may : List Int → Int → Option Bool) (I : Inv) (d : Nat) : Prop :=
  ∀ (p : List Int) (rest : List VV) (L : List (List Int)) (Fr : Nat → Prop) (H : Nat → Option VObj) (nx : Nat), p.length + d = ln → listsO may lim d p = some L → (∀ γ, Fr γ → γ < nx) → Fr y → Fr e → H y = some (.cells (some 27) [.yl β]) →
    H e = some (.cells (some 27) [.fn (.func 138) [] [.tp [.lit (.int .i64 ln)], .ptr y 0, .tp [.lit (.int .i64 lim)], .tp [.fn (.func mf) [] mc], .ptr e 0]]) →
    I (some (L.map (vx eI) ++ rest)) Fr H nx →
    au Tryz.prog G0 138 [vx eI p, .tp [.lit (.int .i64 ln)], .ptr y 0, .tp [.lit (.int .i64 lim)], .tp [.fn (.func mf) [] mc], .ptr e 0] H nx
      (fun v H' nx' => ∃ b, v = .lit (.bool b) ∧ nx ≤ nx' ∧ (∀ γ, Fr γ → H' γ = H γ) ∧ I (if b then some rest else none) Fr H' nx') (fun _ _ _ => False)
theorem sU {P : Program} {t e : Nat} {H : Nat → Option VObj} (hu : P.underlying t = some (.slice e)) : ∀ {p : List Int}, vlen P H t (vx eI p) = some (.lit (.int .i64 p.length))
  | [] => by simp [vlen, vx, hu, sls]
  | _ :: _ => by simp [vlen, vx, hu, sls]
theorem Ao : ak Tryz.prog G0 124 [.lit (.slice none 0 0)] (.tree (.lit (.slice none 0 0))) := by
  have hnil : ∀ (H : Nat → Option VObj) (x y : Operand), binV Tryz.prog H .eql 22 x y (.lit (.slice none 0 0)) (.lit (.slice none 0 0)) = some (.lit (.bool true)) := fun H x y => by kernel_rfl
  refine ak.run mixed Tryz.call124 Tryz.func124 rfl (by simp [Tryz.ntmps124]; kernel_rfl) ?_
  simp only [vz, tyf, @ca, @bZ, @bY, @bu, hnil, seval, ua]
  exact ⟨rfl, .lit (.slice none 0 0), by simp [Tryz.results124, resV, resL, aR, upd], 1, rfl⟩
theorem Ap {β y e : Nat} {mc : List VV} {mf ln lim : Nat} {may : List Int → Int → Option Bool} {I : Inv} (hst : Stable I) (hr : Rounds Tryz.prog G0 β I) (htm : treeL mc = true) (sV : 0 < ln) (hln : ln < 1000) (hlim : lim < 1000000)
    (hm : ∀ (p : List Int) (j : Int) (b : Bool), may p j = some b → ak Tryz.prog G0 mf (.sl (ae eI p) p.length false :: .lit (.int .i64 j) :: mc) (.tree (.lit (.bool b)))) : ∀ d, ExtOk β y e mc mf ln lim may I d := by
  intro d
  induction d with
  | zero =>
    intro p rest L Fr H nx hd hL hF hFy hFe hy he hI
    simp only [listsO, Option.some.injEq] at hL
    subst hL
    refine au.run mixed Tryz.call138 Tryz.func138 rfl (by simp [Tryz.ntmps138]; kernel_rfl) ?_
    have hl := fun H => sU (P := Tryz.prog) (H := H) Tryz.underlying22 (p := p)
    have hq : ((p.length : Int) == (ln : Int)) = true := by rw [show p.length = ln from hd]; simp
    simp only [argsTm6, vz, tyf, @ca, @bZ, @bY, @bu, seval, ua, hl, hq, hy, rg]
    have fS : I (some (vx eI p :: rest)) Fr H (nx + 9) := hst _ _ _ _ _ _ _ hI (fun _ _ _ => rfl) (by omega) (fun γ h => .inl h)
    refine (hr (vx eI p) rest Fr H (nx + 9) (fun γ h => by have := hF γ h; omega) fS) (some none) _ _ _ rfl rfl ?_
    rintro b H' nx' ⟨h1, h2, h3⟩
    simp only [vz, tyf, @ca, @bZ, @bY, @bu, seval, ua]
    exact cn (x := .lit (.bool b)) (by simp [Tryz.results138, resV, resL, aR, upd]) ⟨b, rfl, by omega, h2, h3⟩
  | succ d ih =>
    intro p rest L Fr H nx hd hL hF hFy hFe hy he hI
    rw [listsO] at hL
    refine au.run mixed Tryz.call138 Tryz.func138 rfl (by simp [Tryz.ntmps138]; kernel_rfl) ?_
    have hl := fun H => sU (P := Tryz.prog) (H := H) Tryz.underlying22 (p := p)
    have hq : ((p.length : Int) == (ln : Int)) = false := by rw [← hd]; simp; omega
    simp only [argsTm6, vz, tyf, @ca, @bZ, @bY, @bu, seval, ua, hl, hq, hy, rg]
    obtain ⟨J, hJ⟩ : ∃ J : Nat → St → Prop, J = (fun m st => ∃ j : Nat, j + m = lim ∧ st.df = [] ∧ nx ≤ st.nx ∧ (∀ γ, Fr γ → st.H γ = H γ) ∧
      (∃ L, goL (listsO may lim d) may p (List.range' j m) = some L ∧ I (some (L.map (vx eI) ++ rest)) Fr st.H st.nx) ∧
      st.tm 0 = vx eI p ∧ st.tm 4 = .tp [.fn (.func mf) [] mc] ∧ st.tm 5 = .ptr e 0 ∧ st.tm 16 = .lit (.int .i64 lim) ∧ st.tm 17 = .lit (.int .i64 j)) := ⟨_, rfl⟩
    refine loopK mixed (by kernel_rfl) J lim (by rw [hJ]; refine ⟨0, by omega, rfl, ?_, fun _ _ => rfl, ⟨L, hL, hst _ _ _ _ _ _ _ hI (fun _ _ _ => rfl) ?_ (fun γ h => .inl h)⟩, ?_, ?_, ?_, ?_, ?_⟩ <;> first | rfl | (simp only; omega)) ?_
    rintro m ⟨tm, H1, b6, df⟩ hinv
    rw [hJ] at hinv
    obtain ⟨j, hj, hdf, hn, ot, ⟨L1, gJ, kC⟩, e0, e4, e5, bF, cq⟩ := hinv
    simp only at hdf hn ot kC e0 e4 e5 bF cq
    subst hdf
    cases m with
    | zero =>
      have Aq : decide ((j : Int) < (lim : Int)) = false := by simp; omega
      simp only [vz, tyf, @ca, @bZ, @bY, @bu, seval, ua, bF, cq, Aq]
      refine cn (x := .lit (.bool true)) (by simp [Tryz.results138, resV, resL, aR, upd]) ⟨true, rfl, by omega, ot, ?_⟩
      simp only [List.range'_zero, goL, Option.some.injEq] at gJ
      subst gJ
      exact hst _ _ _ _ _ _ _ kC (fun _ _ _ => rfl) (by omega) (fun γ h => .inl h)
    | succ m =>
      have Aq : decide ((j : Int) < (lim : Int)) = true := by simp; omega
      simp only [vz, tyf, @ca, @bZ, @bY, @bu, seval, ua, bF, cq, Aq, e0, e4, e5]
      refine wj (fun tm => tm 0 = vx eI p ∧ tm 4 = .tp [.fn (.func mf) [] mc] ∧ tm 5 = .ptr e 0 ∧ tm 8 = .lit (.int .i64 j) ∧ tm 16 = .lit (.int .i64 lim) ∧ tm 17 = .lit (.int .i64 j)) (by refine ⟨?_, ?_, ?_, ?_, ?_, ?_⟩ <;> simp only [ua, seval, e0, e4, e5, bF, cq]) ?_
      clear e0 e4 e5 bF cq tm
      rintro tm ⟨e0, e4, e5, e8, bF, cq⟩
      refine Ar mixed 11 rfl rfl rfl (by kernel_rfl) ?_
      rw [List.range'_succ] at gJ
      unfold goL at gJ
      rcases hmb : may p (j : Int) with _ | mb
      · rw [hmb] at gJ; cases gJ
      rw [hmb, Option.bind_some] at gJ
      have hmay' : ak Tryz.prog G0 mf (vx eI p :: .lit (.int .i64 j) :: mc) (.tree (.lit (.bool mb))) := ak.weaken (by
        rintro c W vs ⟨u, us, rfl, h1, h2⟩
        exact ⟨u, us, rfl, As h1, h2⟩) (hm p j mb hmb)
      simp only [vz, tyf, @ca, @bZ, @bY, @bu, seval, ua, e0, e4, e5, e8, bF, cq, rg]
      refine .inl ⟨by simp only [At, Au eI_ok, Av, htm, Bool.and_self], .tree _, hmay', ?_⟩
      have hw : i64.wrap ((j : Int) + 1) = ((j + 1 : Nat) : Int) := by rw [IntWalk.i64_in _ (by omega)]; simp
      have jF : H1 e = _ := (ot e hFe).trans he
      have wm : H1 y = _ := (ot y hFy).trans hy
      have hen : e < b6 := Nat.lt_of_lt_of_le (hF e hFe) hn
      have hyn : y < b6 := Nat.lt_of_lt_of_le (hF y hFy) hn
      cases mb with
      | false =>
        rw [cond_false] at gJ
        simp only [vz, tyf, @ca, @bZ, @bY, @bu, seval, ua, e0, e4, e5, e8, bF, cq, rg, hw]
        rw [hJ]
        exact ⟨m, Nat.lt_succ_self _, j + 1, by omega, rfl, (by show nx ≤ b6 + 19; omega), ot, ⟨L1, gJ, hst _ _ _ _ _ _ _ kC (fun _ _ _ => rfl) (by show b6 ≤ b6 + 19; omega) (fun γ h => .inl h)⟩, by simp only [ua, seval, e0], by simp only [ua, seval, e4], by simp only [ua, seval, e5], by simp only [ua, seval, bF], by simp only [ua, seval]⟩
      | true =>
        rw [cond_true] at gJ
        rcases hLa : listsO may lim d (p ++ [(j : Int)]) with _ | La
        · rw [hLa] at gJ; cases gJ
        rw [hLa, Option.bind_some] at gJ
        rcases hLr : goL (listsO may lim d) may p (List.range' (j + 1) m) with _ | Lr
        · rw [hLr] at gJ; cases gJ
        rw [hLr, Option.bind_some, Option.some.injEq] at gJ
        subst gJ
        rw [List.map_append, List.append_assoc] at kC
        have hv : vx eI (p ++ [(j : Int)]) = .sl (ae eI (p ++ [(j : Int)])) (p ++ [(j : Int)]).length false := Aw (by simp)
        have hroom : aE 8 (p ++ [(j : Int)]).length = true := by
          unfold aE
          simp only [List.length_append, List.length_cons, List.length_nil, decide_eq_true_eq]
          omega
        simp only [vz, tyf, @ca, @bZ, @bY, @bu, seval, ua, e0, e4, e5, e8, bF, cq, rg, jF]
        rcases hpc : p with _ | ⟨p0, pt⟩
        · subst hpc
          refine .inl ⟨rfl, .tree _, Ao, ?_⟩
          simp only [vz, tyf, @ca, @bZ, @bY, @bu, seval, ua, e0, e4, e5, e8, bF, cq, rg, jF]
          have hroom1 : aE 8 ([] ++ [(j : Int)]).length = true := rfl
          refine jG (w := 1) (enc := eI) (ys := [(j : Int)]) (dE := some 3) (fun _ => rfl) dC de Tryz.underlying22 (by simp only [ua, nm, seval]; rfl) (Nat.zero_lt_succ _) hroom1 ?_
          simp only [vz, tyf, @ca, @bZ, @bY, @bu, seval, ua, nm, e0, e4, e5, e8, bF, cq, rg, jF]
          refine kD ⟨?_, ?_⟩
          · simp only [kE, kG, fU, kH, and_true, true_and]
            repeat' (first | exact trivial | refine And.intro ?_ ?_ | rw [fU] | rw [kI] | exact Or.inl (by decide +kernel) | exact Or.inl (by dsimp only; decide +kernel) | (refine Or.inr ⟨?_, ?_⟩ <;> simp; done) | (refine Or.inr ⟨?_, ?_⟩ <;> simp <;> omega) | (refine Or.inr ⟨?_, ?_⟩ <;> simp [VEff.wr] <;> omega))
          simp only [vz, tyf, @ca, @bZ, @bY, @bu, seval, ua, e0, e4, e5, e8, bF, cq, rg, jF]
          refine kopen ?_
          rw [ou]
          have hcell : (updH (updH H1 (b6 + 12) (VObj.cells (some 3) [VV.lit (Value.int IntKind.i64 ↑j)])) (b6 + 13) (VObj.cells (some 3) (ae eI ([] ++ [(j : Int)])))) (b6 + 13) = some (.cells (some 3) (ae eI ([] ++ [(j : Int)]))) := by simp only [ua, seval]
          have hbig : ∀ γ, γ < b6 → without (updH (updH H1 (b6 + 12) (VObj.cells (some 3) [VV.lit (Value.int IntKind.i64 ↑j)])) (b6 + 13) (VObj.cells (some 3) (ae eI ([] ++ [(j : Int)])))) (b6 + 13) γ = H1 γ := by
            intro γ h
            simp only [updH, without]
            repeat rw [if_neg (by omega)]
          refine au.mono (au.freeze1 (γ := b6 + 13) hcell (args' := [vx eI ([] ++ [(j : Int)]), .tp [.lit (.int .i64 ln)], .ptr y 0, .tp [.lit (.int .i64 lim)], .tp [.fn (.func mf) [] mc], .ptr e 0]) ⟨by rw [hv]; exact Frozen.own hcell (eI_ok.treeL _) (by rw [eu (w := 1) (fun _ => rfl)]), FrozenL.same⟩ (ih ([] ++ [(j : Int)]) _ La Fr _ _ (by simp at hd ⊢; omega) hLa (fun γ h => by have := hF γ h; omega) hFy hFe ((hbig y hyn).trans wm) ((hbig e hen).trans jF) (hst _ _ _ _ _ _ _ kC (fun γ h _ => hbig γ h) (by omega) (fun γ h => .inl h)))) ?_ (fun _ _ _ h => h.elim)
          rintro v H2 fg ⟨b, rfl, h1, h2, h3⟩
          have sW : ∀ γ, Fr γ → H2 γ = H γ := fun γ h => by rw [h2 γ h, hbig γ (Nat.lt_of_lt_of_le (hF γ h) hn), ot γ h]
          simp only [vz, tyf, @ca, @bZ, @bY, @bu, seval, ua, e0, e4, e5, e8, bF, cq, rg, jF]
          cases b with
          | false =>
            simp only [vz, tyf, @ca, @bZ, @bY, @bu, seval, ua, Bool.not_false]
            refine cn (x := .lit (.bool false)) (by simp [Tryz.results138, resV, resL, aR, upd]) ⟨false, rfl, by omega, sW, ?_⟩
            exact hst _ _ _ _ _ _ _ h3 (fun _ _ _ => rfl) (by omega) (fun γ h => .inl h)
          | true =>
            simp only [vz, tyf, @ca, @bZ, @bY, @bu, seval, ua, Bool.not_true, hw]
            simp only [if_true] at h3
            rw [hJ]
            exact ⟨m, Nat.lt_succ_self _, j + 1, by omega, rfl, (by show nx ≤ fg + 2; omega), sW, ⟨Lr, hLr, hst _ _ _ _ _ _ _ h3 (fun _ _ _ => rfl) (by show fg ≤ fg + 2; omega) (fun γ h => .inl h)⟩, by simp only [ua, seval, e0], by simp only [ua, seval, e4], by simp only [ua, seval, e5], by simp only [ua, seval, bF], by simp only [ua, seval]⟩
        rw [← hpc]
        have hne : p ≠ [] := by rw [hpc]; simp
        have hvp : vx eI p = .sl (ae eI p) p.length false := Aw hne
        rw [hvp]
        have hcl : wh p = some p := by
          unfold wh
          have h1 : neB p = true := by rw [hpc]; rfl
          have h2 : aE 8 p.length = true := by
            unfold aE at hroom ⊢
            simp only [List.length_append, List.length_cons, List.length_nil, decide_eq_true_eq] at hroom ⊢
            omega
          rw [h1, h2]; rfl
        refine dkown (args0 := [.sl (ae eI p) p.length false]) (by first | (simp only [nrm, aN]; done) | (simp only [nrm, aN]; rfl) | rfl) (by simp only [tre, tytre, Bool.and_self]) (N9 _ _ hcl) ?_
        simp only [vz, tyf, @ca, @bZ, @bY, @bu, seval, ua, e0, e4, e5, e8, bF, cq, rg, jF]
        refine k_app (w := 1) (enc := eI) (xs := p) (ys := [(j : Int)]) (el := none) (dE := some 3) (fun _ => rfl) dC de Tryz.underlying22 (by simp only [ua, nm, seval]) (by simp only [ua, nm, seval]; rfl) (Nat.zero_lt_succ _) hroom ?_
        simp only [vz, tyf, @ca, @bZ, @bY, @bu, seval, ua, nm, e0, e4, e5, e8, bF, cq, rg, jF]
        refine kD ⟨?_, ?_⟩
        · simp only [kE, kG, fU, kH, and_true, true_and]
          repeat' (first | exact trivial | refine And.intro ?_ ?_ | rw [fU] | rw [kI] | exact Or.inl (by decide +kernel) | exact Or.inl (by dsimp only; decide +kernel) | (refine Or.inr ⟨?_, ?_⟩ <;> simp; done) | (refine Or.inr ⟨?_, ?_⟩ <;> simp <;> omega) | (refine Or.inr ⟨?_, ?_⟩ <;> simp [VEff.wr] <;> omega))
        simp only [vz, tyf, @ca, @bZ, @bY, @bu, seval, ua, e0, e4, e5, e8, bF, cq, rg, jF]
        refine kopen ?_
        rw [ou]
        have hcell : (updH (without (updH (updH H1 (b6 + 10) (VObj.cells none (ae eI p))) (b6 + 12) (VObj.cells (some 3) [VV.lit (Value.int IntKind.i64 ↑j)])) (b6 + 10)) (b6 + 13) (VObj.cells (sameEl none 3) (ae eI (p ++ [(j : Int)])))) (b6 + 13) = some (.cells (sameEl none 3) (ae eI (p ++ [(j : Int)]))) := by simp only [ua, seval]
        have hbig : ∀ γ, γ < b6 → without (updH (without (updH (updH H1 (b6 + 10) (VObj.cells none (ae eI p))) (b6 + 12) (VObj.cells (some 3) [VV.lit (Value.int IntKind.i64 ↑j)])) (b6 + 10)) (b6 + 13) (VObj.cells (sameEl none 3) (ae eI (p ++ [(j : Int)])))) (b6 + 13) γ = H1 γ := by
          intro γ h
          simp only [updH, without]
          repeat rw [if_neg (by omega)]
        refine au.mono (au.freeze1 (γ := b6 + 13) hcell (args' := [vx eI (p ++ [(j : Int)]), .tp [.lit (.int .i64 ln)], .ptr y 0, .tp [.lit (.int .i64 lim)], .tp [.fn (.func mf) [] mc], .ptr e 0]) ⟨by rw [hv]; exact Frozen.own hcell (eI_ok.treeL _) (by rw [eu (w := 1) (fun _ => rfl)]), FrozenL.same⟩ (ih (p ++ [(j : Int)]) _ La Fr _ _ (by simp; omega) hLa (fun γ h => by have := hF γ h; omega) hFy hFe ((hbig y hyn).trans wm) ((hbig e hen).trans jF) (hst _ _ _ _ _ _ _ kC (fun γ h _ => hbig γ h) (by omega) (fun γ h => .inl h)))) ?_ (fun _ _ _ h => h.elim)
        rintro v H2 fg ⟨b, rfl, h1, h2, h3⟩
        have sW : ∀ γ, Fr γ → H2 γ = H γ := fun γ h => by rw [h2 γ h, hbig γ (Nat.lt_of_lt_of_le (hF γ h) hn), ot γ h]
        simp only [vz, tyf, @ca, @bZ, @bY, @bu, seval, ua, e0, e4, e5, e8, bF, cq, rg, jF]
        cases b with
        | false =>
          simp only [vz, tyf, @ca, @bZ, @bY, @bu, seval, ua, Bool.not_false]
          refine cn (x := .lit (.bool false)) (by simp [Tryz.results138, resV, resL, aR, upd]) ⟨false, rfl, by omega, sW, ?_⟩
          exact hst _ _ _ _ _ _ _ h3 (fun _ _ _ => rfl) (by omega) (fun γ h => .inl h)
        | true =>
          simp only [vz, tyf, @ca, @bZ, @bY, @bu, seval, ua, Bool.not_true, hw]
          simp only [if_true] at h3
          rw [hJ]
          exact ⟨m, Nat.lt_succ_self _, j + 1, by omega, rfl, (by show nx ≤ fg + 2; omega), sW, ⟨Lr, hLr, hst _ _ _ _ _ _ _ h3 (fun _ _ _ => rfl) (by show fg ≤ fg + 2; omega) (fun γ h => .inl h)⟩, by simp only [ua, seval, e0], by simp only [ua, seval, e4], by simp only [ua, seval, e5], by simp only [ua, seval, bF], by simp only [ua, seval]⟩
theorem Ax {mc : List VV} {mf ln lim : Nat} {may : List Int → Int → Option Bool} {L : List (List Int)} (htm : treeL mc = true) (sV : 0 < ln) (hln : ln < 1000) (hlim : lim < 1000000)
    (hL : listsO may lim ln [] = some L) (hm : ∀ (p : List Int) (j : Int) (b : Bool), may p j = some b → ak Tryz.prog G0 mf (.sl (ae eI p) p.length false :: .lit (.int .i64 j) :: mc) (.tree (.lit (.bool b)))) :
    Iter Tryz.prog G0 (.fn (.func 137) [] [.tp [.lit (.int .i64 ln)], .tp [.lit (.int .i64 lim)], .tp [.fn (.func mf) [] mc]]) (L.map sI) := by
  rw [← Ay (fun q hq hn => by have := Az _ _ _ hL q hq; rw [hn] at this; simp at this; omega)]
  refine ⟨137, [], _, rfl, fun β I hst hr H nx hβ hI => ?_⟩
  refine au.run mixed Tryz.call137 Tryz.func137 rfl (by simp [Tryz.ntmps137]; kernel_rfl) ?_
  simp only [List.nil_append, List.cons_append, argsTm4, vz, tyf, @ca, @bZ, @bY, @bu, seval, ua, rg]
  refine kopen ?_
  rw [ou]
  refine au.mono (Ap hst hr htm sV hln hlim hm ln [] [] L (fun γ => γ = nx + 0 ∨ γ = nx + 1) _ _ (by simp) hL (by rintro γ (rfl | rfl) <;> omega) (.inl rfl) (.inr rfl) (by simp [updH]) (by simp [updH]) ?_) ?_ (fun _ _ _ h => h.elim)
  · rw [List.append_nil]
    refine hst _ _ _ _ _ _ _ hI ?_ (by omega) (by rintro γ (rfl | rfl) <;> right <;> omega)
    intro γ h _
    simp only [updH]
    repeat rw [if_neg (by omega)]
  rintro v H2 fg ⟨b, rfl, h1, h2, h3⟩
  simp only [vz, tyf, @ca, @bZ, @bY, @bu, seval, ua]
  refine Kf (x := .tup []) (by simp [Tryz.results137, resV, resL]) ?_
  replace h3 := hst _ _ noFr _ _ _ _ h3 (fun _ _ _ => rfl) (Nat.le_refl _) (fun γ h => h.elim)
  cases b with
  | true => exact .inl h3
  | false => exact .inr h3
end Go.V
end
