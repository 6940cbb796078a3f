/- Part of a proof. -/
import Derived.Test.YtmhlghgbfmcdaaaGreatDoorG1bh
import Derived.Test.YtmhlghgbfmcdaaaGreatDoorG1az
import Derived.Test.YtmhlghgbfmcdaaaGreatDoorProg
set_option linter.all false
set_option maxRecDepth 4000
set_option maxHeartbeats 40000000
section
namespace Go.V
open Go Go.Proofs IntKind
theorem mixed : Tryz.prog.follows .mixedOrders = true := by kernel_rfl
structure GSpan where
 Low : Int
 High : Int
 deriving Inhabited, DecidableEq
def cGSpan (x : GSpan) : List VV := [.lit (.int .i64 x.Low), .lit (.int .i64 x.High)]
theorem lH {x : GSpan} : cGSpan x = [.lit (.int .i64 x.Low), .lit (.int .i64 x.High)] := rfl
theorem cB : EncOk cGSpan := EncOk.of (fun x => by simp only [lH, tre, Bool.and_self]) (fun x => by simp only [lH, nrm]) (fun x H d => by simp only [lH, nrm, List.map_cons, List.map_nil])
structure GBs where
 Board : Int
 Round : Bool
 Hours : GSpan
 Needs : List Int
 deriving Inhabited, DecidableEq
def cGBs (x : GBs) : List VV := [.lit (.int .i64 x.Board), .lit (.bool x.Round), .lit (.int .i64 x.Hours.Low), .lit (.int .i64 x.Hours.High), .sl (ae eI x.Needs) (List.length x.Needs) false]
theorem pQ {x : GBs} : cGBs x = [.lit (.int .i64 x.Board), .lit (.bool x.Round), .lit (.int .i64 x.Hours.Low), .lit (.int .i64 x.Hours.High), .sl (ae eI x.Needs) (List.length x.Needs) false] := rfl
theorem cN : EncOk cGBs := EncOk.of (fun x => by simp only [pQ, tre, cB.tree, cB.treeL, Bool.and_self]) (fun x => by simp only [pQ, nrm, cB.norm, cB.normL, cB.shown, cB.showL]) (fun x H d => by simp only [pQ, nrm, List.map_cons, List.map_nil])
structure GBk where
 Apprentices : Int
 Boards : List Int
 Strokes : List GBs
 deriving Inhabited, DecidableEq
def cGBk (x : GBk) : List VV := [.lit (.int .i64 x.Apprentices), .sl (ae eI x.Boards) (List.length x.Boards) false, .sl (ae cGBs x.Strokes) (List.length x.Strokes) false]
theorem fQ {x : GBk} : cGBk x = [.lit (.int .i64 x.Apprentices), .sl (ae eI x.Boards) (List.length x.Boards) false, .sl (ae cGBs x.Strokes) (List.length x.Strokes) false] := rfl
theorem eg : EncOk cGBk := EncOk.of (fun x => by simp only [fQ, tre, cB.tree, cB.treeL, cN.tree, cN.treeL, Bool.and_self]) (fun x => by simp only [fQ, nrm, cB.norm, cB.normL, cB.shown, cB.showL, cN.norm, cN.normL, cN.shown, cN.showL]) (fun x H d => by simp only [fQ, nrm, List.map_cons, List.map_nil])
structure Gbf where
 chain : List Int
 deriving Inhabited, DecidableEq
def cGbf (x : Gbf) : List VV := [.sl (ae eI x.chain) (List.length x.chain) false]
theorem ug {x : Gbf} : cGbf x = [.sl (ae eI x.chain) (List.length x.chain) false] := rfl
theorem gG : EncOk cGbf := EncOk.of (fun x => by simp only [ug, tre, cB.tree, cB.treeL, cN.tree, cN.treeL, eg.tree, eg.treeL, Bool.and_self]) (fun x => by simp only [ug, nrm, cB.norm, cB.normL, cB.shown, cB.showL, cN.norm, cN.normL, cN.shown, cN.showL, eg.norm, eg.normL, eg.shown, eg.showL]) (fun x H d => by simp only [ug, nrm, List.map_cons, List.map_nil])
structure Gbe where
 stroke : Int
 hours : Int
 deriving Inhabited, DecidableEq
def cGbe (x : Gbe) : List VV := [.lit (.int .i64 x.stroke), .lit (.int .i64 x.hours)]
theorem uh {x : Gbe} : cGbe x = [.lit (.int .i64 x.stroke), .lit (.int .i64 x.hours)] := rfl
theorem ou : EncOk cGbe := EncOk.of (fun x => by simp only [uh, tre, cB.tree, cB.treeL, cN.tree, cN.treeL, eg.tree, eg.treeL, gG.tree, gG.treeL, Bool.and_self]) (fun x => by simp only [uh, nrm, cB.norm, cB.normL, cB.shown, cB.showL, cN.norm, cN.normL, cN.shown, cN.showL, eg.norm, eg.normL, eg.shown, eg.showL, gG.norm, gG.normL, gG.shown, gG.showL]) (fun x H d => by simp only [uh, nrm, List.map_cons, List.map_nil])
theorem ov : EncOk (eSl eI) := EncOk.sl eI_ok
theorem LI {c : VV} {cs : List VV} : aE Tryz.prog 2 (c :: cs) = some c := by
 have h1 : aggT Tryz.prog 2 = some false := by kernel_rfl
 simp [aE, aN, h1]
theorem LJ : szT Tryz.prog 2 = some 1 := by kernel_rfl
theorem wx : vzl Tryz.prog 2 = some [.lit (.int .i64 0)] := by kernel_rfl
theorem LK {c : VV} {cs : List VV} : aE Tryz.prog 3 (c :: cs) = some c := by
 have h1 : aggT Tryz.prog 3 = some false := by kernel_rfl
 simp [aE, aN, h1]
theorem LL : szT Tryz.prog 3 = some 1 := by kernel_rfl
theorem wy : vzl Tryz.prog 3 = some [.lit (.int .i64 0)] := by kernel_rfl
theorem LM {c : VV} {cs : List VV} : aE Tryz.prog 4 (c :: cs) = some c := by
 have h1 : aggT Tryz.prog 4 = some false := by kernel_rfl
 simp [aE, aN, h1]
theorem LN : szT Tryz.prog 4 = some 1 := by kernel_rfl
theorem wz : vzl Tryz.prog 4 = some [.lit (.bool false)] := by kernel_rfl
theorem LP {c : VV} {cs : List VV} : aE Tryz.prog 9 (c :: cs) = some c := by
 have h1 : aggT Tryz.prog 9 = some false := by kernel_rfl
 simp [aE, aN, h1]
theorem LQ : szT Tryz.prog 9 = some 1 := by kernel_rfl
theorem w5 : vzl Tryz.prog 9 = some [.lit (.string ⟨#[]⟩)] := by kernel_rfl
theorem wB {c : VV} {cs : List VV} : aE Tryz.prog 22 (c :: cs) = some c := by
 have h1 : aggT Tryz.prog 22 = some false := by kernel_rfl
 simp [aE, aN, h1]
theorem wC : szT Tryz.prog 22 = some 1 := by kernel_rfl
theorem pR : vzl Tryz.prog 22 = some [.lit (.slice none 0 0)] := by kernel_rfl
theorem pS {H : Nat → Option VObj} {cs : List VV} {n : Nat} {f : Bool} : vlen Tryz.prog H 22 (.sl cs n f) = some (.lit (.int .i64 n)) := by simp [vlen, Tryz.underlying22, sls]
theorem lenN22 {H : Nat → Option VObj} : vlen Tryz.prog H 22 (.lit (.slice none 0 0)) = some (.lit (.int .i64 0)) := by simp [vlen, Tryz.underlying22, sls]
theorem lenR22 {H : Nat → Option VObj} {β off n w c : Nat} : vlen Tryz.prog H 22 (.ref β off n w c) = (match H β with | some (.cells _ cs) => if off ≤ cs.length then some (.lit (.int .i64 n)) else none | _ => none) := lenR Tryz.underlying22
theorem eh : elemT Tryz.prog 22 = some 3 := by simp [elemT, Tryz.underlying22]
theorem fY : appOk Tryz.prog 22 = some (3, 1, 8) := by kernel_rfl
theorem wD {xs : List Int} : (ae eI xs).take (xs.length * 1) = ae eI xs := pT (fun _ => rfl)
theorem fZ : ∀ x : Int, leafL (eI x) = true := fun x => by simp only [eI_eq, lI, eB_eq, eS_eq, lJ, dT, dU, wE, wF, wG, wH, lK, Bool.and_self]
theorem fR {xs : List Int} {x : Int} {i : Int} (h : getI xs i = some x) : (∀ (H : Nat → Option VObj) (β c : Nat) (k : IntKind), aB Tryz.prog H 22 (.ref β 0 xs.length 1 c) (.lit (.int k i)) = if (H β).isSome = true then some (.ptr β (i.toNat * 1)) else none) ∧ (ae eI xs).drop (i.toNat * 1) = eI x ++ ae eI (xs.drop (i.toNat + 1)) ∧ (i.toNat * 1 ≤ (ae eI xs).length) = True := ixO Tryz.underlying22 (by kernel_rfl : szT Tryz.prog 3 = some 1) (fun _ => rfl) h
theorem wI {a0 : VV} (h : leafL [a0] = true) : aw Tryz.prog 22 1 [(0, a0)] = some ([a0], 1) := by
 have h2 : szT Tryz.prog 3 = some 1 := by kernel_rfl
 have h3 : vzero Tryz.prog 3 = some #[.int .i64 0] := by kernel_rfl
 simp only [dU, dT, Bool.and_true, Bool.and_eq_true] at h
 simp [aw, Tryz.underlying22, h2, h3, vfill, vcells1, h, overwrite, vzeros, List.range_succ]
theorem wJ {a0 a1 : VV} (h : leafL [a0, a1] = true) : aw Tryz.prog 22 2 [(0, a0), (1, a1)] = some ([a0, a1], 1) := by
 have h2 : szT Tryz.prog 3 = some 1 := by kernel_rfl
 have h3 : vzero Tryz.prog 3 = some #[.int .i64 0] := by kernel_rfl
 simp only [dU, dT, Bool.and_true, Bool.and_eq_true] at h
 simp [aw, Tryz.underlying22, h2, h3, vfill, vcells1, h, overwrite, vzeros, List.range_succ]
theorem wK {a0 a1 a2 : VV} (h : leafL [a0, a1, a2] = true) : aw Tryz.prog 22 3 [(0, a0), (1, a1), (2, a2)] = some ([a0, a1, a2], 1) := by
 have h2 : szT Tryz.prog 3 = some 1 := by kernel_rfl
 have h3 : vzero Tryz.prog 3 = some #[.int .i64 0] := by kernel_rfl
 simp only [dU, dT, Bool.and_true, Bool.and_eq_true] at h
 simp [aw, Tryz.underlying22, h2, h3, vfill, vcells1, h, overwrite, vzeros, List.range_succ]
theorem ba {H : Nat → Option VObj} {xs : List Int} {x : Int} {f : Bool} {k : IntKind} {i : Int} (h : getI xs i = some x) : aB Tryz.prog H 22 (.sl (ae eI xs) xs.length f) (.lit (.int k i)) = some (.tp (eI x ++ ae eI (xs.drop (i.toNat + 1)))) :=
 ixG Tryz.underlying22 (by kernel_rfl : szT Tryz.prog 3 = some 1) (by decide) (fun _ => rfl) h
theorem wL {c : VV} {cs : List VV} : aE Tryz.prog 23 (c :: cs) = some c := by
 have h1 : aggT Tryz.prog 23 = some false := by kernel_rfl
 simp [aE, aN, h1]
theorem wM : szT Tryz.prog 23 = some 1 := by kernel_rfl
theorem pU : vzl Tryz.prog 23 = some [.lit (.slice none 0 0)] := by kernel_rfl
theorem pV {H : Nat → Option VObj} {cs : List VV} {n : Nat} {f : Bool} : vlen Tryz.prog H 23 (.sl cs n f) = some (.lit (.int .i64 n)) := by simp [vlen, Tryz.underlying23, sls]
theorem lenN23 {H : Nat → Option VObj} : vlen Tryz.prog H 23 (.lit (.slice none 0 0)) = some (.lit (.int .i64 0)) := by simp [vlen, Tryz.underlying23, sls]
theorem lenR23 {H : Nat → Option VObj} {β off n w c : Nat} : vlen Tryz.prog H 23 (.ref β off n w c) = (match H β with | some (.cells _ cs) => if off ≤ cs.length then some (.lit (.int .i64 n)) else none | _ => none) := lenR Tryz.underlying23
theorem wN : elemT Tryz.prog 23 = some 49 := by simp [elemT, Tryz.underlying23]
theorem wO {xs : List GBs} : (ae cGBs xs).take (xs.length * 5) = ae cGBs xs := pT (fun _ => rfl)
theorem wP {c0 c1 c2 c3 c4 : VV} (h : leafL [c0, c1, c2, c3, c4] = true) : aw Tryz.prog 23 1 [(0, .agg [c0, c1, c2, c3, c4])] = some ([c0, c1, c2, c3, c4], 5) := by
 have h2 : szT Tryz.prog 49 = some 5 := by kernel_rfl
 have h3 : vzero Tryz.prog 49 = some #[.int .i64 0, .bool false, .int .i64 0, .int .i64 0, .slice none 0 0] := by kernel_rfl
 simp only [dU, dT, Bool.and_true, Bool.and_eq_true] at h
 simp [aw, Tryz.underlying23, h2, h3, vfill, aQ, h, overwrite, vzeros]
theorem aV {H : Nat → Option VObj} {xs : List GBs} {x : GBs} {f : Bool} {k : IntKind} {i : Int} (h : getI xs i = some x) : aB Tryz.prog H 23 (.sl (ae cGBs xs) xs.length f) (.lit (.int k i)) = some (.tp (cGBs x ++ ae cGBs (xs.drop (i.toNat + 1)))) :=
 ixG Tryz.underlying23 (by kernel_rfl : szT Tryz.prog 49 = some 5) (by decide) (fun _ => rfl) h
theorem wQ {c0 c1 c2 : VV} {cs : List VV} : aE Tryz.prog 25 (c0 :: c1 :: c2 :: cs) = some (.agg [c0, c1, c2]) := by
 have h1 : aggT Tryz.prog 25 = some true := by kernel_rfl
 have h2 : szT Tryz.prog 25 = some 3 := by kernel_rfl
 simp [aE, aN, h1, h2]
theorem wR : szT Tryz.prog 25 = some 3 := by kernel_rfl
theorem pW : vzl Tryz.prog 25 = some [.lit (.int .i64 0), .lit (.slice none 0 0), .lit (.slice none 0 0)] := by kernel_rfl
theorem wS {H : Nat → Option VObj} {cs : List VV} : ai Tryz.prog H 25 (.tp cs) 0 = some (.tp (cs.drop 0)) := by
 have h2 : szT Tryz.prog 3 = some 1 := by kernel_rfl
 simp [ai, Tryz.underlying25, h2]
theorem wT {H : Nat → Option VObj} {β o : Nat} : ai Tryz.prog H 25 (.ptr β o) 0 = if (H β).isSome = true then some (.ptr β (o + 0)) else none := by
 have h2 : szT Tryz.prog 3 = some 1 := by kernel_rfl
 simp [ai, Tryz.underlying25, h2]
theorem wU {c0 c1 c2 : VV} : aR Tryz.prog 25 (.agg [c0, c1, c2]) 0 = some (c0) := by
 have h1 : aggT Tryz.prog 3 = some false := by kernel_rfl
 have h2 : szT Tryz.prog 3 = some 1 := by kernel_rfl
 simp [aR, Tryz.underlying25, aN, h1, h2]
theorem wV {H : Nat → Option VObj} {cs : List VV} : ai Tryz.prog H 25 (.tp cs) 1 = some (.tp (cs.drop 1)) := by
 have h2 : szT Tryz.prog 22 = some 1 := by kernel_rfl
 simp [ai, Tryz.underlying25, h2]
theorem wW {H : Nat → Option VObj} {β o : Nat} : ai Tryz.prog H 25 (.ptr β o) 1 = if (H β).isSome = true then some (.ptr β (o + 1)) else none := by
 have h2 : szT Tryz.prog 22 = some 1 := by kernel_rfl
 simp [ai, Tryz.underlying25, h2]
theorem wX {c0 c1 c2 : VV} : aR Tryz.prog 25 (.agg [c0, c1, c2]) 1 = some (c1) := by
 have h1 : aggT Tryz.prog 22 = some false := by kernel_rfl
 have h2 : szT Tryz.prog 22 = some 1 := by kernel_rfl
 simp [aR, Tryz.underlying25, aN, h1, h2]
theorem wY {H : Nat → Option VObj} {cs : List VV} : ai Tryz.prog H 25 (.tp cs) 2 = some (.tp (cs.drop 2)) := by
 have h2 : szT Tryz.prog 23 = some 1 := by kernel_rfl
 simp [ai, Tryz.underlying25, h2]
theorem wZ {H : Nat → Option VObj} {β o : Nat} : ai Tryz.prog H 25 (.ptr β o) 2 = if (H β).isSome = true then some (.ptr β (o + 2)) else none := by
 have h2 : szT Tryz.prog 23 = some 1 := by kernel_rfl
 simp [ai, Tryz.underlying25, h2]
theorem xa {c0 c1 c2 : VV} : aR Tryz.prog 25 (.agg [c0, c1, c2]) 2 = some (c2) := by
 have h1 : aggT Tryz.prog 23 = some false := by kernel_rfl
 have h2 : szT Tryz.prog 23 = some 1 := by kernel_rfl
 simp [aR, Tryz.underlying25, aN, h1, h2]
theorem xb {c : VV} {cs : List VV} : aE Tryz.prog 29 (c :: cs) = some c := by
 have h1 : aggT Tryz.prog 29 = some false := by kernel_rfl
 simp [aE, aN, h1]
theorem xc : szT Tryz.prog 29 = some 1 := by kernel_rfl
theorem pX : vzl Tryz.prog 29 = some [.lit (.int .i64 0)] := by kernel_rfl
theorem xd {c : VV} {cs : List VV} : aE Tryz.prog 31 (c :: cs) = some c := by
 have h1 : aggT Tryz.prog 31 = some false := by kernel_rfl
 simp [aE, aN, h1]
theorem xe : szT Tryz.prog 31 = some 1 := by kernel_rfl
theorem pY : vzl Tryz.prog 31 = some [.lit (.slice none 0 0)] := by kernel_rfl
theorem pZ {H : Nat → Option VObj} {cs : List VV} {n : Nat} {f : Bool} : vlen Tryz.prog H 31 (.sl cs n f) = some (.lit (.int .i64 n)) := by simp [vlen, Tryz.underlying31, sls]
theorem lenN31 {H : Nat → Option VObj} : vlen Tryz.prog H 31 (.lit (.slice none 0 0)) = some (.lit (.int .i64 0)) := by simp [vlen, Tryz.underlying31, sls]
theorem lenR31 {H : Nat → Option VObj} {β off n w c : Nat} : vlen Tryz.prog H 31 (.ref β off n w c) = (match H β with | some (.cells _ cs) => if off ≤ cs.length then some (.lit (.int .i64 n)) else none | _ => none) := lenR Tryz.underlying31
theorem jq : elemT Tryz.prog 31 = some 35 := by simp [elemT, Tryz.underlying31]
theorem qa : appOk Tryz.prog 31 = some (35, 2, 16) := by kernel_rfl
theorem xf {xs : List GSpan} : (ae cGSpan xs).take (xs.length * 2) = ae cGSpan xs := pT (fun _ => rfl)
theorem qb : ∀ x : GSpan, leafL (cGSpan x) = true := fun x => by simp only [eI_eq, lI, eB_eq, eS_eq, lJ, lH, dT, dU, wE, wF, wG, wH, lK, Bool.and_self]
theorem xg {c0 c1 : VV} (h : leafL [c0, c1] = true) : aw Tryz.prog 31 1 [(0, .agg [c0, c1])] = some ([c0, c1], 2) := by
 have h2 : szT Tryz.prog 35 = some 2 := by kernel_rfl
 have h3 : vzero Tryz.prog 35 = some #[.int .i64 0, .int .i64 0] := by kernel_rfl
 simp only [dU, dT, Bool.and_true, Bool.and_eq_true] at h
 simp [aw, Tryz.underlying31, h2, h3, vfill, aQ, h, overwrite, vzeros]
theorem xh {H : Nat → Option VObj} {xs : List GSpan} {x : GSpan} {f : Bool} {k : IntKind} {i : Int} (h : getI xs i = some x) : aB Tryz.prog H 31 (.sl (ae cGSpan xs) xs.length f) (.lit (.int k i)) = some (.tp (cGSpan x ++ ae cGSpan (xs.drop (i.toNat + 1)))) :=
 ixG Tryz.underlying31 (by kernel_rfl : szT Tryz.prog 35 = some 2) (by decide) (fun _ => rfl) h
theorem xi {c0 c1 : VV} {cs : List VV} : aE Tryz.prog 35 (c0 :: c1 :: cs) = some (.agg [c0, c1]) := by
 have h1 : aggT Tryz.prog 35 = some true := by kernel_rfl
 have h2 : szT Tryz.prog 35 = some 2 := by kernel_rfl
 simp [aE, aN, h1, h2]
theorem xj : szT Tryz.prog 35 = some 2 := by kernel_rfl
theorem gW : vzl Tryz.prog 35 = some [.lit (.int .i64 0), .lit (.int .i64 0)] := by kernel_rfl
theorem xk {H : Nat → Option VObj} {cs : List VV} : ai Tryz.prog H 35 (.tp cs) 0 = some (.tp (cs.drop 0)) := by
 have h2 : szT Tryz.prog 3 = some 1 := by kernel_rfl
 simp [ai, Tryz.underlying35, h2]
theorem xl {H : Nat → Option VObj} {β o : Nat} : ai Tryz.prog H 35 (.ptr β o) 0 = if (H β).isSome = true then some (.ptr β (o + 0)) else none := by
 have h2 : szT Tryz.prog 3 = some 1 := by kernel_rfl
 simp [ai, Tryz.underlying35, h2]
theorem xm {c0 c1 : VV} : aR Tryz.prog 35 (.agg [c0, c1]) 0 = some (c0) := by
 have h1 : aggT Tryz.prog 3 = some false := by kernel_rfl
 have h2 : szT Tryz.prog 3 = some 1 := by kernel_rfl
 simp [aR, Tryz.underlying35, aN, h1, h2]
theorem xn {H : Nat → Option VObj} {cs : List VV} : ai Tryz.prog H 35 (.tp cs) 1 = some (.tp (cs.drop 1)) := by
 have h2 : szT Tryz.prog 3 = some 1 := by kernel_rfl
 simp [ai, Tryz.underlying35, h2]
theorem xo {H : Nat → Option VObj} {β o : Nat} : ai Tryz.prog H 35 (.ptr β o) 1 = if (H β).isSome = true then some (.ptr β (o + 1)) else none := by
 have h2 : szT Tryz.prog 3 = some 1 := by kernel_rfl
 simp [ai, Tryz.underlying35, h2]
theorem xp {c0 c1 : VV} : aR Tryz.prog 35 (.agg [c0, c1]) 1 = some (c1) := by
 have h1 : aggT Tryz.prog 3 = some false := by kernel_rfl
 have h2 : szT Tryz.prog 3 = some 1 := by kernel_rfl
 simp [aR, Tryz.underlying35, aN, h1, h2]
theorem xq {c0 c1 c2 c3 c4 : VV} {cs : List VV} : aE Tryz.prog 49 (c0 :: c1 :: c2 :: c3 :: c4 :: cs) = some (.agg [c0, c1, c2, c3, c4]) := by
 have h1 : aggT Tryz.prog 49 = some true := by kernel_rfl
 have h2 : szT Tryz.prog 49 = some 5 := by kernel_rfl
 simp [aE, aN, h1, h2]
theorem xr : szT Tryz.prog 49 = some 5 := by kernel_rfl
theorem qc : vzl Tryz.prog 49 = some [.lit (.int .i64 0), .lit (.bool false), .lit (.int .i64 0), .lit (.int .i64 0), .lit (.slice none 0 0)] := by kernel_rfl
theorem xt {H : Nat → Option VObj} {cs : List VV} : ai Tryz.prog H 49 (.tp cs) 0 = some (.tp (cs.drop 0)) := by
 have h2 : szT Tryz.prog 3 = some 1 := by kernel_rfl
 simp [ai, Tryz.underlying49, h2]
theorem xu {H : Nat → Option VObj} {β o : Nat} : ai Tryz.prog H 49 (.ptr β o) 0 = if (H β).isSome = true then some (.ptr β (o + 0)) else none := by
 have h2 : szT Tryz.prog 3 = some 1 := by kernel_rfl
 simp [ai, Tryz.underlying49, h2]
theorem xv {c0 c1 c2 c3 c4 : VV} : aR Tryz.prog 49 (.agg [c0, c1, c2, c3, c4]) 0 = some (c0) := by
 have h1 : aggT Tryz.prog 3 = some false := by kernel_rfl
 have h2 : szT Tryz.prog 3 = some 1 := by kernel_rfl
 simp [aR, Tryz.underlying49, aN, h1, h2]
theorem xw {H : Nat → Option VObj} {cs : List VV} : ai Tryz.prog H 49 (.tp cs) 1 = some (.tp (cs.drop 1)) := by
 have h2 : szT Tryz.prog 4 = some 1 := by kernel_rfl
 simp [ai, Tryz.underlying49, h2]
theorem xx {H : Nat → Option VObj} {β o : Nat} : ai Tryz.prog H 49 (.ptr β o) 1 = if (H β).isSome = true then some (.ptr β (o + 1)) else none := by
 have h2 : szT Tryz.prog 4 = some 1 := by kernel_rfl
 simp [ai, Tryz.underlying49, h2]
theorem xy {c0 c1 c2 c3 c4 : VV} : aR Tryz.prog 49 (.agg [c0, c1, c2, c3, c4]) 1 = some (c1) := by
 have h1 : aggT Tryz.prog 4 = some false := by kernel_rfl
 have h2 : szT Tryz.prog 4 = some 1 := by kernel_rfl
 simp [aR, Tryz.underlying49, aN, h1, h2]
theorem xz {H : Nat → Option VObj} {cs : List VV} : ai Tryz.prog H 49 (.tp cs) 2 = some (.tp (cs.drop 2)) := by
 have h2 : szT Tryz.prog 35 = some 2 := by kernel_rfl
 simp [ai, Tryz.underlying49, h2]
theorem x5 {H : Nat → Option VObj} {β o : Nat} : ai Tryz.prog H 49 (.ptr β o) 2 = if (H β).isSome = true then some (.ptr β (o + 2)) else none := by
 have h2 : szT Tryz.prog 35 = some 2 := by kernel_rfl
 simp [ai, Tryz.underlying49, h2]
theorem x7 {c0 c1 c2 c3 c4 : VV} : aR Tryz.prog 49 (.agg [c0, c1, c2, c3, c4]) 2 = some (.agg [c2, c3]) := by
 have h1 : aggT Tryz.prog 35 = some true := by kernel_rfl
 have h2 : szT Tryz.prog 35 = some 2 := by kernel_rfl
 simp [aR, Tryz.underlying49, aN, h1, h2]
theorem x8 {H : Nat → Option VObj} {cs : List VV} : ai Tryz.prog H 49 (.tp cs) 3 = some (.tp (cs.drop 4)) := by
 have h2 : szT Tryz.prog 22 = some 1 := by kernel_rfl
 simp [ai, Tryz.underlying49, h2]
theorem xA {H : Nat → Option VObj} {β o : Nat} : ai Tryz.prog H 49 (.ptr β o) 3 = if (H β).isSome = true then some (.ptr β (o + 4)) else none := by
 have h2 : szT Tryz.prog 22 = some 1 := by kernel_rfl
 simp [ai, Tryz.underlying49, h2]
theorem xB {c0 c1 c2 c3 c4 : VV} : aR Tryz.prog 49 (.agg [c0, c1, c2, c3, c4]) 3 = some (c4) := by
 have h1 : aggT Tryz.prog 22 = some false := by kernel_rfl
 have h2 : szT Tryz.prog 22 = some 1 := by kernel_rfl
 simp [aR, Tryz.underlying49, aN, h1, h2]
theorem xC {c : VV} {cs : List VV} : aE Tryz.prog 51 (c :: cs) = some c := by
 have h1 : aggT Tryz.prog 51 = some false := by kernel_rfl
 simp [aE, aN, h1]
theorem xD : szT Tryz.prog 51 = some 1 := by kernel_rfl
theorem qe : vzl Tryz.prog 51 = some [.lit (.slice none 0 0)] := by kernel_rfl
theorem qf {H : Nat → Option VObj} {cs : List VV} {n : Nat} {f : Bool} : vlen Tryz.prog H 51 (.sl cs n f) = some (.lit (.int .i64 n)) := by simp [vlen, Tryz.underlying51, sls]
theorem lenN51 {H : Nat → Option VObj} : vlen Tryz.prog H 51 (.lit (.slice none 0 0)) = some (.lit (.int .i64 0)) := by simp [vlen, Tryz.underlying51, sls]
theorem lenR51 {H : Nat → Option VObj} {β off n w c : Nat} : vlen Tryz.prog H 51 (.ref β off n w c) = (match H β with | some (.cells _ cs) => if off ≤ cs.length then some (.lit (.int .i64 n)) else none | _ => none) := lenR Tryz.underlying51
theorem xE : elemT Tryz.prog 51 = some 60 := by simp [elemT, Tryz.underlying51]
theorem xF {xs : List Int} : (ae eI xs).take (xs.length * 1) = ae eI xs := pT (fun _ => rfl)
theorem xG {a0 : VV} (h : leafL [a0] = true) : aw Tryz.prog 51 1 [(0, a0)] = some ([a0], 1) := by
 have h2 : szT Tryz.prog 60 = some 1 := by kernel_rfl
 have h3 : vzero Tryz.prog 60 = some #[.int .i64 0] := by kernel_rfl
 simp only [dU, dT, Bool.and_true, Bool.and_eq_true] at h
 simp [aw, Tryz.underlying51, h2, h3, vfill, vcells1, h, overwrite, vzeros, List.range_succ]
theorem xH {a0 a1 : VV} (h : leafL [a0, a1] = true) : aw Tryz.prog 51 2 [(0, a0), (1, a1)] = some ([a0, a1], 1) := by
 have h2 : szT Tryz.prog 60 = some 1 := by kernel_rfl
 have h3 : vzero Tryz.prog 60 = some #[.int .i64 0] := by kernel_rfl
 simp only [dU, dT, Bool.and_true, Bool.and_eq_true] at h
 simp [aw, Tryz.underlying51, h2, h3, vfill, vcells1, h, overwrite, vzeros, List.range_succ]
theorem xI {a0 a1 a2 : VV} (h : leafL [a0, a1, a2] = true) : aw Tryz.prog 51 3 [(0, a0), (1, a1), (2, a2)] = some ([a0, a1, a2], 1) := by
 have h2 : szT Tryz.prog 60 = some 1 := by kernel_rfl
 have h3 : vzero Tryz.prog 60 = some #[.int .i64 0] := by kernel_rfl
 simp only [dU, dT, Bool.and_true, Bool.and_eq_true] at h
 simp [aw, Tryz.underlying51, h2, h3, vfill, vcells1, h, overwrite, vzeros, List.range_succ]
theorem xJ {c : VV} {cs : List VV} : aE Tryz.prog 60 (c :: cs) = some c := by
 have h1 : aggT Tryz.prog 60 = some false := by kernel_rfl
 simp [aE, aN, h1]
theorem xK : szT Tryz.prog 60 = some 1 := by kernel_rfl
theorem qg : vzl Tryz.prog 60 = some [.lit (.int .i64 0)] := by kernel_rfl
theorem xL {c : VV} {cs : List VV} : aE Tryz.prog 71 (c :: cs) = some c := by
 have h1 : aggT Tryz.prog 71 = some false := by kernel_rfl
 simp [aE, aN, h1]
theorem xM : szT Tryz.prog 71 = some 1 := by kernel_rfl
theorem qh : vzl Tryz.prog 71 = some [.lit (.slice none 0 0)] := by kernel_rfl
theorem qi {H : Nat → Option VObj} {cs : List VV} {n : Nat} {f : Bool} : vlen Tryz.prog H 71 (.sl cs n f) = some (.lit (.int .i64 n)) := by simp [vlen, Tryz.underlying71, sls]
theorem lenN71 {H : Nat → Option VObj} : vlen Tryz.prog H 71 (.lit (.slice none 0 0)) = some (.lit (.int .i64 0)) := by simp [vlen, Tryz.underlying71, sls]
theorem lenR71 {H : Nat → Option VObj} {β off n w c : Nat} : vlen Tryz.prog H 71 (.ref β off n w c) = (match H β with | some (.cells _ cs) => if off ≤ cs.length then some (.lit (.int .i64 n)) else none | _ => none) := lenR Tryz.underlying71
theorem xN : elemT Tryz.prog 71 = some 22 := by simp [elemT, Tryz.underlying71]
theorem xO {xs : List (List Int)} : (ae (eSl eI) xs).take (xs.length * 1) = ae (eSl eI) xs := pT (fun _ => rfl)
theorem xP {a0 : VV} (h : leafL [a0] = true) : aw Tryz.prog 71 1 [(0, a0)] = some ([a0], 1) := by
 have h2 : szT Tryz.prog 22 = some 1 := by kernel_rfl
 have h3 : vzero Tryz.prog 22 = some #[.slice none 0 0] := by kernel_rfl
 simp only [dU, dT, Bool.and_true, Bool.and_eq_true] at h
 simp [aw, Tryz.underlying71, h2, h3, vfill, vcells1, h, overwrite, vzeros, List.range_succ]
theorem xQ {a0 a1 : VV} (h : leafL [a0, a1] = true) : aw Tryz.prog 71 2 [(0, a0), (1, a1)] = some ([a0, a1], 1) := by
 have h2 : szT Tryz.prog 22 = some 1 := by kernel_rfl
 have h3 : vzero Tryz.prog 22 = some #[.slice none 0 0] := by kernel_rfl
 simp only [dU, dT, Bool.and_true, Bool.and_eq_true] at h
 simp [aw, Tryz.underlying71, h2, h3, vfill, vcells1, h, overwrite, vzeros, List.range_succ]
theorem xR {a0 a1 a2 : VV} (h : leafL [a0, a1, a2] = true) : aw Tryz.prog 71 3 [(0, a0), (1, a1), (2, a2)] = some ([a0, a1, a2], 1) := by
 have h2 : szT Tryz.prog 22 = some 1 := by kernel_rfl
 have h3 : vzero Tryz.prog 22 = some #[.slice none 0 0] := by kernel_rfl
 simp only [dU, dT, Bool.and_true, Bool.and_eq_true] at h
 simp [aw, Tryz.underlying71, h2, h3, vfill, vcells1, h, overwrite, vzeros, List.range_succ]
theorem xS {c0 c1 c2 c3 c4 : VV} {cs : List VV} : aE Tryz.prog 92 (c0 :: c1 :: c2 :: c3 :: c4 :: cs) = some (.agg [c0, c1, c2, c3, c4]) := by
 have h1 : aggT Tryz.prog 92 = some true := by kernel_rfl
 have h2 : szT Tryz.prog 92 = some 5 := by kernel_rfl
 simp [aE, aN, h1, h2]
theorem xT : szT Tryz.prog 92 = some 5 := by kernel_rfl
theorem ko : vzl Tryz.prog 92 = some [.lit (.int .i64 0), .lit (.slice none 0 0), .lit (.slice none 0 0), .lit (.slice none 0 0), .lit (.map none)] := by kernel_rfl
theorem xU {H : Nat → Option VObj} {cs : List VV} : ai Tryz.prog H 92 (.tp cs) 0 = some (.tp (cs.drop 0)) := by
 have h2 : szT Tryz.prog 25 = some 3 := by kernel_rfl
 simp [ai, Tryz.underlying92, h2]
theorem xV {H : Nat → Option VObj} {β o : Nat} : ai Tryz.prog H 92 (.ptr β o) 0 = if (H β).isSome = true then some (.ptr β (o + 0)) else none := by
 have h2 : szT Tryz.prog 25 = some 3 := by kernel_rfl
 simp [ai, Tryz.underlying92, h2]
theorem xW {c0 c1 c2 c3 c4 : VV} : aR Tryz.prog 92 (.agg [c0, c1, c2, c3, c4]) 0 = some (.agg [c0, c1, c2]) := by
 have h1 : aggT Tryz.prog 25 = some true := by kernel_rfl
 have h2 : szT Tryz.prog 25 = some 3 := by kernel_rfl
 simp [aR, Tryz.underlying92, aN, h1, h2]
theorem xX {H : Nat → Option VObj} {cs : List VV} : ai Tryz.prog H 92 (.tp cs) 1 = some (.tp (cs.drop 3)) := by
 have h2 : szT Tryz.prog 22 = some 1 := by kernel_rfl
 simp [ai, Tryz.underlying92, h2]
theorem xY {H : Nat → Option VObj} {β o : Nat} : ai Tryz.prog H 92 (.ptr β o) 1 = if (H β).isSome = true then some (.ptr β (o + 3)) else none := by
 have h2 : szT Tryz.prog 22 = some 1 := by kernel_rfl
 simp [ai, Tryz.underlying92, h2]
theorem xZ {c0 c1 c2 c3 c4 : VV} : aR Tryz.prog 92 (.agg [c0, c1, c2, c3, c4]) 1 = some (c3) := by
 have h1 : aggT Tryz.prog 22 = some false := by kernel_rfl
 have h2 : szT Tryz.prog 22 = some 1 := by kernel_rfl
 simp [aR, Tryz.underlying92, aN, h1, h2]
theorem ya {H : Nat → Option VObj} {cs : List VV} : ai Tryz.prog H 92 (.tp cs) 2 = some (.tp (cs.drop 4)) := by
 have h2 : szT Tryz.prog 90 = some 1 := by kernel_rfl
 simp [ai, Tryz.underlying92, h2]
theorem yb {H : Nat → Option VObj} {β o : Nat} : ai Tryz.prog H 92 (.ptr β o) 2 = if (H β).isSome = true then some (.ptr β (o + 4)) else none := by
 have h2 : szT Tryz.prog 90 = some 1 := by kernel_rfl
 simp [ai, Tryz.underlying92, h2]
theorem yc {c0 c1 c2 c3 c4 : VV} : aR Tryz.prog 92 (.agg [c0, c1, c2, c3, c4]) 2 = some (c4) := by
 have h1 : aggT Tryz.prog 90 = some false := by kernel_rfl
 have h2 : szT Tryz.prog 90 = some 1 := by kernel_rfl
 simp [aR, Tryz.underlying92, aN, h1, h2]
theorem qj {c0 : VV} {cs : List VV} : aE Tryz.prog 124 (c0 :: cs) = some (.agg [c0]) := by
 have h1 : aggT Tryz.prog 124 = some true := by kernel_rfl
 have h2 : szT Tryz.prog 124 = some 1 := by kernel_rfl
 simp [aE, aN, h1, h2]
theorem qk : szT Tryz.prog 124 = some 1 := by kernel_rfl
theorem gX : vzl Tryz.prog 124 = some [.lit (.slice none 0 0)] := by kernel_rfl
theorem yd {H : Nat → Option VObj} {cs : List VV} : ai Tryz.prog H 124 (.tp cs) 0 = some (.tp (cs.drop 0)) := by
 have h2 : szT Tryz.prog 22 = some 1 := by kernel_rfl
 simp [ai, Tryz.underlying124, h2]
theorem ye {H : Nat → Option VObj} {β o : Nat} : ai Tryz.prog H 124 (.ptr β o) 0 = if (H β).isSome = true then some (.ptr β (o + 0)) else none := by
 have h2 : szT Tryz.prog 22 = some 1 := by kernel_rfl
 simp [ai, Tryz.underlying124, h2]
theorem yf {c0 : VV} : aR Tryz.prog 124 (.agg [c0]) 0 = some (c0) := by
 have h1 : aggT Tryz.prog 22 = some false := by kernel_rfl
 have h2 : szT Tryz.prog 22 = some 1 := by kernel_rfl
 simp [aR, Tryz.underlying124, aN, h1, h2]
theorem ql {c0 c1 : VV} {cs : List VV} : aE Tryz.prog 152 (c0 :: c1 :: cs) = some (.agg [c0, c1]) := by
 have h1 : aggT Tryz.prog 152 = some true := by kernel_rfl
 have h2 : szT Tryz.prog 152 = some 2 := by kernel_rfl
 simp [aE, aN, h1, h2]
theorem qm : szT Tryz.prog 152 = some 2 := by kernel_rfl
theorem gY : vzl Tryz.prog 152 = some [.lit (.int .i64 0), .lit (.int .i64 0)] := by kernel_rfl
theorem yg {H : Nat → Option VObj} {cs : List VV} : ai Tryz.prog H 152 (.tp cs) 0 = some (.tp (cs.drop 0)) := by
 have h2 : szT Tryz.prog 3 = some 1 := by kernel_rfl
 simp [ai, Tryz.underlying152, h2]
theorem yh {H : Nat → Option VObj} {β o : Nat} : ai Tryz.prog H 152 (.ptr β o) 0 = if (H β).isSome = true then some (.ptr β (o + 0)) else none := by
 have h2 : szT Tryz.prog 3 = some 1 := by kernel_rfl
 simp [ai, Tryz.underlying152, h2]
theorem yi {c0 c1 : VV} : aR Tryz.prog 152 (.agg [c0, c1]) 0 = some (c0) := by
 have h1 : aggT Tryz.prog 3 = some false := by kernel_rfl
 have h2 : szT Tryz.prog 3 = some 1 := by kernel_rfl
 simp [aR, Tryz.underlying152, aN, h1, h2]
theorem yj {H : Nat → Option VObj} {cs : List VV} : ai Tryz.prog H 152 (.tp cs) 1 = some (.tp (cs.drop 1)) := by
 have h2 : szT Tryz.prog 3 = some 1 := by kernel_rfl
 simp [ai, Tryz.underlying152, h2]
theorem yk {H : Nat → Option VObj} {β o : Nat} : ai Tryz.prog H 152 (.ptr β o) 1 = if (H β).isSome = true then some (.ptr β (o + 1)) else none := by
 have h2 : szT Tryz.prog 3 = some 1 := by kernel_rfl
 simp [ai, Tryz.underlying152, h2]
theorem ym {c0 c1 : VV} : aR Tryz.prog 152 (.agg [c0, c1]) 1 = some (c1) := by
 have h1 : aggT Tryz.prog 3 = some false := by kernel_rfl
 have h2 : szT Tryz.prog 3 = some 1 := by kernel_rfl
 simp [aR, Tryz.underlying152, aN, h1, h2]
theorem qn {c : VV} {cs : List VV} : aE Tryz.prog 156 (c :: cs) = some c := by
 have h1 : aggT Tryz.prog 156 = some false := by kernel_rfl
 simp [aE, aN, h1]
theorem qo : szT Tryz.prog 156 = some 1 := by kernel_rfl
theorem lL : vzl Tryz.prog 156 = some [.lit (.int .i64 0)] := by kernel_rfl
theorem LS : szT Tryz.prog 1 = some 1 := by kernel_rfl
theorem LU {c : VV} {cs : List VV} : aE Tryz.prog 1 (c :: cs) = some c := by
 have h1 : aggT Tryz.prog 1 = some false := by kernel_rfl
 simp [aE, aN, h1]
theorem yn : vzl Tryz.prog 1 = some [.lit .nilFunc] := by kernel_rfl
theorem b8 : szT Tryz.prog 27 = some 1 := by kernel_rfl
theorem b9 {c : VV} {cs : List VV} : aE Tryz.prog 27 (c :: cs) = some c := by
 have h1 : aggT Tryz.prog 27 = some false := by kernel_rfl
 simp [aE, aN, h1]
theorem bg : vzl Tryz.prog 27 = some [.lit .nilFunc] := by kernel_rfl
theorem yo : szT Tryz.prog 47 = some 1 := by kernel_rfl
theorem bA {c : VV} {cs : List VV} : aE Tryz.prog 47 (c :: cs) = some c := by
 have h1 : aggT Tryz.prog 47 = some false := by kernel_rfl
 simp [aE, aN, h1]
theorem qp : vzl Tryz.prog 47 = some [.lit .nilFunc] := by kernel_rfl
theorem qq : szT Tryz.prog 104 = some 1 := by kernel_rfl
theorem qs {c : VV} {cs : List VV} : aE Tryz.prog 104 (c :: cs) = some c := by
 have h1 : aggT Tryz.prog 104 = some false := by kernel_rfl
 simp [aE, aN, h1]
theorem lM : vzl Tryz.prog 104 = some [.lit .nilFunc] := by kernel_rfl
theorem qt : szT Tryz.prog 105 = some 1 := by kernel_rfl
theorem qu {c : VV} {cs : List VV} : aE Tryz.prog 105 (c :: cs) = some c := by
 have h1 : aggT Tryz.prog 105 = some false := by kernel_rfl
 simp [aE, aN, h1]
theorem lN : vzl Tryz.prog 105 = some [.lit .nilFunc] := by kernel_rfl
theorem qv : szT Tryz.prog 129 = some 1 := by kernel_rfl
theorem kq {c : VV} {cs : List VV} : aE Tryz.prog 129 (c :: cs) = some c := by
 have h1 : aggT Tryz.prog 129 = some false := by kernel_rfl
 simp [aE, aN, h1]
theorem lO : vzl Tryz.prog 129 = some [.lit .nilFunc] := by kernel_rfl
theorem qw : szT Tryz.prog 130 = some 1 := by kernel_rfl
theorem cE {c : VV} {cs : List VV} : aE Tryz.prog 130 (c :: cs) = some c := by
 have h1 : aggT Tryz.prog 130 = some false := by kernel_rfl
 simp [aE, aN, h1]
theorem lP : vzl Tryz.prog 130 = some [.lit .nilFunc] := by kernel_rfl
theorem qx : szT Tryz.prog 131 = some 1 := by kernel_rfl
theorem qy {c : VV} {cs : List VV} : aE Tryz.prog 131 (c :: cs) = some c := by
 have h1 : aggT Tryz.prog 131 = some false := by kernel_rfl
 simp [aE, aN, h1]
theorem lQ : vzl Tryz.prog 131 = some [.lit .nilFunc] := by kernel_rfl
theorem qz : szT Tryz.prog 132 = some 1 := by kernel_rfl
theorem q9 {c : VV} {cs : List VV} : aE Tryz.prog 132 (c :: cs) = some c := by
 have h1 : aggT Tryz.prog 132 = some false := by kernel_rfl
 simp [aE, aN, h1]
theorem lR : vzl Tryz.prog 132 = some [.lit .nilFunc] := by kernel_rfl
theorem qA : szT Tryz.prog 153 = some 1 := by kernel_rfl
theorem qB {c : VV} {cs : List VV} : aE Tryz.prog 153 (c :: cs) = some c := by
 have h1 : aggT Tryz.prog 153 = some false := by kernel_rfl
 simp [aE, aN, h1]
theorem lS : vzl Tryz.prog 153 = some [.lit .nilFunc] := by kernel_rfl
theorem qC : szT Tryz.prog 154 = some 2 := by kernel_rfl
theorem gZ : vzl Tryz.prog 154 = some [.lit .nilFunc, .lit .nilFunc] := by kernel_rfl
theorem qD {c0 c1 : VV} {cs : List VV} : aE Tryz.prog 154 (c0 :: c1 :: cs) = some (.agg [c0, c1]) := by
 have h1 : aggT Tryz.prog 154 = some true := by kernel_rfl
 have h2 : szT Tryz.prog 154 = some 2 := by kernel_rfl
 simp [aE, aN, h1, h2]
theorem yp {c0 c1 : VV} {k : IntKind} : vindex Tryz.prog 154 (.agg [c0, c1]) (.lit (.int k 0)) = some c0 := by
 have h1 : aggT Tryz.prog 153 = some false := by kernel_rfl
 have h2 : szT Tryz.prog 153 = some 1 := by kernel_rfl
 simp [vindex, Tryz.underlying154, aN, h1, h2]
theorem yq {H : Nat → Option VObj} {β o : Nat} {k : IntKind} : aB Tryz.prog H 154 (.ptr β o) (.lit (.int k 0)) = if (H β).isSome = true then some (.ptr β (o + 0)) else none := by
 have h2 : szT Tryz.prog 153 = some 1 := by kernel_rfl
 simp [aB, Tryz.underlying154, h2]
theorem yr {c0 c1 : VV} {k : IntKind} : vindex Tryz.prog 154 (.agg [c0, c1]) (.lit (.int k 1)) = some c1 := by
 have h1 : aggT Tryz.prog 153 = some false := by kernel_rfl
 have h2 : szT Tryz.prog 153 = some 1 := by kernel_rfl
 simp [vindex, Tryz.underlying154, aN, h1, h2]
theorem yu {H : Nat → Option VObj} {β o : Nat} {k : IntKind} : aB Tryz.prog H 154 (.ptr β o) (.lit (.int k 1)) = if (H β).isSome = true then some (.ptr β (o + 1)) else none := by
 have h2 : szT Tryz.prog 153 = some 1 := by kernel_rfl
 simp [aB, Tryz.underlying154, h2]
theorem yv : vbuild Tryz.prog 35 [] = some (.agg [.lit (.int .i64 0), .lit (.int .i64 0)]) := by
 rw [ow gW (by kernel_rfl)]
 rfl
theorem yw {bJ cz : VV} (h : leafL [bJ, cz] = true) : vbuild Tryz.prog 35 [(0, bJ), (1, cz)] = some (.agg [bJ, cz]) := by
 have p0 : placeT Tryz.prog 35 0 = some (0, 1) := by kernel_rfl
 have p1 : placeT Tryz.prog 35 1 = some (1, 1) := by kernel_rfl
 simp only [dU, dT, Bool.and_true, Bool.and_eq_true] at h
 rw [ow gW (by kernel_rfl)]
 simp [vfill, p0, p1, vcells1, h, overwrite]
theorem yx {bJ hC hO cz lT : VV} (h : leafL [bJ, hC, hO, cz, lT] = true) : vbuild Tryz.prog 92 [(0, .agg [bJ, hC, hO]), (1, cz), (2, lT)] = some (.agg [bJ, hC, hO, cz, lT]) := by
 have p0 : placeT Tryz.prog 92 0 = some (0, 3) := by kernel_rfl
 have p1 : placeT Tryz.prog 92 1 = some (3, 1) := by kernel_rfl
 have p2 : placeT Tryz.prog 92 2 = some (4, 1) := by kernel_rfl
 simp only [dU, dT, Bool.and_true, Bool.and_eq_true] at h
 have q0 : aQ (.agg [bJ, hC, hO]) = some [bJ, hC, hO] := by rw [HT]; simp [dU, dT, h]
 rw [ow ko (by kernel_rfl)]
 simp [vfill, p0, p1, p2, vcells1, h, overwrite, q0]
theorem yy {bJ : VV} (h : leafL [bJ] = true) : vbuild Tryz.prog 124 [(0, bJ)] = some (.agg [bJ]) := by
 have p0 : placeT Tryz.prog 124 0 = some (0, 1) := by kernel_rfl
 simp only [dU, dT, Bool.and_true, Bool.and_eq_true] at h
 rw [ow gX (by kernel_rfl)]
 simp [vfill, p0, vcells1, h, overwrite]
theorem yz {bJ cz : VV} (h : leafL [bJ, cz] = true) : vbuild Tryz.prog 152 [(0, bJ), (1, cz)] = some (.agg [bJ, cz]) := by
 have p0 : placeT Tryz.prog 152 0 = some (0, 1) := by kernel_rfl
 have p1 : placeT Tryz.prog 152 1 = some (1, 1) := by kernel_rfl
 simp only [dU, dT, Bool.and_true, Bool.and_eq_true] at h
 rw [ow gY (by kernel_rfl)]
 simp [vfill, p0, p1, vcells1, h, overwrite]
theorem y6 {bJ cz : VV} (h : leafL [bJ, cz] = true) : vbuild Tryz.prog 154 [(0, bJ), (1, cz)] = some (.agg [bJ, cz]) := by
 have p0 : placeT Tryz.prog 154 0 = some (0, 1) := by kernel_rfl
 have p1 : placeT Tryz.prog 154 1 = some (1, 1) := by kernel_rfl
 simp only [dU, dT, Bool.and_true, Bool.and_eq_true] at h
 rw [ow gZ (by kernel_rfl)]
 simp [vfill, p0, p1, vcells1, h, overwrite]
theorem qE {x : VV} : mkIfcV Tryz.prog 124 x = some (.ifc 124 x) := by simp [mkIfcV, Tryz.underlying124]
theorem qF : ((Tryz.prog.info? 124).bind (·.zero)).map (fun z => VV.tup [ofVal2 z, .lit (.bool false)]) = some (.tup [.agg [.lit (.slice none 0 0)], .lit (.bool false)]) := by kernel_rfl
theorem qG : vtypeAssert Tryz.prog (.lit .nilIface) 124 true = some (.tup [.agg [.lit (.slice none 0 0)], .lit (.bool false)]) := by
 simp only [vtypeAssert, Tryz.underlying124, if_true]
 exact qF
theorem qH {x : VV} : vtypeAssert Tryz.prog (.ifc 124 x) 124 true = some (.tup [x, .lit (.bool true)]) := by
 simp [vtypeAssert, Tryz.underlying124]
theorem LV {H : Nat → Option VObj} {x y : Operand} {a b : Bool} : binV Tryz.prog H .eql 4 x y (.lit (.bool a)) (.lit (.bool b)) = some (.lit (.bool (a == b))) := y7 Tryz.underlying4
theorem LW {H : Nat → Option VObj} {x y : Operand} {a b : Bool} : binV Tryz.prog H .neq 4 x y (.lit (.bool a)) (.lit (.bool b)) = some (.lit (.bool (a != b))) := y8 Tryz.underlying4
theorem qI {H : Nat → Option VObj} {x y : Operand} {a0 b0 : Int} {a1 b1 : Int} : binV Tryz.prog H .eql 35 x y (.agg [.lit (.int .i64 a0), .lit (.int .i64 a1)]) (.agg [.lit (.int .i64 b0), .lit (.int .i64 b1)]) = some (.lit (.bool (a0 == b0 && (a1 == b1)))) ∧ binV Tryz.prog H .neq 35 x y (.agg [.lit (.int .i64 a0), .lit (.int .i64 a1)]) (.agg [.lit (.int .i64 b0), .lit (.int .i64 b1)]) = some (.lit (.bool (!(a0 == b0 && (a1 == b1))))) := by
 refine binS (xs := [.int .i64 a0, .int .i64 a1]) (ys := [.int .i64 b0, .int .i64 b1]) (by simp [VV.val?, valL?]) (by simp [VV.val?, valL?]) Tryz.underlying35 (by kernel_rfl) (by kernel_rfl) ?_
 simp [eqF, hU, eq1, Tryz.underlying3]
theorem y9 {H : Nat → Option VObj} {x y : Operand} {a0 b0 : Int} {a1 b1 : Int} : binV Tryz.prog H .eql 35 x y (.agg [.lit (.int .i64 a0), .lit (.int .i64 a1)]) (.agg [.lit (.int .i64 b0), .lit (.int .i64 b1)]) = some (.lit (.bool (a0 == b0 && (a1 == b1)))) := qI.1
theorem yA {H : Nat → Option VObj} {x y : Operand} {a0 b0 : Int} {a1 b1 : Int} : binV Tryz.prog H .neq 35 x y (.agg [.lit (.int .i64 a0), .lit (.int .i64 a1)]) (.agg [.lit (.int .i64 b0), .lit (.int .i64 b1)]) = some (.lit (.bool (!(a0 == b0 && (a1 == b1))))) := qI.2
theorem yB : (VV.lit Value.nilFunc).leaf = true := rfl
theorem yC : (VV.lit Value.nilIface).leaf = true := rfl
def tyf := (And.intro (And.intro (And.intro (And.intro (And.intro (And.intro (And.intro @lH (And.intro @pQ @fQ)) (And.intro @ug (And.intro @uh @LI))) (And.intro (And.intro @LJ (And.intro @wx @LK)) (And.intro @LL (And.intro @wy @LM)))) (And.intro (And.intro (And.intro @LN (And.intro @wz @LP)) (And.intro @LQ (And.intro @w5 @wB))) (And.intro (And.intro @wC (And.intro @pR @pS)) (And.intro @lenN22 (And.intro @lenR22 @eh))))) (And.intro (And.intro (And.intro (And.intro @wD (And.intro @wI @wJ)) (And.intro @wK (And.intro @wL @wM))) (And.intro (And.intro @pU (And.intro @pV @lenN23)) (And.intro @lenR23 (And.intro @wN @wO)))) (And.intro (And.intro (And.intro @wP (And.intro @wQ @wR)) (And.intro @pW (And.intro @wS @wT))) (And.intro (And.intro @wU (And.intro @wV @wW)) (And.intro (And.intro @wX @wY) (And.intro @wZ @xa)))))) (And.intro (And.intro (And.intro (And.intro (And.intro @xb (And.intro @xc @pX)) (And.intro @xd (And.intro @xe @pY))) (And.intro (And.intro @pZ (And.intro @lenN31 @lenR31)) (And.intro @jq (And.intro @xf @xg)))) (And.intro (And.intro (And.intro @xi (And.intro @xj @gW)) (And.intro @xk (And.intro @xl @xm))) (And.intro (And.intro @xn (And.intro @xo @xp)) (And.intro (And.intro @xq @xr) (And.intro @qc @xt))))) (And.intro (And.intro (And.intro (And.intro @xu (And.intro @xv @xw)) (And.intro @xx (And.intro @xy @xz))) (And.intro (And.intro @x5 (And.intro @x7 @x8)) (And.intro @xA (And.intro @xB @xC)))) (And.intro (And.intro (And.intro @xD (And.intro @qe @qf)) (And.intro @lenN51 (And.intro @lenR51 @xE))) (And.intro (And.intro @xF (And.intro @xG @xH)) (And.intro (And.intro @xI @xJ) (And.intro @xK @qg))))))) (And.intro (And.intro (And.intro (And.intro (And.intro (And.intro @xL (And.intro @xM @qh)) (And.intro @qi (And.intro @lenN71 @lenR71))) (And.intro (And.intro @xN (And.intro @xO @xP)) (And.intro @xQ (And.intro @xR @xS)))) (And.intro (And.intro (And.intro @xT (And.intro @ko @xU)) (And.intro @xV (And.intro @xW @xX))) (And.intro (And.intro @xY (And.intro @xZ @ya)) (And.intro @yb (And.intro @yc @qj))))) (And.intro (And.intro (And.intro (And.intro @qk (And.intro @gX @yd)) (And.intro @ye (And.intro @yf @ql))) (And.intro (And.intro @qm (And.intro @gY @yg)) (And.intro @yh (And.intro @yi @yj)))) (And.intro (And.intro (And.intro @yk (And.intro @ym @qn)) (And.intro @qo (And.intro @lL @LS))) (And.intro (And.intro @LU (And.intro @yn @b8)) (And.intro (And.intro @b9 @bg) (And.intro @yo @bA)))))) (And.intro (And.intro (And.intro (And.intro (And.intro @qp (And.intro @qq @qs)) (And.intro @lM (And.intro @qt @qu))) (And.intro (And.intro @lN (And.intro @qv @kq)) (And.intro @lO (And.intro @qw @cE)))) (And.intro (And.intro (And.intro @lP (And.intro @qx @qy)) (And.intro @lQ (And.intro @qz @q9))) (And.intro (And.intro @lR (And.intro @qA @qB)) (And.intro (And.intro @lS @qC) (And.intro @gZ @qD))))) (And.intro (And.intro (And.intro (And.intro @yp (And.intro @yq @yr)) (And.intro @yu (And.intro @yv @yw))) (And.intro (And.intro @yx (And.intro @yy @yz)) (And.intro @y6 (And.intro @qE @qG)))) (And.intro (And.intro (And.intro @qH (And.intro @LV @LW)) (And.intro @y9 (And.intro @yA @yB))) (And.intro (And.intro @yC (And.intro @HU @eI_eq)) (And.intro (And.intro @lI @eB_eq) (And.intro @eS_eq @lJ))))))))
def aI := (And.intro (And.intro (And.intro (And.intro @cB.norm (And.intro @cB.normL @cB.shown)) (And.intro @cB.showL (And.intro @cN.norm @cN.normL))) (And.intro (And.intro @cN.shown (And.intro @cN.showL @eg.norm)) (And.intro @eg.normL (And.intro @eg.shown @eg.showL)))) (And.intro (And.intro (And.intro @gG.norm (And.intro @gG.normL @gG.shown)) (And.intro @gG.showL (And.intro @ou.norm @ou.normL))) (And.intro (And.intro @ou.shown (And.intro @ou.showL @ov.norm)) (And.intro @ov.normL (And.intro @ov.shown @ov.showL)))))
def tytre := (And.intro (And.intro (And.intro @cB.tree (And.intro @cB.treeL @cN.tree)) (And.intro @cN.treeL (And.intro @eg.tree @eg.treeL))) (And.intro (And.intro @gG.tree (And.intro @gG.treeL @ou.tree)) (And.intro @ou.treeL (And.intro @ov.tree @ov.treeL))))
end Go.V
namespace Go.V
open Go Go.Proofs IntKind
theorem ktA {P : Program} {G : Glob} {d : Option Tmp} {γ : Nat} {tm : Nat → VV} {H : Nat → Option VObj} {nx : Nat} {df : List VDef} {K : St → Prop} {Qp : VV → St → Prop} {f : FuncId} {args args0 : List VV} {x : VV} (hp : aj P G f args0 (.tree x)) (h : fin d γ tm H nx df K x .none) (hn : normL args = args0 := by first | (simp only [nrm, aI] <;> rfl) | rfl) (ht : treeL args = true := by simp only [tre, tytre, Bool.and_self]) : callK P G f args ⟨tm, H, nx, df⟩ d γ K Qp := ktree hn ht hp h
theorem dktA {P : Program} {G : Glob} {d : Option Tmp} {γ : Nat} {tm : Nat → VV} {H : Nat → Option VObj} {nx : Nat} {df : List VDef} {K : List Nat → List Nat → St → Prop} {f : FuncId} {args args0 : List VV} {x : VV} (hp : aj P G f args0 (.tree x)) (h : fin d γ tm H nx df (K [] []) x .none) (hn : normL args = args0 := by first | (simp only [nrm, aI] <;> rfl) | rfl) (ht : treeL args = true := by simp only [tre, tytre, Bool.and_self]) : dcallK P G f args tm H nx df d γ K := dktree hn ht hp h
theorem optI {α β : Type} {K : Option β → Prop} {X : Option α} {F : α → Option β} (h : K (Option.bind X F)) (kN : ¬ K none) : ∃ r, X = some r ∧ K (F r) := by
  cases X with
  | none => exact absurd h kN
  | some r => exact ⟨r, rfl, h⟩
end Go.V
end
section
namespace Go.V
open Go Go.Proofs IntKind
def Dec (P : Program) (n : Nat) (t : TypeId) {α : Type} (enc : α → List VV) (R : α → Prop) : Prop := ∀ xs, ShapeT P n t xs → ∃ x : α, R x ∧ normL xs = enc x
theorem yD {P : Program} {n : Nat} {t : TypeId} (hu : P.underlying t = some (.int .i64)) : Dec P (n + 1) t eI (fun _ => True) := by
 intro xs h
 simp only [ShapeT, hu] at h
 obtain ⟨i, _, rfl⟩ := h
 exact ⟨i, trivial, by simp only [lU, lV, HV, eI]⟩
theorem yE {P : Program} {n : Nat} {t : TypeId} (hu : P.underlying t = some .bool) : Dec P (n + 1) t eB (fun _ => True) := by
 intro xs h
 simp only [ShapeT, hu] at h
 obtain ⟨b, rfl⟩ := h
 exact ⟨b, trivial, by simp only [lU, lV, yF, eB]⟩
theorem qJ {P : Program} {n : Nat} {t : TypeId} {α : Type} {enc : α → List VV} {R : α → Prop} (h : Dec P n t enc R) : ∀ yss : List (List VV), (∀ ys ∈ yss, ShapeT P n t ys) → ∃ l : List α, l.length = yss.length ∧ (∀ x ∈ l, R x) ∧ normL yss.flatten = ae enc l
 | [], _ => ⟨[], rfl, fun _ hx => (by cases hx), rfl⟩
 | ys :: yss, hs => by
  obtain ⟨x, hx, e⟩ := h ys (hs ys (List.mem_cons_self ..))
  obtain ⟨l, h1, h2, h3⟩ := qJ h yss (fun y hy => hs y (List.mem_cons_of_mem _ hy))
  refine ⟨x :: l, by simp [h1], fun y hy => ?_, by rw [List.flatten_cons, oy, e, h3, hY]⟩
  rcases List.mem_cons.1 hy with rfl | hy
  ·exact hx
  ·exact h2 y hy
theorem HW {P : Program} {n : Nat} {t e : TypeId} {α : Type} {enc : α → List VV} {R : α → Prop} (hu : P.underlying t = some (.slice e)) (h : Dec P n e enc R) : Dec P (n + 1) t (fun l : List α => [.sl (ae enc l) l.length false]) (fun l => lenOk l = true ∧ ∀ x ∈ l, R x) := by
 intro xs hs
 simp only [ShapeT, hu] at hs
 rcases hs with rfl | ⟨yss, hl, hall, rfl⟩
 ·exact ⟨[], ⟨rfl, fun _ hx => (by cases hx)⟩, by simp only [lU, lV, HX]; rfl⟩
 ·obtain ⟨l, h1, h2, h3⟩ := qJ h yss hall
  refine ⟨l, ⟨?_, h2⟩, by simp only [lU, lV, qK, h3, h1]⟩
  have : maxLen = 9223372036854775807 := by decide
  unfold lenOk
  exact decide_eq_true (by omega)
theorem yG {P : Program} {n : Nat} {t : TypeId} {fs : Array Field} {xs : List VV} (hu : P.underlying t = some (.struct fs)) (h : ShapeT P (n + 1) t xs) : ∃ yss, FieldsS (ShapeT P n) fs.toList yss ∧ xs = yss.flatten := by
 simp only [ShapeT, hu] at h
 exact h
def TypesS (S : TypeId → List VV → Prop) : List TypeId → List (List VV) → Prop
 | [], [] => True
 | t :: ts, ys :: yss => S t ys ∧ TypesS S ts yss
 | _, _ => False
theorem qL {S : TypeId → List VV → Prop} : ∀ (fs : List Field) (yss : List (List VV)), FieldsS S fs yss → TypesS S (fs.map Field.type) yss
 | [], [], _ => trivial
 | f :: fs, ys :: yss, ⟨h1, h2⟩ => ⟨h1, qL fs yss h2⟩
 | [], _ :: _, h => h
 | _ :: _, [], h => h
theorem yH {P : Program} {n : Nat} {t : TypeId} {fs : Array Field} {ts : List TypeId} {xs : List VV} (hu : P.underlying t = some (.struct fs)) (ht : fs.toList.map Field.type = ts) (h : ShapeT P (n + 1) t xs) : ∃ yss, TypesS (ShapeT P n) ts yss ∧ xs = yss.flatten := by
 obtain ⟨yss, h1, h2⟩ := yG hu h
 exact ⟨yss, ht ▸ qL _ _ h1, h2⟩
theorem ui {P : Program} {n : Nat} {t : TypeId} {ts : List TypeId} {xs : List VV} (h : ArgsS P n (t :: ts) xs) : ∃ x xs', xs = x :: xs' ∧ ArgS P n t x ∧ ArgsS P n ts xs' := by
 match xs, h with
 | x :: xs', h => exact ⟨x, xs', rfl, h.1, h.2⟩
theorem yI {P : Program} {n : Nat} {xs : List VV} (h : ArgsS P n [] xs) : xs = [] := by
 match xs, h with
 | [], _ => rfl
theorem yJ {P : Program} {n : Nat} {t : TypeId} {fs : Array Field} {x : VV} {α : Type} {enc : α → List VV} {R : α → Prop} (hu : P.underlying t = some (.struct fs)) (hd : Dec P n t enc R) (h : ArgS P n t x) : ∃ s, R s ∧ normV x = .agg (enc s) := by
 obtain ⟨ys, h1, h2⟩ := h
 rw [hu] at h2
 obtain rfl : x = .agg ys := h2
 obtain ⟨s, hs, e⟩ := hd ys h1
 exact ⟨s, hs, by rw [HY, e]⟩
theorem yK {P : Program} {n : Nat} {t : TypeId} {d : TypeDesc} {x : VV} {α : Type} {enc : α → List VV} {R : α → Prop} (hu : P.underlying t = some d) (hn : (∀ fs, d ≠ .struct fs) ∧ ∀ m e, d ≠ .array m e) (hd : Dec P n t enc R) (h : ArgS P n t x) : ∃ s, R s ∧ [normV x] = enc s := by
 obtain ⟨ys, h1, h2⟩ := h
 rw [hu] at h2
 have h3 : ys = [x] := by
  cases d <;> first | exact h2 | exact absurd rfl (hn.1 _) | exact absurd rfl (hn.2 _ _)
 subst h3
 obtain ⟨s, hs, e⟩ := hd _ h1
 exact ⟨s, hs, by rw [← e, lU, lV]⟩
end Go.V
end
section
set_option maxRecDepth 100000
namespace Go.V
open Go Go.Proofs IntKind
def yL (x : GBs) : Prop := lenOk x.Needs = true
def HZ (x : GBk) : Prop := lenOk x.Boards = true ∧ lenOk x.Strokes = true ∧ ∀ y ∈ x.Strokes, yL y
section
variable {P : Program} (eZ : P.underlying 3 = some (.int .i64)) (cO : P.underlying 22 = some (.slice 3)) (ga : P.underlying 4 = some (.bool)) {Ia : Array Field} (cP : P.underlying 35 = some (.struct Ia)) (cQ : Ia.toList.map Field.type = [3, 3]) {Ib : Array Field} (cR : P.underlying 49 = some (.struct Ib)) (cS : Ib.toList.map Field.type = [3, 4, 35, 22]) (cT : P.underlying 23 = some (.slice 49)) {Ic : Array Field} (cU : P.underlying 25 = some (.struct Ic)) (cV : Ic.toList.map Field.type = [3, 22, 23])
include eZ cO ga cP cQ cR cS cT cU cV
theorem gd_3 {n : Nat} : Dec P (n + 1) 3 eI (fun _ => True) := yD eZ
theorem gd_22 {n : Nat} : Dec P (n + 2) 22 (eSl eI) (fun l => lenOk l = true ∧ ∀ x ∈ l, True) := HW cO (gd_3 eZ cO ga cP cQ cR cS cT cU cV (n := n))
theorem gd_4 {n : Nat} : Dec P (n + 1) 4 eB (fun _ => True) := yE ga
theorem gd_35 {n : Nat} : Dec P (n + 2) 35 cGSpan (fun _ => True) := by
 intro xs h
 obtain ⟨yss, hf, rfl⟩ := yH (n := n + 1) (ts := [3, 3]) cP cQ h
 match yss, hf with
 | [y0, y1], ⟨h0, h1, _⟩ =>
  obtain ⟨x0, r0, e0⟩ := gd_3 eZ cO ga cP cQ cR cS cT cU cV (n := n + 0) _ h0
  obtain ⟨x1, r1, e1⟩ := gd_3 eZ cO ga cP cQ cR cS cT cU cV (n := n + 0) _ h1
  exact ⟨⟨x0, x1⟩, trivial, by simp only [List.flatten_cons, List.flatten_nil, List.append_nil, oy, e0, e1, eI, ku, eB, eS, eSl, lH, List.cons_append, List.nil_append]⟩
theorem gd_49 {n : Nat} : Dec P (n + 3) 49 cGBs (yL) := by
 intro xs h
 obtain ⟨yss, hf, rfl⟩ := yH (n := n + 2) (ts := [3, 4, 35, 22]) cR cS h
 match yss, hf with
 | [y0, y1, y2, y3], ⟨h0, h1, h2, h3, _⟩ =>
  obtain ⟨x0, r0, e0⟩ := gd_3 eZ cO ga cP cQ cR cS cT cU cV (n := n + 1) _ h0
  obtain ⟨x1, r1, e1⟩ := gd_4 eZ cO ga cP cQ cR cS cT cU cV (n := n + 1) _ h1
  obtain ⟨x2, r2, e2⟩ := gd_35 eZ cO ga cP cQ cR cS cT cU cV (n := n + 0) _ h2
  obtain ⟨x3, r3, e3⟩ := gd_22 eZ cO ga cP cQ cR cS cT cU cV (n := n + 0) _ h3
  exact ⟨⟨x0, x1, x2, x3⟩, r3.1, by simp only [List.flatten_cons, List.flatten_nil, List.append_nil, oy, e0, e1, e2, e3, eI, ku, eB, eS, eSl, pQ, lH, List.cons_append, List.nil_append]⟩
theorem gd_23 {n : Nat} : Dec P (n + 4) 23 (eSl cGBs) (fun l => lenOk l = true ∧ ∀ x ∈ l, yL x) := HW cT (gd_49 eZ cO ga cP cQ cR cS cT cU cV (n := n))
theorem gd_25 {n : Nat} : Dec P (n + 5) 25 cGBk (HZ) := by
 intro xs h
 obtain ⟨yss, hf, rfl⟩ := yH (n := n + 4) (ts := [3, 22, 23]) cU cV h
 match yss, hf with
 | [y0, y1, y2], ⟨h0, h1, h2, _⟩ =>
  obtain ⟨x0, r0, e0⟩ := gd_3 eZ cO ga cP cQ cR cS cT cU cV (n := n + 3) _ h0
  obtain ⟨x1, r1, e1⟩ := gd_22 eZ cO ga cP cQ cR cS cT cU cV (n := n + 2) _ h1
  obtain ⟨x2, r2, e2⟩ := gd_23 eZ cO ga cP cQ cR cS cT cU cV (n := n + 0) _ h2
  exact ⟨⟨x0, x1, x2⟩, ⟨r1.1, r2.1, r2.2⟩, by simp only [List.flatten_cons, List.flatten_nil, List.append_nil, oy, e0, e1, e2, eI, ku, eB, eS, eSl, fQ, List.cons_append, List.nil_append]⟩
end
theorem dec_3 {n : Nat} : Dec Tryz.prog (n + 1) 3 eI (fun _ => True) := gd_3 Tryz.underlying3 Tryz.underlying22 Tryz.underlying4 Tryz.underlying35 (by kernel_rfl) Tryz.underlying49 (by kernel_rfl) Tryz.underlying23 Tryz.underlying25 (by kernel_rfl)
theorem yM {n : Nat} : Dec Tryz.prog (n + 2) 22 (eSl eI) (fun l => lenOk l = true ∧ ∀ x ∈ l, True) := gd_22 Tryz.underlying3 Tryz.underlying22 Tryz.underlying4 Tryz.underlying35 (by kernel_rfl) Tryz.underlying49 (by kernel_rfl) Tryz.underlying23 Tryz.underlying25 (by kernel_rfl)
theorem yN {n : Nat} : Dec Tryz.prog (n + 5) 25 cGBk (HZ) := gd_25 Tryz.underlying3 Tryz.underlying22 Tryz.underlying4 Tryz.underlying35 (by kernel_rfl) Tryz.underlying49 (by kernel_rfl) Tryz.underlying23 Tryz.underlying25 (by kernel_rfl)
end Go.V
end
section
namespace Go.V
open Go Go.Proofs IntKind
def iZ (xs : List Int) : Option (List Int) := cond (neB xs) (cond (roomOk 8 xs.length) (some xs) none) none
theorem Ie (xs R : List Int) (h : iZ xs = some R) : aj Tryz.prog G0 124 [.sl (ae eI xs) xs.length false] (.own (ae eI R) R.length 1) := by
 unfold iZ at h
 cases hn : neB xs with
 | false => rw [hn] at h; cases h
 | true =>
 cases hr : roomOk 8 xs.length with
 | false => rw [hn, hr] at h; cases h
 | true =>
 rw [hn, hr] at h
 simp only [cond_true, Option.some.injEq] at h
 subst h
 have hc : ae eI xs ≠ [] := by
  cases xs with
  | nil => cases hn
  | cons a l => intro hh; cases hh
 have hnil : ∀ (H : Nat → Option VObj) (x y : Operand), binV Tryz.prog H .eql 22 x y (.sl (ae eI xs) xs.length false) (.lit (.slice none 0 0)) = some (.lit (.bool false)) := fun H x y => LY Tryz.underlying22 hc
 have hb : aw Tryz.prog 22 0 [] = some ([], 1) := by kernel_rfl
 refine aj.run mixed Tryz.call124 Tryz.func124 rfl (by simp [Tryz.ntmps124]; kernel_rfl) ?_
 simp only [vz, tyf, hnil, hb, List.map_nil, seval]
 refine yO (w := 1) (enc := eI) (xs := ([] : List Int)) (ys := xs) (el := some 3) (fun _ => rfl) fZ fY Tryz.underlying22 rfl hn (by rw [List.nil_append]; exact hr) ?_
 simp only [vz, tyf, List.nil_append, seval]
 refine ⟨rfl, .ref 5 0 xs.length 1 xs.length, by simp [Tryz.results124, resV, resL, resV1, upd], (ae eI xs).length + 1, 5, _, ae eI xs, ⟨_, rfl⟩, by simp only [aX, b2, seval] <;> rfl, qM _ _ (eI_ok.treeL xs) (Nat.lt_succ_self _)⟩
def ExtOk (β y e : Nat) (mc : List VV) (mf : Nat) (ln lim : Nat) (may : List Int → Int → Option Bool) (I : Inv) (d : Nat) : Prop :=
  ∀ (p : List Int) (rest : List VV) (L : List (List Int)) (Fr : Nat → Prop) (H : Nat → Option VObj) (nx : Nat), p.length + d = ln → listsO may lim d p = some L → (∀ γ, Fr γ → γ < nx) → Fr y → Fr e → H y = some (.cells (some 27) [.yl β]) →
    H e = some (.cells (some 27) [.fn (.func 138) [] [.tp [.lit (.int .i64 ln)], .ptr y 0, .tp [.lit (.int .i64 lim)], .tp [.fn (.func mf) [] mc], .ptr e 0]]) →
    I (some (L.map (vx eI) ++ rest)) Fr H nx →
    aq Tryz.prog G0 138 [vx eI p, .tp [.lit (.int .i64 ln)], .ptr y 0, .tp [.lit (.int .i64 lim)], .tp [.fn (.func mf) [] mc], .ptr e 0] H nx
      (fun v H' nx' => ∃ b, v = .lit (.bool b) ∧ nx ≤ nx' ∧ (∀ γ, Fr γ → H' γ = H γ) ∧ I (if b then some rest else none) Fr H' nx') (fun _ _ _ => False)
theorem qN {P : Program} {t e : Nat} {H : Nat → Option VObj} (hu : P.underlying t = some (.slice e)) : ∀ {p : List Int}, vlen P H t (vx eI p) = some (.lit (.int .i64 p.length))
  | [] => by simp [vlen, vx, hu, sls]
  | _ :: _ => by simp [vlen, vx, hu, sls]
theorem yP : aj Tryz.prog G0 124 [.lit (.slice none 0 0)] (.tree (.lit (.slice none 0 0))) := by
  have hnil : ∀ (H : Nat → Option VObj) (x y : Operand), binV Tryz.prog H .eql 22 x y (.lit (.slice none 0 0)) (.lit (.slice none 0 0)) = some (.lit (.bool true)) := fun H x y => by kernel_rfl
  refine aj.run mixed Tryz.call124 Tryz.func124 rfl (by simp [Tryz.ntmps124]; kernel_rfl) ?_
  simp only [vz, tyf, @bA, @b9, @b8, @bg, hnil, seval, ua]
  exact ⟨rfl, .lit (.slice none 0 0), by simp [Tryz.results124, resV, resL, resV1, upd], 1, rfl⟩
theorem yQ {β y e : Nat} {mc : List VV} {mf ln lim : Nat} {may : List Int → Int → Option Bool} {I : Inv} (hst : Stable I) (hr : Rounds Tryz.prog G0 β I) (htm : treeL mc = true) (qO : 0 < ln) (hln : ln < 1000) (hlim : lim < 1000000)
    (hm : ∀ (p : List Int) (j : Int) (b : Bool), may p j = some b → aj Tryz.prog G0 mf (.sl (ae eI p) p.length false :: .lit (.int .i64 j) :: mc) (.tree (.lit (.bool b)))) : ∀ d, ExtOk β y e mc mf ln lim may I d := by
  intro d
  induction d with
  | zero =>
    intro p rest L Fr H nx hd hL hF hFy hFe hy he hI
    simp only [listsO, Option.some.injEq] at hL
    subst hL
    refine aq.run mixed Tryz.call138 Tryz.func138 rfl (by simp [Tryz.ntmps138]; kernel_rfl) ?_
    have hl := fun H => qN (P := Tryz.prog) (H := H) Tryz.underlying22 (p := p)
    have hq : ((p.length : Int) == (ln : Int)) = true := by rw [show p.length = ln from hd]; simp
    simp only [argsTm6, vz, tyf, @bA, @b9, @b8, @bg, seval, ua, hl, hq, hy, rg]
    have LZ : I (some (vx eI p :: rest)) Fr H (nx + 9) := hst _ _ _ _ _ _ _ hI (fun _ _ _ => rfl) (by omega) (fun γ h => .inl h)
    refine (hr (vx eI p) rest Fr H (nx + 9) (fun γ h => by have := hF γ h; omega) LZ) (some none) _ _ _ rfl rfl ?_
    rintro b H' nx' ⟨h1, h2, h3⟩
    simp only [vz, tyf, @bA, @b9, @b8, @bg, seval, ua]
    exact bS (x := .lit (.bool b)) (by simp [Tryz.results138, resV, resL, resV1, upd]) ⟨b, rfl, by omega, h2, h3⟩
  | succ d ih =>
    intro p rest L Fr H nx hd hL hF hFy hFe hy he hI
    rw [listsO] at hL
    refine aq.run mixed Tryz.call138 Tryz.func138 rfl (by simp [Tryz.ntmps138]; kernel_rfl) ?_
    have hl := fun H => qN (P := Tryz.prog) (H := H) Tryz.underlying22 (p := p)
    have hq : ((p.length : Int) == (ln : Int)) = false := by rw [← hd]; simp; omega
    simp only [argsTm6, vz, tyf, @bA, @b9, @b8, @bg, seval, ua, hl, hq, hy, rg]
    obtain ⟨J, hJ⟩ : ∃ J : Nat → St → Prop, J = (fun m st => ∃ j : Nat, j + m = lim ∧ st.df = [] ∧ nx ≤ st.nx ∧ (∀ γ, Fr γ → st.H γ = H γ) ∧
      (∃ L, goL (listsO may lim d) may p (List.range' j m) = some L ∧ I (some (L.map (vx eI) ++ rest)) Fr st.H st.nx) ∧
      st.tm 0 = vx eI p ∧ st.tm 4 = .tp [.fn (.func mf) [] mc] ∧ st.tm 5 = .ptr e 0 ∧ st.tm 16 = .lit (.int .i64 lim) ∧ st.tm 17 = .lit (.int .i64 j)) := ⟨_, rfl⟩
    refine loopK mixed (by kernel_rfl) J lim (by rw [hJ]; refine ⟨0, by omega, rfl, ?_, fun _ _ => rfl, ⟨L, hL, hst _ _ _ _ _ _ _ hI (fun _ _ _ => rfl) ?_ (fun γ h => .inl h)⟩, ?_, ?_, ?_, ?_, ?_⟩ <;> first | rfl | (simp only; omega)) ?_
    rintro m ⟨tm, H1, bm, df⟩ hinv
    rw [hJ] at hinv
    obtain ⟨j, hj, hdf, hn, lW, ⟨L1, fa, oz⟩, e0, e4, e5, bx, bu⟩ := hinv
    simp only at hdf hn lW oz e0 e4 e5 bx bu
    subst hdf
    cases m with
    | zero =>
      have yR : decide ((j : Int) < (lim : Int)) = false := by simp; omega
      simp only [vz, tyf, @bA, @b9, @b8, @bg, seval, ua, bx, bu, yR]
      refine bS (x := .lit (.bool true)) (by simp [Tryz.results138, resV, resL, resV1, upd]) ⟨true, rfl, by omega, lW, ?_⟩
      simp only [List.range'_zero, goL, Option.some.injEq] at fa
      subst fa
      exact hst _ _ _ _ _ _ _ oz (fun _ _ _ => rfl) (by omega) (fun γ h => .inl h)
    | succ m =>
      have yR : decide ((j : Int) < (lim : Int)) = true := by simp; omega
      simp only [vz, tyf, @bA, @b9, @b8, @bg, seval, ua, bx, bu, yR, e0, e4, e5]
      refine uj (fun tm => tm 0 = vx eI p ∧ tm 4 = .tp [.fn (.func mf) [] mc] ∧ tm 5 = .ptr e 0 ∧ tm 8 = .lit (.int .i64 j) ∧ tm 16 = .lit (.int .i64 lim) ∧ tm 17 = .lit (.int .i64 j)) (by refine ⟨?_, ?_, ?_, ?_, ?_, ?_⟩ <;> simp only [ua, seval, e0, e4, e5, bx, bu]) ?_
      clear e0 e4 e5 bx bu tm
      rintro tm ⟨e0, e4, e5, e8, bx, bu⟩
      refine yS mixed 11 rfl rfl rfl (by kernel_rfl) ?_
      rw [List.range'_succ] at fa
      unfold goL at fa
      rcases hmb : may p (j : Int) with _ | mb
      · rw [hmb] at fa; cases fa
      rw [hmb, Option.bind_some] at fa
      have hmay' : aj Tryz.prog G0 mf (vx eI p :: .lit (.int .i64 j) :: mc) (.tree (.lit (.bool mb))) := aj.weaken (by
        rintro c W vs ⟨u, us, rfl, h1, h2⟩
        exact ⟨u, us, rfl, yT h1, h2⟩) (hm p j mb hmb)
      simp only [vz, tyf, @bA, @b9, @b8, @bg, seval, ua, e0, e4, e5, e8, bx, bu, rg]
      refine .inl ⟨by simp only [yU, yV eI_ok, yW, htm, Bool.and_self], .tree _, hmay', ?_⟩
      have hw : i64.wrap ((j : Int) + 1) = ((j + 1 : Nat) : Int) := by rw [IntWalk.i64_in _ (by omega)]; simp
      have hZ : H1 e = _ := (lW e hFe).trans he
      have uk : H1 y = _ := (lW y hFy).trans hy
      have hen : e < bm := Nat.lt_of_lt_of_le (hF e hFe) hn
      have hyn : y < bm := Nat.lt_of_lt_of_le (hF y hFy) hn
      cases mb with
      | false =>
        rw [cond_false] at fa
        simp only [vz, tyf, @bA, @b9, @b8, @bg, seval, ua, e0, e4, e5, e8, bx, bu, rg, hw]
        rw [hJ]
        exact ⟨m, Nat.lt_succ_self _, j + 1, by omega, rfl, (by show nx ≤ bm + 19; omega), lW, ⟨L1, fa, hst _ _ _ _ _ _ _ oz (fun _ _ _ => rfl) (by show bm ≤ bm + 19; omega) (fun γ h => .inl h)⟩, by simp only [ua, seval, e0], by simp only [ua, seval, e4], by simp only [ua, seval, e5], by simp only [ua, seval, bx], by simp only [ua, seval]⟩
      | true =>
        rw [cond_true] at fa
        rcases hLa : listsO may lim d (p ++ [(j : Int)]) with _ | La
        · rw [hLa] at fa; cases fa
        rw [hLa, Option.bind_some] at fa
        rcases hLr : goL (listsO may lim d) may p (List.range' (j + 1) m) with _ | Lr
        · rw [hLr] at fa; cases fa
        rw [hLr, Option.bind_some, Option.some.injEq] at fa
        subst fa
        rw [List.map_append, List.append_assoc] at oz
        have hv : vx eI (p ++ [(j : Int)]) = .sl (ae eI (p ++ [(j : Int)])) (p ++ [(j : Int)]).length false := lX (by simp)
        have hroom : roomOk 8 (p ++ [(j : Int)]).length = true := by
          unfold roomOk
          simp only [List.length_append, List.length_cons, List.length_nil, decide_eq_true_eq]
          omega
        simp only [vz, tyf, @bA, @b9, @b8, @bg, seval, ua, e0, e4, e5, e8, bx, bu, rg, hZ]
        rcases hpc : p with _ | ⟨p0, pt⟩
        · subst hpc
          refine .inl ⟨rfl, .tree _, yP, ?_⟩
          simp only [vz, tyf, @bA, @b9, @b8, @bg, seval, ua, e0, e4, e5, e8, bx, bu, rg, hZ]
          have hroom1 : roomOk 8 ([] ++ [(j : Int)]).length = true := rfl
          refine lY (w := 1) (enc := eI) (ys := [(j : Int)]) (ky := some 3) (fun _ => rfl) fZ fY Tryz.underlying22 (by simp only [ua, nm, seval]; rfl) (Nat.zero_lt_succ _) hroom1 ?_
          simp only [vz, tyf, @bA, @b9, @b8, @bg, seval, ua, nm, e0, e4, e5, e8, bx, bu, rg, hZ]
          refine ia ⟨?_, ?_⟩
          · simp only [ib, ic, dD, ig, and_true, true_and]
            repeat' (first | exact trivial | refine And.intro ?_ ?_ | rw [dD] | rw [ij] | exact Or.inl (by decide +kernel) | exact Or.inl (by dsimp only; decide +kernel) | (refine Or.inr ⟨?_, ?_⟩ <;> simp; done) | (refine Or.inr ⟨?_, ?_⟩ <;> simp <;> omega) | (refine Or.inr ⟨?_, ?_⟩ <;> simp [VEff.wr] <;> omega))
          simp only [vz, tyf, @bA, @b9, @b8, @bg, seval, ua, e0, e4, e5, e8, bx, bu, rg, hZ]
          refine kopen ?_
          rw [ja]
          have hcell : (updH (updH H1 (bm + 12) (VObj.cells (some 3) [VV.lit (Value.int IntKind.i64 ↑j)])) (bm + 13) (VObj.cells (some 3) (ae eI ([] ++ [(j : Int)])))) (bm + 13) = some (.cells (some 3) (ae eI ([] ++ [(j : Int)]))) := by simp only [ua, seval]
          have hbig : ∀ γ, γ < bm → without (updH (updH H1 (bm + 12) (VObj.cells (some 3) [VV.lit (Value.int IntKind.i64 ↑j)])) (bm + 13) (VObj.cells (some 3) (ae eI ([] ++ [(j : Int)])))) (bm + 13) γ = H1 γ := by
            intro γ h
            simp only [updH, without]
            repeat rw [if_neg (by omega)]
          refine aq.mono (aq.freeze1 (γ := bm + 13) hcell (args' := [vx eI ([] ++ [(j : Int)]), .tp [.lit (.int .i64 ln)], .ptr y 0, .tp [.lit (.int .i64 lim)], .tp [.fn (.func mf) [] mc], .ptr e 0]) ⟨by rw [hv]; exact Frozen.own hcell (eI_ok.treeL _) (by rw [dI (w := 1) (fun _ => rfl)]), FrozenL.same⟩ (ih ([] ++ [(j : Int)]) _ La Fr _ _ (by simp at hd ⊢; omega) hLa (fun γ h => by have := hF γ h; omega) hFy hFe ((hbig y hyn).trans uk) ((hbig e hen).trans hZ) (hst _ _ _ _ _ _ _ oz (fun γ h _ => hbig γ h) (by omega) (fun γ h => .inl h)))) ?_ (fun _ _ _ h => h.elim)
          rintro v H2 dV ⟨b, rfl, h1, h2, h3⟩
          have qP : ∀ γ, Fr γ → H2 γ = H γ := fun γ h => by rw [h2 γ h, hbig γ (Nat.lt_of_lt_of_le (hF γ h) hn), lW γ h]
          simp only [vz, tyf, @bA, @b9, @b8, @bg, seval, ua, e0, e4, e5, e8, bx, bu, rg, hZ]
          cases b with
          | false =>
            simp only [vz, tyf, @bA, @b9, @b8, @bg, seval, ua, Bool.not_false]
            refine bS (x := .lit (.bool false)) (by simp [Tryz.results138, resV, resL, resV1, upd]) ⟨false, rfl, by omega, qP, ?_⟩
            exact hst _ _ _ _ _ _ _ h3 (fun _ _ _ => rfl) (by omega) (fun γ h => .inl h)
          | true =>
            simp only [vz, tyf, @bA, @b9, @b8, @bg, seval, ua, Bool.not_true, hw]
            simp only [if_true] at h3
            rw [hJ]
            exact ⟨m, Nat.lt_succ_self _, j + 1, by omega, rfl, (by show nx ≤ dV + 2; omega), qP, ⟨Lr, hLr, hst _ _ _ _ _ _ _ h3 (fun _ _ _ => rfl) (by show dV ≤ dV + 2; omega) (fun γ h => .inl h)⟩, by simp only [ua, seval, e0], by simp only [ua, seval, e4], by simp only [ua, seval, e5], by simp only [ua, seval, bx], by simp only [ua, seval]⟩
        rw [← hpc]
        have hne : p ≠ [] := by rw [hpc]; simp
        have hvp : vx eI p = .sl (ae eI p) p.length false := lX hne
        rw [hvp]
        have hcl : iZ p = some p := by
          unfold iZ
          have h1 : neB p = true := by rw [hpc]; rfl
          have h2 : roomOk 8 p.length = true := by
            unfold roomOk at hroom ⊢
            simp only [List.length_append, List.length_cons, List.length_nil, decide_eq_true_eq] at hroom ⊢
            omega
          rw [h1, h2]; rfl
        refine dkown (args0 := [.sl (ae eI p) p.length false]) (by first | (simp only [nrm, aI]; done) | (simp only [nrm, aI]; rfl) | rfl) (by simp only [tre, tytre, Bool.and_self]) (Ie _ _ hcl) ?_
        simp only [vz, tyf, @bA, @b9, @b8, @bg, seval, ua, e0, e4, e5, e8, bx, bu, rg, hZ]
        refine k_app (w := 1) (enc := eI) (xs := p) (ys := [(j : Int)]) (el := none) (ky := some 3) (fun _ => rfl) fZ fY Tryz.underlying22 (by simp only [ua, nm, seval]) (by simp only [ua, nm, seval]; rfl) (Nat.zero_lt_succ _) hroom ?_
        simp only [vz, tyf, @bA, @b9, @b8, @bg, seval, ua, nm, e0, e4, e5, e8, bx, bu, rg, hZ]
        refine ia ⟨?_, ?_⟩
        · simp only [ib, ic, dD, ig, and_true, true_and]
          repeat' (first | exact trivial | refine And.intro ?_ ?_ | rw [dD] | rw [ij] | exact Or.inl (by decide +kernel) | exact Or.inl (by dsimp only; decide +kernel) | (refine Or.inr ⟨?_, ?_⟩ <;> simp; done) | (refine Or.inr ⟨?_, ?_⟩ <;> simp <;> omega) | (refine Or.inr ⟨?_, ?_⟩ <;> simp [VEff.wr] <;> omega))
        simp only [vz, tyf, @bA, @b9, @b8, @bg, seval, ua, e0, e4, e5, e8, bx, bu, rg, hZ]
        refine kopen ?_
        rw [ja]
        have hcell : (updH (without (updH (updH H1 (bm + 10) (VObj.cells none (ae eI p))) (bm + 12) (VObj.cells (some 3) [VV.lit (Value.int IntKind.i64 ↑j)])) (bm + 10)) (bm + 13) (VObj.cells (sameEl none 3) (ae eI (p ++ [(j : Int)])))) (bm + 13) = some (.cells (sameEl none 3) (ae eI (p ++ [(j : Int)]))) := by simp only [ua, seval]
        have hbig : ∀ γ, γ < bm → without (updH (without (updH (updH H1 (bm + 10) (VObj.cells none (ae eI p))) (bm + 12) (VObj.cells (some 3) [VV.lit (Value.int IntKind.i64 ↑j)])) (bm + 10)) (bm + 13) (VObj.cells (sameEl none 3) (ae eI (p ++ [(j : Int)])))) (bm + 13) γ = H1 γ := by
          intro γ h
          simp only [updH, without]
          repeat rw [if_neg (by omega)]
        refine aq.mono (aq.freeze1 (γ := bm + 13) hcell (args' := [vx eI (p ++ [(j : Int)]), .tp [.lit (.int .i64 ln)], .ptr y 0, .tp [.lit (.int .i64 lim)], .tp [.fn (.func mf) [] mc], .ptr e 0]) ⟨by rw [hv]; exact Frozen.own hcell (eI_ok.treeL _) (by rw [dI (w := 1) (fun _ => rfl)]), FrozenL.same⟩ (ih (p ++ [(j : Int)]) _ La Fr _ _ (by simp; omega) hLa (fun γ h => by have := hF γ h; omega) hFy hFe ((hbig y hyn).trans uk) ((hbig e hen).trans hZ) (hst _ _ _ _ _ _ _ oz (fun γ h _ => hbig γ h) (by omega) (fun γ h => .inl h)))) ?_ (fun _ _ _ h => h.elim)
        rintro v H2 dV ⟨b, rfl, h1, h2, h3⟩
        have qP : ∀ γ, Fr γ → H2 γ = H γ := fun γ h => by rw [h2 γ h, hbig γ (Nat.lt_of_lt_of_le (hF γ h) hn), lW γ h]
        simp only [vz, tyf, @bA, @b9, @b8, @bg, seval, ua, e0, e4, e5, e8, bx, bu, rg, hZ]
        cases b with
        | false =>
          simp only [vz, tyf, @bA, @b9, @b8, @bg, seval, ua, Bool.not_false]
          refine bS (x := .lit (.bool false)) (by simp [Tryz.results138, resV, resL, resV1, upd]) ⟨false, rfl, by omega, qP, ?_⟩
          exact hst _ _ _ _ _ _ _ h3 (fun _ _ _ => rfl) (by omega) (fun γ h => .inl h)
        | true =>
          simp only [vz, tyf, @bA, @b9, @b8, @bg, seval, ua, Bool.not_true, hw]
          simp only [if_true] at h3
          rw [hJ]
          exact ⟨m, Nat.lt_succ_self _, j + 1, by omega, rfl, (by show nx ≤ dV + 2; omega), qP, ⟨Lr, hLr, hst _ _ _ _ _ _ _ h3 (fun _ _ _ => rfl) (by show dV ≤ dV + 2; omega) (fun γ h => .inl h)⟩, by simp only [ua, seval, e0], by simp only [ua, seval, e4], by simp only [ua, seval, e5], by simp only [ua, seval, bx], by simp only [ua, seval]⟩
theorem yX {mc : List VV} {mf ln lim : Nat} {may : List Int → Int → Option Bool} {L : List (List Int)} (htm : treeL mc = true) (qO : 0 < ln) (hln : ln < 1000) (hlim : lim < 1000000)
    (hL : listsO may lim ln [] = some L) (hm : ∀ (p : List Int) (j : Int) (b : Bool), may p j = some b → aj Tryz.prog G0 mf (.sl (ae eI p) p.length false :: .lit (.int .i64 j) :: mc) (.tree (.lit (.bool b)))) :
    Iter Tryz.prog G0 (.fn (.func 137) [] [.tp [.lit (.int .i64 ln)], .tp [.lit (.int .i64 lim)], .tp [.fn (.func mf) [] mc]]) (L.map sI) := by
  rw [← yY (fun q hq hn => by have := yZ _ _ _ hL q hq; rw [hn] at this; simp at this; omega)]
  refine ⟨137, [], _, rfl, fun β I hst hr H nx hβ hI => ?_⟩
  refine aq.run mixed Tryz.call137 Tryz.func137 rfl (by simp [Tryz.ntmps137]; kernel_rfl) ?_
  simp only [List.nil_append, List.cons_append, argsTm4, vz, tyf, @bA, @b9, @b8, @bg, seval, ua, rg]
  refine kopen ?_
  rw [ja]
  refine aq.mono (yQ hst hr htm qO hln hlim hm ln [] [] L (fun γ => γ = nx + 0 ∨ γ = nx + 1) _ _ (by simp) hL (by rintro γ (rfl | rfl) <;> omega) (.inl rfl) (.inr rfl) (by simp [updH]) (by simp [updH]) ?_) ?_ (fun _ _ _ h => h.elim)
  · rw [List.append_nil]
    refine hst _ _ _ _ _ _ _ hI ?_ (by omega) (by rintro γ (rfl | rfl) <;> right <;> omega)
    intro γ h _
    simp only [updH]
    repeat rw [if_neg (by omega)]
  rintro v H2 dV ⟨b, rfl, h1, h2, h3⟩
  simp only [vz, tyf, @bA, @b9, @b8, @bg, seval, ua]
  refine za (x := .tup []) (by simp [Tryz.results137, resV, resL]) ?_
  replace h3 := hst _ _ noFr _ _ _ _ h3 (fun _ _ _ => rfl) (Nat.le_refl _) (fun γ h => h.elim)
  cases b with
  | true => exact .inl h3
  | false => exact .inr h3
end Go.V
end
