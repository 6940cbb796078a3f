/- Part of a proof. -/
import Derived.Test.YtmhlghgbfmcdaaaGreatDoorN1bh
import Derived.Test.YtmhlghgbfmcdaaaGreatDoorN1az
import Derived.Test.YtmhlghgbfmcdaaaGreatDoorProg
set_option linter.all false
set_option maxRecDepth 4000
set_option maxHeartbeats 40000000
section
namespace Go.V
open Go Go.Proofs IntKind
theorem mixed : Tryz.prog.follows .mixedOrders = true := by kernel_rfl
structure GSpan where
 Low : Int
 High : Int
 deriving Inhabited, DecidableEq
def cGSpan (x : GSpan) : List VV := [.lit (.int .i64 x.Low), .lit (.int .i64 x.High)]
theorem ml {x : GSpan} : cGSpan x = [.lit (.int .i64 x.Low), .lit (.int .i64 x.High)] := rfl
theorem cN : EncOk cGSpan := EncOk.of (fun x => by simp only [ml, tre, Bool.and_self]) (fun x => by simp only [ml, nrm]) (fun x H d => by simp only [ml, nrm, List.map_cons, List.map_nil])
structure GBs where
 Board : Int
 Round : Bool
 Hours : GSpan
 Needs : List Int
 deriving Inhabited, DecidableEq
def cGBs (x : GBs) : List VV := [.lit (.int .i64 x.Board), .lit (.bool x.Round), .lit (.int .i64 x.Hours.Low), .lit (.int .i64 x.Hours.High), .sl (aa eI x.Needs) (List.length x.Needs) false]
theorem oB {x : GBs} : cGBs x = [.lit (.int .i64 x.Board), .lit (.bool x.Round), .lit (.int .i64 x.Hours.Low), .lit (.int .i64 x.Hours.High), .sl (aa eI x.Needs) (List.length x.Needs) false] := rfl
theorem d6 : EncOk cGBs := EncOk.of (fun x => by simp only [oB, tre, cN.tree, cN.treeL, Bool.and_self]) (fun x => by simp only [oB, nrm, cN.norm, cN.normL, cN.shown, cN.showL]) (fun x H d => by simp only [oB, nrm, List.map_cons, List.map_nil])
structure GBk where
 Apprentices : Int
 Boards : List Int
 Strokes : List GBs
 deriving Inhabited, DecidableEq
def cGBk (x : GBk) : List VV := [.lit (.int .i64 x.Apprentices), .sl (aa eI x.Boards) (List.length x.Boards) false, .sl (aa cGBs x.Strokes) (List.length x.Strokes) false]
theorem hZ {x : GBk} : cGBk x = [.lit (.int .i64 x.Apprentices), .sl (aa eI x.Boards) (List.length x.Boards) false, .sl (aa cGBs x.Strokes) (List.length x.Strokes) false] := rfl
theorem fN : EncOk cGBk := EncOk.of (fun x => by simp only [hZ, tre, cN.tree, cN.treeL, d6.tree, d6.treeL, Bool.and_self]) (fun x => by simp only [hZ, nrm, cN.norm, cN.normL, cN.shown, cN.showL, d6.norm, d6.normL, d6.shown, d6.showL]) (fun x H d => by simp only [hZ, nrm, List.map_cons, List.map_nil])
structure GBe where
 stroke : Int
 hours : Int
 deriving Inhabited, DecidableEq
def cGBe (x : GBe) : List VV := [.lit (.int .i64 x.stroke), .lit (.int .i64 x.hours)]
theorem rC {x : GBe} : cGBe x = [.lit (.int .i64 x.stroke), .lit (.int .i64 x.hours)] := rfl
theorem mm : EncOk cGBe := EncOk.of (fun x => by simp only [rC, tre, cN.tree, cN.treeL, d6.tree, d6.treeL, fN.tree, fN.treeL, Bool.and_self]) (fun x => by simp only [rC, nrm, cN.norm, cN.normL, cN.shown, cN.showL, d6.norm, d6.normL, d6.shown, d6.showL, fN.norm, fN.normL, fN.shown, fN.showL]) (fun x H d => by simp only [rC, nrm, List.map_cons, List.map_nil])
theorem JJ {c : VV} {cs : List VV} : aG Tryz.prog 2 (c :: cs) = some c := by
 have h1 : aggT Tryz.prog 2 = some false := by kernel_rfl
 simp [aG, vpart, h1]
theorem JK : szT Tryz.prog 2 = some 1 := by kernel_rfl
theorem wy : vzl Tryz.prog 2 = some [.lit (.int .i64 0)] := by kernel_rfl
theorem JL {c : VV} {cs : List VV} : aG Tryz.prog 3 (c :: cs) = some c := by
 have h1 : aggT Tryz.prog 3 = some false := by kernel_rfl
 simp [aG, vpart, h1]
theorem JM : szT Tryz.prog 3 = some 1 := by kernel_rfl
theorem wz : vzl Tryz.prog 3 = some [.lit (.int .i64 0)] := by kernel_rfl
theorem JN {c : VV} {cs : List VV} : aG Tryz.prog 4 (c :: cs) = some c := by
 have h1 : aggT Tryz.prog 4 = some false := by kernel_rfl
 simp [aG, vpart, h1]
theorem JO : szT Tryz.prog 4 = some 1 := by kernel_rfl
theorem w5 : vzl Tryz.prog 4 = some [.lit (.bool false)] := by kernel_rfl
theorem JP {c : VV} {cs : List VV} : aG Tryz.prog 9 (c :: cs) = some c := by
 have h1 : aggT Tryz.prog 9 = some false := by kernel_rfl
 simp [aG, vpart, h1]
theorem JQ : szT Tryz.prog 9 = some 1 := by kernel_rfl
theorem w6 : vzl Tryz.prog 9 = some [.lit (.string ⟨#[]⟩)] := by kernel_rfl
theorem w7 {c : VV} {cs : List VV} : aG Tryz.prog 22 (c :: cs) = some c := by
 have h1 : aggT Tryz.prog 22 = some false := by kernel_rfl
 simp [aG, vpart, h1]
theorem w8 : szT Tryz.prog 22 = some 1 := by kernel_rfl
theorem oC : vzl Tryz.prog 22 = some [.lit (.slice none 0 0)] := by kernel_rfl
theorem oD {H : Nat → Option VObj} {cs : List VV} {n : Nat} {f : Bool} : vlen Tryz.prog H 22 (.sl cs n f) = some (.lit (.int .i64 n)) := by simp [vlen, Tryz.underlying22, sls]
theorem lenN22 {H : Nat → Option VObj} : vlen Tryz.prog H 22 (.lit (.slice none 0 0)) = some (.lit (.int .i64 0)) := by simp [vlen, Tryz.underlying22, sls]
theorem lenR22 {H : Nat → Option VObj} {β off n w c : Nat} : vlen Tryz.prog H 22 (.ref β off n w c) = (match H β with | some (.cells _ cs) => if off ≤ cs.length then some (.lit (.int .i64 n)) else none | _ => none) := lenR Tryz.underlying22
theorem gC : elemT Tryz.prog 22 = some 3 := by simp [elemT, Tryz.underlying22]
theorem gD : appOk Tryz.prog 22 = some (3, 1, 8) := by kernel_rfl
theorem wB {xs : List Int} : (aa eI xs).take (xs.length * 1) = aa eI xs := rB (fun _ => rfl)
theorem gE : ∀ x : Int, leafL (eI x) = true := fun x => by simp only [eI_eq, oE, eB_eq, eS_eq, oF, eN, eO, EN, EO, EP, ES, oG, Bool.and_self]
theorem wC {a0 : VV} (h : leafL [a0] = true) : ar Tryz.prog 22 1 [(0, a0)] = some ([a0], 1) := by
 have h2 : szT Tryz.prog 3 = some 1 := by kernel_rfl
 have h3 : vzero Tryz.prog 3 = some #[.int .i64 0] := by kernel_rfl
 simp only [eO, eN, Bool.and_true, Bool.and_eq_true] at h
 simp [ar, Tryz.underlying22, h2, h3, vfill, vcells1, h, overwrite, vzeros, List.range_succ]
theorem wD {a0 a1 : VV} (h : leafL [a0, a1] = true) : ar Tryz.prog 22 2 [(0, a0), (1, a1)] = some ([a0, a1], 1) := by
 have h2 : szT Tryz.prog 3 = some 1 := by kernel_rfl
 have h3 : vzero Tryz.prog 3 = some #[.int .i64 0] := by kernel_rfl
 simp only [eO, eN, Bool.and_true, Bool.and_eq_true] at h
 simp [ar, Tryz.underlying22, h2, h3, vfill, vcells1, h, overwrite, vzeros, List.range_succ]
theorem wE {a0 a1 a2 : VV} (h : leafL [a0, a1, a2] = true) : ar Tryz.prog 22 3 [(0, a0), (1, a1), (2, a2)] = some ([a0, a1, a2], 1) := by
 have h2 : szT Tryz.prog 3 = some 1 := by kernel_rfl
 have h3 : vzero Tryz.prog 3 = some #[.int .i64 0] := by kernel_rfl
 simp only [eO, eN, Bool.and_true, Bool.and_eq_true] at h
 simp [ar, Tryz.underlying22, h2, h3, vfill, vcells1, h, overwrite, vzeros, List.range_succ]
theorem aT {H : Nat → Option VObj} {xs : List Int} {x : Int} {f : Bool} {k : IntKind} {i : Int} (h : getI xs i = some x) : aA Tryz.prog H 22 (.sl (aa eI xs) xs.length f) (.lit (.int k i)) = some (.tp (eI x ++ aa eI (xs.drop (i.toNat + 1)))) :=
 ixG Tryz.underlying22 (by kernel_rfl : szT Tryz.prog 3 = some 1) (by decide) (fun _ => rfl) h
theorem wF {c : VV} {cs : List VV} : aG Tryz.prog 23 (c :: cs) = some c := by
 have h1 : aggT Tryz.prog 23 = some false := by kernel_rfl
 simp [aG, vpart, h1]
theorem wG : szT Tryz.prog 23 = some 1 := by kernel_rfl
theorem oH : vzl Tryz.prog 23 = some [.lit (.slice none 0 0)] := by kernel_rfl
theorem oI {H : Nat → Option VObj} {cs : List VV} {n : Nat} {f : Bool} : vlen Tryz.prog H 23 (.sl cs n f) = some (.lit (.int .i64 n)) := by simp [vlen, Tryz.underlying23, sls]
theorem lenN23 {H : Nat → Option VObj} : vlen Tryz.prog H 23 (.lit (.slice none 0 0)) = some (.lit (.int .i64 0)) := by simp [vlen, Tryz.underlying23, sls]
theorem lenR23 {H : Nat → Option VObj} {β off n w c : Nat} : vlen Tryz.prog H 23 (.ref β off n w c) = (match H β with | some (.cells _ cs) => if off ≤ cs.length then some (.lit (.int .i64 n)) else none | _ => none) := lenR Tryz.underlying23
theorem wH : elemT Tryz.prog 23 = some 49 := by simp [elemT, Tryz.underlying23]
theorem wI {xs : List GBs} : (aa cGBs xs).take (xs.length * 5) = aa cGBs xs := rB (fun _ => rfl)
theorem wJ {c0 c1 c2 c3 c4 : VV} (h : leafL [c0, c1, c2, c3, c4] = true) : ar Tryz.prog 23 1 [(0, .agg [c0, c1, c2, c3, c4])] = some ([c0, c1, c2, c3, c4], 5) := by
 have h2 : szT Tryz.prog 49 = some 5 := by kernel_rfl
 have h3 : vzero Tryz.prog 49 = some #[.int .i64 0, .bool false, .int .i64 0, .int .i64 0, .slice none 0 0] := by kernel_rfl
 simp only [eO, eN, Bool.and_true, Bool.and_eq_true] at h
 simp [ar, Tryz.underlying23, h2, h3, vfill, aJ, h, overwrite, vzeros]
theorem aQ {H : Nat → Option VObj} {xs : List GBs} {x : GBs} {f : Bool} {k : IntKind} {i : Int} (h : getI xs i = some x) : aA Tryz.prog H 23 (.sl (aa cGBs xs) xs.length f) (.lit (.int k i)) = some (.tp (cGBs x ++ aa cGBs (xs.drop (i.toNat + 1)))) :=
 ixG Tryz.underlying23 (by kernel_rfl : szT Tryz.prog 49 = some 5) (by decide) (fun _ => rfl) h
theorem wK {c0 c1 c2 : VV} {cs : List VV} : aG Tryz.prog 25 (c0 :: c1 :: c2 :: cs) = some (.agg [c0, c1, c2]) := by
 have h1 : aggT Tryz.prog 25 = some true := by kernel_rfl
 have h2 : szT Tryz.prog 25 = some 3 := by kernel_rfl
 simp [aG, vpart, h1, h2]
theorem wL : szT Tryz.prog 25 = some 3 := by kernel_rfl
theorem oJ : vzl Tryz.prog 25 = some [.lit (.int .i64 0), .lit (.slice none 0 0), .lit (.slice none 0 0)] := by kernel_rfl
theorem wM {H : Nat → Option VObj} {cs : List VV} : ae Tryz.prog H 25 (.tp cs) 0 = some (.tp (cs.drop 0)) := by
 have h2 : szT Tryz.prog 3 = some 1 := by kernel_rfl
 simp [ae, Tryz.underlying25, h2]
theorem wN {H : Nat → Option VObj} {β o : Nat} : ae Tryz.prog H 25 (.ptr β o) 0 = if (H β).isSome = true then some (.ptr β (o + 0)) else none := by
 have h2 : szT Tryz.prog 3 = some 1 := by kernel_rfl
 simp [ae, Tryz.underlying25, h2]
theorem wO {c0 c1 c2 : VV} : vfield Tryz.prog 25 (.agg [c0, c1, c2]) 0 = some (c0) := by
 have h1 : aggT Tryz.prog 3 = some false := by kernel_rfl
 have h2 : szT Tryz.prog 3 = some 1 := by kernel_rfl
 simp [vfield, Tryz.underlying25, vpart, h1, h2]
theorem wP {H : Nat → Option VObj} {cs : List VV} : ae Tryz.prog H 25 (.tp cs) 1 = some (.tp (cs.drop 1)) := by
 have h2 : szT Tryz.prog 22 = some 1 := by kernel_rfl
 simp [ae, Tryz.underlying25, h2]
theorem wQ {H : Nat → Option VObj} {β o : Nat} : ae Tryz.prog H 25 (.ptr β o) 1 = if (H β).isSome = true then some (.ptr β (o + 1)) else none := by
 have h2 : szT Tryz.prog 22 = some 1 := by kernel_rfl
 simp [ae, Tryz.underlying25, h2]
theorem wR {c0 c1 c2 : VV} : vfield Tryz.prog 25 (.agg [c0, c1, c2]) 1 = some (c1) := by
 have h1 : aggT Tryz.prog 22 = some false := by kernel_rfl
 have h2 : szT Tryz.prog 22 = some 1 := by kernel_rfl
 simp [vfield, Tryz.underlying25, vpart, h1, h2]
theorem wS {H : Nat → Option VObj} {cs : List VV} : ae Tryz.prog H 25 (.tp cs) 2 = some (.tp (cs.drop 2)) := by
 have h2 : szT Tryz.prog 23 = some 1 := by kernel_rfl
 simp [ae, Tryz.underlying25, h2]
theorem wT {H : Nat → Option VObj} {β o : Nat} : ae Tryz.prog H 25 (.ptr β o) 2 = if (H β).isSome = true then some (.ptr β (o + 2)) else none := by
 have h2 : szT Tryz.prog 23 = some 1 := by kernel_rfl
 simp [ae, Tryz.underlying25, h2]
theorem wU {c0 c1 c2 : VV} : vfield Tryz.prog 25 (.agg [c0, c1, c2]) 2 = some (c2) := by
 have h1 : aggT Tryz.prog 23 = some false := by kernel_rfl
 have h2 : szT Tryz.prog 23 = some 1 := by kernel_rfl
 simp [vfield, Tryz.underlying25, vpart, h1, h2]
theorem wV {c : VV} {cs : List VV} : aG Tryz.prog 29 (c :: cs) = some c := by
 have h1 : aggT Tryz.prog 29 = some false := by kernel_rfl
 simp [aG, vpart, h1]
theorem wW : szT Tryz.prog 29 = some 1 := by kernel_rfl
theorem oL : vzl Tryz.prog 29 = some [.lit (.int .i64 0)] := by kernel_rfl
theorem wX {c : VV} {cs : List VV} : aG Tryz.prog 31 (c :: cs) = some c := by
 have h1 : aggT Tryz.prog 31 = some false := by kernel_rfl
 simp [aG, vpart, h1]
theorem wY : szT Tryz.prog 31 = some 1 := by kernel_rfl
theorem oM : vzl Tryz.prog 31 = some [.lit (.slice none 0 0)] := by kernel_rfl
theorem oN {H : Nat → Option VObj} {cs : List VV} {n : Nat} {f : Bool} : vlen Tryz.prog H 31 (.sl cs n f) = some (.lit (.int .i64 n)) := by simp [vlen, Tryz.underlying31, sls]
theorem lenN31 {H : Nat → Option VObj} : vlen Tryz.prog H 31 (.lit (.slice none 0 0)) = some (.lit (.int .i64 0)) := by simp [vlen, Tryz.underlying31, sls]
theorem lenR31 {H : Nat → Option VObj} {β off n w c : Nat} : vlen Tryz.prog H 31 (.ref β off n w c) = (match H β with | some (.cells _ cs) => if off ≤ cs.length then some (.lit (.int .i64 n)) else none | _ => none) := lenR Tryz.underlying31
theorem wZ : elemT Tryz.prog 31 = some 35 := by simp [elemT, Tryz.underlying31]
theorem xa {xs : List GSpan} : (aa cGSpan xs).take (xs.length * 2) = aa cGSpan xs := rB (fun _ => rfl)
theorem xc {c0 c1 : VV} (h : leafL [c0, c1] = true) : ar Tryz.prog 31 1 [(0, .agg [c0, c1])] = some ([c0, c1], 2) := by
 have h2 : szT Tryz.prog 35 = some 2 := by kernel_rfl
 have h3 : vzero Tryz.prog 35 = some #[.int .i64 0, .int .i64 0] := by kernel_rfl
 simp only [eO, eN, Bool.and_true, Bool.and_eq_true] at h
 simp [ar, Tryz.underlying31, h2, h3, vfill, aJ, h, overwrite, vzeros]
theorem xd {c0 c1 : VV} {cs : List VV} : aG Tryz.prog 35 (c0 :: c1 :: cs) = some (.agg [c0, c1]) := by
 have h1 : aggT Tryz.prog 35 = some true := by kernel_rfl
 have h2 : szT Tryz.prog 35 = some 2 := by kernel_rfl
 simp [aG, vpart, h1, h2]
theorem xe : szT Tryz.prog 35 = some 2 := by kernel_rfl
theorem gF : vzl Tryz.prog 35 = some [.lit (.int .i64 0), .lit (.int .i64 0)] := by kernel_rfl
theorem xf {H : Nat → Option VObj} {cs : List VV} : ae Tryz.prog H 35 (.tp cs) 0 = some (.tp (cs.drop 0)) := by
 have h2 : szT Tryz.prog 3 = some 1 := by kernel_rfl
 simp [ae, Tryz.underlying35, h2]
theorem xg {H : Nat → Option VObj} {β o : Nat} : ae Tryz.prog H 35 (.ptr β o) 0 = if (H β).isSome = true then some (.ptr β (o + 0)) else none := by
 have h2 : szT Tryz.prog 3 = some 1 := by kernel_rfl
 simp [ae, Tryz.underlying35, h2]
theorem xi {c0 c1 : VV} : vfield Tryz.prog 35 (.agg [c0, c1]) 0 = some (c0) := by
 have h1 : aggT Tryz.prog 3 = some false := by kernel_rfl
 have h2 : szT Tryz.prog 3 = some 1 := by kernel_rfl
 simp [vfield, Tryz.underlying35, vpart, h1, h2]
theorem xj {H : Nat → Option VObj} {cs : List VV} : ae Tryz.prog H 35 (.tp cs) 1 = some (.tp (cs.drop 1)) := by
 have h2 : szT Tryz.prog 3 = some 1 := by kernel_rfl
 simp [ae, Tryz.underlying35, h2]
theorem xk {H : Nat → Option VObj} {β o : Nat} : ae Tryz.prog H 35 (.ptr β o) 1 = if (H β).isSome = true then some (.ptr β (o + 1)) else none := by
 have h2 : szT Tryz.prog 3 = some 1 := by kernel_rfl
 simp [ae, Tryz.underlying35, h2]
theorem xl {c0 c1 : VV} : vfield Tryz.prog 35 (.agg [c0, c1]) 1 = some (c1) := by
 have h1 : aggT Tryz.prog 3 = some false := by kernel_rfl
 have h2 : szT Tryz.prog 3 = some 1 := by kernel_rfl
 simp [vfield, Tryz.underlying35, vpart, h1, h2]
theorem xm {c0 c1 c2 c3 c4 : VV} {cs : List VV} : aG Tryz.prog 49 (c0 :: c1 :: c2 :: c3 :: c4 :: cs) = some (.agg [c0, c1, c2, c3, c4]) := by
 have h1 : aggT Tryz.prog 49 = some true := by kernel_rfl
 have h2 : szT Tryz.prog 49 = some 5 := by kernel_rfl
 simp [aG, vpart, h1, h2]
theorem xn : szT Tryz.prog 49 = some 5 := by kernel_rfl
theorem oO : vzl Tryz.prog 49 = some [.lit (.int .i64 0), .lit (.bool false), .lit (.int .i64 0), .lit (.int .i64 0), .lit (.slice none 0 0)] := by kernel_rfl
theorem xo {H : Nat → Option VObj} {cs : List VV} : ae Tryz.prog H 49 (.tp cs) 0 = some (.tp (cs.drop 0)) := by
 have h2 : szT Tryz.prog 3 = some 1 := by kernel_rfl
 simp [ae, Tryz.underlying49, h2]
theorem xq {H : Nat → Option VObj} {β o : Nat} : ae Tryz.prog H 49 (.ptr β o) 0 = if (H β).isSome = true then some (.ptr β (o + 0)) else none := by
 have h2 : szT Tryz.prog 3 = some 1 := by kernel_rfl
 simp [ae, Tryz.underlying49, h2]
theorem xr {c0 c1 c2 c3 c4 : VV} : vfield Tryz.prog 49 (.agg [c0, c1, c2, c3, c4]) 0 = some (c0) := by
 have h1 : aggT Tryz.prog 3 = some false := by kernel_rfl
 have h2 : szT Tryz.prog 3 = some 1 := by kernel_rfl
 simp [vfield, Tryz.underlying49, vpart, h1, h2]
theorem xt {H : Nat → Option VObj} {cs : List VV} : ae Tryz.prog H 49 (.tp cs) 1 = some (.tp (cs.drop 1)) := by
 have h2 : szT Tryz.prog 4 = some 1 := by kernel_rfl
 simp [ae, Tryz.underlying49, h2]
theorem xu {H : Nat → Option VObj} {β o : Nat} : ae Tryz.prog H 49 (.ptr β o) 1 = if (H β).isSome = true then some (.ptr β (o + 1)) else none := by
 have h2 : szT Tryz.prog 4 = some 1 := by kernel_rfl
 simp [ae, Tryz.underlying49, h2]
theorem xv {c0 c1 c2 c3 c4 : VV} : vfield Tryz.prog 49 (.agg [c0, c1, c2, c3, c4]) 1 = some (c1) := by
 have h1 : aggT Tryz.prog 4 = some false := by kernel_rfl
 have h2 : szT Tryz.prog 4 = some 1 := by kernel_rfl
 simp [vfield, Tryz.underlying49, vpart, h1, h2]
theorem xw {H : Nat → Option VObj} {cs : List VV} : ae Tryz.prog H 49 (.tp cs) 2 = some (.tp (cs.drop 2)) := by
 have h2 : szT Tryz.prog 35 = some 2 := by kernel_rfl
 simp [ae, Tryz.underlying49, h2]
theorem xx {H : Nat → Option VObj} {β o : Nat} : ae Tryz.prog H 49 (.ptr β o) 2 = if (H β).isSome = true then some (.ptr β (o + 2)) else none := by
 have h2 : szT Tryz.prog 35 = some 2 := by kernel_rfl
 simp [ae, Tryz.underlying49, h2]
theorem xy {c0 c1 c2 c3 c4 : VV} : vfield Tryz.prog 49 (.agg [c0, c1, c2, c3, c4]) 2 = some (.agg [c2, c3]) := by
 have h1 : aggT Tryz.prog 35 = some true := by kernel_rfl
 have h2 : szT Tryz.prog 35 = some 2 := by kernel_rfl
 simp [vfield, Tryz.underlying49, vpart, h1, h2]
theorem xz {H : Nat → Option VObj} {cs : List VV} : ae Tryz.prog H 49 (.tp cs) 3 = some (.tp (cs.drop 4)) := by
 have h2 : szT Tryz.prog 22 = some 1 := by kernel_rfl
 simp [ae, Tryz.underlying49, h2]
theorem x4 {H : Nat → Option VObj} {β o : Nat} : ae Tryz.prog H 49 (.ptr β o) 3 = if (H β).isSome = true then some (.ptr β (o + 4)) else none := by
 have h2 : szT Tryz.prog 22 = some 1 := by kernel_rfl
 simp [ae, Tryz.underlying49, h2]
theorem x5 {c0 c1 c2 c3 c4 : VV} : vfield Tryz.prog 49 (.agg [c0, c1, c2, c3, c4]) 3 = some (c4) := by
 have h1 : aggT Tryz.prog 22 = some false := by kernel_rfl
 have h2 : szT Tryz.prog 22 = some 1 := by kernel_rfl
 simp [vfield, Tryz.underlying49, vpart, h1, h2]
theorem x7 {c : VV} {cs : List VV} : aG Tryz.prog 51 (c :: cs) = some c := by
 have h1 : aggT Tryz.prog 51 = some false := by kernel_rfl
 simp [aG, vpart, h1]
theorem x8 : szT Tryz.prog 51 = some 1 := by kernel_rfl
theorem oP : vzl Tryz.prog 51 = some [.lit (.slice none 0 0)] := by kernel_rfl
theorem oQ {H : Nat → Option VObj} {cs : List VV} {n : Nat} {f : Bool} : vlen Tryz.prog H 51 (.sl cs n f) = some (.lit (.int .i64 n)) := by simp [vlen, Tryz.underlying51, sls]
theorem lenN51 {H : Nat → Option VObj} : vlen Tryz.prog H 51 (.lit (.slice none 0 0)) = some (.lit (.int .i64 0)) := by simp [vlen, Tryz.underlying51, sls]
theorem lenR51 {H : Nat → Option VObj} {β off n w c : Nat} : vlen Tryz.prog H 51 (.ref β off n w c) = (match H β with | some (.cells _ cs) => if off ≤ cs.length then some (.lit (.int .i64 n)) else none | _ => none) := lenR Tryz.underlying51
theorem xA : elemT Tryz.prog 51 = some 60 := by simp [elemT, Tryz.underlying51]
theorem xB {xs : List Int} : (aa eI xs).take (xs.length * 1) = aa eI xs := rB (fun _ => rfl)
theorem xC {a0 : VV} (h : leafL [a0] = true) : ar Tryz.prog 51 1 [(0, a0)] = some ([a0], 1) := by
 have h2 : szT Tryz.prog 60 = some 1 := by kernel_rfl
 have h3 : vzero Tryz.prog 60 = some #[.int .i64 0] := by kernel_rfl
 simp only [eO, eN, Bool.and_true, Bool.and_eq_true] at h
 simp [ar, Tryz.underlying51, h2, h3, vfill, vcells1, h, overwrite, vzeros, List.range_succ]
theorem xD {a0 a1 : VV} (h : leafL [a0, a1] = true) : ar Tryz.prog 51 2 [(0, a0), (1, a1)] = some ([a0, a1], 1) := by
 have h2 : szT Tryz.prog 60 = some 1 := by kernel_rfl
 have h3 : vzero Tryz.prog 60 = some #[.int .i64 0] := by kernel_rfl
 simp only [eO, eN, Bool.and_true, Bool.and_eq_true] at h
 simp [ar, Tryz.underlying51, h2, h3, vfill, vcells1, h, overwrite, vzeros, List.range_succ]
theorem xE {a0 a1 a2 : VV} (h : leafL [a0, a1, a2] = true) : ar Tryz.prog 51 3 [(0, a0), (1, a1), (2, a2)] = some ([a0, a1, a2], 1) := by
 have h2 : szT Tryz.prog 60 = some 1 := by kernel_rfl
 have h3 : vzero Tryz.prog 60 = some #[.int .i64 0] := by kernel_rfl
 simp only [eO, eN, Bool.and_true, Bool.and_eq_true] at h
 simp [ar, Tryz.underlying51, h2, h3, vfill, vcells1, h, overwrite, vzeros, List.range_succ]
theorem xF {c : VV} {cs : List VV} : aG Tryz.prog 60 (c :: cs) = some c := by
 have h1 : aggT Tryz.prog 60 = some false := by kernel_rfl
 simp [aG, vpart, h1]
theorem xG : szT Tryz.prog 60 = some 1 := by kernel_rfl
theorem oR : vzl Tryz.prog 60 = some [.lit (.int .i64 0)] := by kernel_rfl
theorem xH {c0 c1 c2 c3 c4 : VV} {cs : List VV} : aG Tryz.prog 92 (c0 :: c1 :: c2 :: c3 :: c4 :: cs) = some (.agg [c0, c1, c2, c3, c4]) := by
 have h1 : aggT Tryz.prog 92 = some true := by kernel_rfl
 have h2 : szT Tryz.prog 92 = some 5 := by kernel_rfl
 simp [aG, vpart, h1, h2]
theorem xI : szT Tryz.prog 92 = some 5 := by kernel_rfl
theorem jo : vzl Tryz.prog 92 = some [.lit (.int .i64 0), .lit (.slice none 0 0), .lit (.slice none 0 0), .lit (.slice none 0 0), .lit (.map none)] := by kernel_rfl
theorem xJ {H : Nat → Option VObj} {cs : List VV} : ae Tryz.prog H 92 (.tp cs) 0 = some (.tp (cs.drop 0)) := by
 have h2 : szT Tryz.prog 25 = some 3 := by kernel_rfl
 simp [ae, Tryz.underlying92, h2]
theorem xK {H : Nat → Option VObj} {β o : Nat} : ae Tryz.prog H 92 (.ptr β o) 0 = if (H β).isSome = true then some (.ptr β (o + 0)) else none := by
 have h2 : szT Tryz.prog 25 = some 3 := by kernel_rfl
 simp [ae, Tryz.underlying92, h2]
theorem xL {c0 c1 c2 c3 c4 : VV} : vfield Tryz.prog 92 (.agg [c0, c1, c2, c3, c4]) 0 = some (.agg [c0, c1, c2]) := by
 have h1 : aggT Tryz.prog 25 = some true := by kernel_rfl
 have h2 : szT Tryz.prog 25 = some 3 := by kernel_rfl
 simp [vfield, Tryz.underlying92, vpart, h1, h2]
theorem xM {H : Nat → Option VObj} {cs : List VV} : ae Tryz.prog H 92 (.tp cs) 1 = some (.tp (cs.drop 3)) := by
 have h2 : szT Tryz.prog 22 = some 1 := by kernel_rfl
 simp [ae, Tryz.underlying92, h2]
theorem xN {H : Nat → Option VObj} {β o : Nat} : ae Tryz.prog H 92 (.ptr β o) 1 = if (H β).isSome = true then some (.ptr β (o + 3)) else none := by
 have h2 : szT Tryz.prog 22 = some 1 := by kernel_rfl
 simp [ae, Tryz.underlying92, h2]
theorem xO {c0 c1 c2 c3 c4 : VV} : vfield Tryz.prog 92 (.agg [c0, c1, c2, c3, c4]) 1 = some (c3) := by
 have h1 : aggT Tryz.prog 22 = some false := by kernel_rfl
 have h2 : szT Tryz.prog 22 = some 1 := by kernel_rfl
 simp [vfield, Tryz.underlying92, vpart, h1, h2]
theorem xP {H : Nat → Option VObj} {cs : List VV} : ae Tryz.prog H 92 (.tp cs) 2 = some (.tp (cs.drop 4)) := by
 have h2 : szT Tryz.prog 90 = some 1 := by kernel_rfl
 simp [ae, Tryz.underlying92, h2]
theorem xQ {H : Nat → Option VObj} {β o : Nat} : ae Tryz.prog H 92 (.ptr β o) 2 = if (H β).isSome = true then some (.ptr β (o + 4)) else none := by
 have h2 : szT Tryz.prog 90 = some 1 := by kernel_rfl
 simp [ae, Tryz.underlying92, h2]
theorem xR {c0 c1 c2 c3 c4 : VV} : vfield Tryz.prog 92 (.agg [c0, c1, c2, c3, c4]) 2 = some (c4) := by
 have h1 : aggT Tryz.prog 90 = some false := by kernel_rfl
 have h2 : szT Tryz.prog 90 = some 1 := by kernel_rfl
 simp [vfield, Tryz.underlying92, vpart, h1, h2]
theorem oS {c0 c1 : VV} {cs : List VV} : aG Tryz.prog 152 (c0 :: c1 :: cs) = some (.agg [c0, c1]) := by
 have h1 : aggT Tryz.prog 152 = some true := by kernel_rfl
 have h2 : szT Tryz.prog 152 = some 2 := by kernel_rfl
 simp [aG, vpart, h1, h2]
theorem oT : szT Tryz.prog 152 = some 2 := by kernel_rfl
theorem gG : vzl Tryz.prog 152 = some [.lit (.int .i64 0), .lit (.int .i64 0)] := by kernel_rfl
theorem xS {H : Nat → Option VObj} {cs : List VV} : ae Tryz.prog H 152 (.tp cs) 0 = some (.tp (cs.drop 0)) := by
 have h2 : szT Tryz.prog 3 = some 1 := by kernel_rfl
 simp [ae, Tryz.underlying152, h2]
theorem xT {H : Nat → Option VObj} {β o : Nat} : ae Tryz.prog H 152 (.ptr β o) 0 = if (H β).isSome = true then some (.ptr β (o + 0)) else none := by
 have h2 : szT Tryz.prog 3 = some 1 := by kernel_rfl
 simp [ae, Tryz.underlying152, h2]
theorem xU {c0 c1 : VV} : vfield Tryz.prog 152 (.agg [c0, c1]) 0 = some (c0) := by
 have h1 : aggT Tryz.prog 3 = some false := by kernel_rfl
 have h2 : szT Tryz.prog 3 = some 1 := by kernel_rfl
 simp [vfield, Tryz.underlying152, vpart, h1, h2]
theorem xV {H : Nat → Option VObj} {cs : List VV} : ae Tryz.prog H 152 (.tp cs) 1 = some (.tp (cs.drop 1)) := by
 have h2 : szT Tryz.prog 3 = some 1 := by kernel_rfl
 simp [ae, Tryz.underlying152, h2]
theorem xW {H : Nat → Option VObj} {β o : Nat} : ae Tryz.prog H 152 (.ptr β o) 1 = if (H β).isSome = true then some (.ptr β (o + 1)) else none := by
 have h2 : szT Tryz.prog 3 = some 1 := by kernel_rfl
 simp [ae, Tryz.underlying152, h2]
theorem xX {c0 c1 : VV} : vfield Tryz.prog 152 (.agg [c0, c1]) 1 = some (c1) := by
 have h1 : aggT Tryz.prog 3 = some false := by kernel_rfl
 have h2 : szT Tryz.prog 3 = some 1 := by kernel_rfl
 simp [vfield, Tryz.underlying152, vpart, h1, h2]
theorem oU {c : VV} {cs : List VV} : aG Tryz.prog 156 (c :: cs) = some c := by
 have h1 : aggT Tryz.prog 156 = some false := by kernel_rfl
 simp [aG, vpart, h1]
theorem oV : szT Tryz.prog 156 = some 1 := by kernel_rfl
theorem kO : vzl Tryz.prog 156 = some [.lit (.int .i64 0)] := by kernel_rfl
theorem oW : szT Tryz.prog 153 = some 1 := by kernel_rfl
theorem oX {c : VV} {cs : List VV} : aG Tryz.prog 153 (c :: cs) = some c := by
 have h1 : aggT Tryz.prog 153 = some false := by kernel_rfl
 simp [aG, vpart, h1]
theorem kP : vzl Tryz.prog 153 = some [.lit .nilFunc] := by kernel_rfl
theorem oY : szT Tryz.prog 154 = some 2 := by kernel_rfl
theorem gH : vzl Tryz.prog 154 = some [.lit .nilFunc, .lit .nilFunc] := by kernel_rfl
theorem oZ {c0 c1 : VV} {cs : List VV} : aG Tryz.prog 154 (c0 :: c1 :: cs) = some (.agg [c0, c1]) := by
 have h1 : aggT Tryz.prog 154 = some true := by kernel_rfl
 have h2 : szT Tryz.prog 154 = some 2 := by kernel_rfl
 simp [aG, vpart, h1, h2]
theorem xY {c0 c1 : VV} {k : IntKind} : vindex Tryz.prog 154 (.agg [c0, c1]) (.lit (.int k 0)) = some c0 := by
 have h1 : aggT Tryz.prog 153 = some false := by kernel_rfl
 have h2 : szT Tryz.prog 153 = some 1 := by kernel_rfl
 simp [vindex, Tryz.underlying154, vpart, h1, h2]
theorem xZ {H : Nat → Option VObj} {β o : Nat} {k : IntKind} : aA Tryz.prog H 154 (.ptr β o) (.lit (.int k 0)) = if (H β).isSome = true then some (.ptr β (o + 0)) else none := by
 have h2 : szT Tryz.prog 153 = some 1 := by kernel_rfl
 simp [aA, Tryz.underlying154, h2]
theorem ya {c0 c1 : VV} {k : IntKind} : vindex Tryz.prog 154 (.agg [c0, c1]) (.lit (.int k 1)) = some c1 := by
 have h1 : aggT Tryz.prog 153 = some false := by kernel_rfl
 have h2 : szT Tryz.prog 153 = some 1 := by kernel_rfl
 simp [vindex, Tryz.underlying154, vpart, h1, h2]
theorem yb {H : Nat → Option VObj} {β o : Nat} {k : IntKind} : aA Tryz.prog H 154 (.ptr β o) (.lit (.int k 1)) = if (H β).isSome = true then some (.ptr β (o + 1)) else none := by
 have h2 : szT Tryz.prog 153 = some 1 := by kernel_rfl
 simp [aA, Tryz.underlying154, h2]
theorem yc : vbuild Tryz.prog 35 [] = some (.agg [.lit (.int .i64 0), .lit (.int .i64 0)]) := by
 rw [pa gF (by kernel_rfl)]
 rfl
theorem yd {bJ bT : VV} (h : leafL [bJ, bT] = true) : vbuild Tryz.prog 35 [(0, bJ), (1, bT)] = some (.agg [bJ, bT]) := by
 have p0 : placeT Tryz.prog 35 0 = some (0, 1) := by kernel_rfl
 have p1 : placeT Tryz.prog 35 1 = some (1, 1) := by kernel_rfl
 simp only [eO, eN, Bool.and_true, Bool.and_eq_true] at h
 rw [pa gF (by kernel_rfl)]
 simp [vfill, p0, p1, vcells1, h, overwrite]
theorem ye {bJ gI gJ bT kQ : VV} (h : leafL [bJ, gI, gJ, bT, kQ] = true) : vbuild Tryz.prog 92 [(0, .agg [bJ, gI, gJ]), (1, bT), (2, kQ)] = some (.agg [bJ, gI, gJ, bT, kQ]) := by
 have p0 : placeT Tryz.prog 92 0 = some (0, 3) := by kernel_rfl
 have p1 : placeT Tryz.prog 92 1 = some (3, 1) := by kernel_rfl
 have p2 : placeT Tryz.prog 92 2 = some (4, 1) := by kernel_rfl
 simp only [eO, eN, Bool.and_true, Bool.and_eq_true] at h
 have q0 : aJ (.agg [bJ, gI, gJ]) = some [bJ, gI, gJ] := by rw [ET]; simp [eO, eN, h]
 rw [pa jo (by kernel_rfl)]
 simp [vfill, p0, p1, p2, vcells1, h, overwrite, q0]
theorem yf {bJ bT : VV} (h : leafL [bJ, bT] = true) : vbuild Tryz.prog 152 [(0, bJ), (1, bT)] = some (.agg [bJ, bT]) := by
 have p0 : placeT Tryz.prog 152 0 = some (0, 1) := by kernel_rfl
 have p1 : placeT Tryz.prog 152 1 = some (1, 1) := by kernel_rfl
 simp only [eO, eN, Bool.and_true, Bool.and_eq_true] at h
 rw [pa gG (by kernel_rfl)]
 simp [vfill, p0, p1, vcells1, h, overwrite]
theorem yg {bJ bT : VV} (h : leafL [bJ, bT] = true) : vbuild Tryz.prog 154 [(0, bJ), (1, bT)] = some (.agg [bJ, bT]) := by
 have p0 : placeT Tryz.prog 154 0 = some (0, 1) := by kernel_rfl
 have p1 : placeT Tryz.prog 154 1 = some (1, 1) := by kernel_rfl
 simp only [eO, eN, Bool.and_true, Bool.and_eq_true] at h
 rw [pa gH (by kernel_rfl)]
 simp [vfill, p0, p1, vcells1, h, overwrite]
theorem JR {H : Nat → Option VObj} {x y : Operand} {a b : Bool} : binV Tryz.prog H .eql 4 x y (.lit (.bool a)) (.lit (.bool b)) = some (.lit (.bool (a == b))) := yh Tryz.underlying4
theorem JS {H : Nat → Option VObj} {x y : Operand} {a b : Bool} : binV Tryz.prog H .neq 4 x y (.lit (.bool a)) (.lit (.bool b)) = some (.lit (.bool (a != b))) := yi Tryz.underlying4
theorem pb {H : Nat → Option VObj} {x y : Operand} {a0 b0 : Int} {a1 b1 : Int} : binV Tryz.prog H .eql 35 x y (.agg [.lit (.int .i64 a0), .lit (.int .i64 a1)]) (.agg [.lit (.int .i64 b0), .lit (.int .i64 b1)]) = some (.lit (.bool (a0 == b0 && (a1 == b1)))) ∧ binV Tryz.prog H .neq 35 x y (.agg [.lit (.int .i64 a0), .lit (.int .i64 a1)]) (.agg [.lit (.int .i64 b0), .lit (.int .i64 b1)]) = some (.lit (.bool (!(a0 == b0 && (a1 == b1))))) := by
 refine binS (xs := [.int .i64 a0, .int .i64 a1]) (ys := [.int .i64 b0, .int .i64 b1]) (by simp [VV.val?, valL?]) (by simp [VV.val?, valL?]) Tryz.underlying35 (by kernel_rfl) (by kernel_rfl) ?_
 simp [eqF, gL, eq1, Tryz.underlying3]
theorem yj {H : Nat → Option VObj} {x y : Operand} {a0 b0 : Int} {a1 b1 : Int} : binV Tryz.prog H .eql 35 x y (.agg [.lit (.int .i64 a0), .lit (.int .i64 a1)]) (.agg [.lit (.int .i64 b0), .lit (.int .i64 b1)]) = some (.lit (.bool (a0 == b0 && (a1 == b1)))) := pb.1
theorem yk {H : Nat → Option VObj} {x y : Operand} {a0 b0 : Int} {a1 b1 : Int} : binV Tryz.prog H .neq 35 x y (.agg [.lit (.int .i64 a0), .lit (.int .i64 a1)]) (.agg [.lit (.int .i64 b0), .lit (.int .i64 b1)]) = some (.lit (.bool (!(a0 == b0 && (a1 == b1))))) := pb.2
theorem ym : (VV.lit Value.nilFunc).leaf = true := rfl
theorem yn : (VV.lit Value.nilIface).leaf = true := rfl
def tyf := (And.intro (And.intro (And.intro (And.intro (And.intro (And.intro (And.intro @ml @oB) (And.intro @hZ @rC)) (And.intro (And.intro @JJ @JK) (And.intro @wy (And.intro @JL @JM)))) (And.intro (And.intro (And.intro @wz @JN) (And.intro @JO @w5)) (And.intro (And.intro @JP @JQ) (And.intro @w6 (And.intro @w7 @w8))))) (And.intro (And.intro (And.intro (And.intro @oC @oD) (And.intro @lenN22 @lenR22)) (And.intro (And.intro @gC @wB) (And.intro @wC (And.intro @wD @wE)))) (And.intro (And.intro (And.intro @wF @wG) (And.intro @oH (And.intro @oI @lenN23))) (And.intro (And.intro @lenR23 @wH) (And.intro @wI (And.intro @wJ @wK)))))) (And.intro (And.intro (And.intro (And.intro (And.intro @wL @oJ) (And.intro @wM @wN)) (And.intro (And.intro @wO @wP) (And.intro @wQ (And.intro @wR @wS)))) (And.intro (And.intro (And.intro @wT @wU) (And.intro @wV @wW)) (And.intro (And.intro @oL @wX) (And.intro @wY (And.intro @oM @oN))))) (And.intro (And.intro (And.intro (And.intro @lenN31 @lenR31) (And.intro @wZ @xa)) (And.intro (And.intro @xc @xd) (And.intro @xe (And.intro @gF @xf)))) (And.intro (And.intro (And.intro @xg @xi) (And.intro @xj (And.intro @xk @xl))) (And.intro (And.intro @xm @xn) (And.intro @oO (And.intro @xo @xq))))))) (And.intro (And.intro (And.intro (And.intro (And.intro (And.intro @xr @xt) (And.intro @xu @xv)) (And.intro (And.intro @xw @xx) (And.intro @xy (And.intro @xz @x4)))) (And.intro (And.intro (And.intro @x5 @x7) (And.intro @x8 @oP)) (And.intro (And.intro @oQ @lenN51) (And.intro @lenR51 (And.intro @xA @xB))))) (And.intro (And.intro (And.intro (And.intro @xC @xD) (And.intro @xE @xF)) (And.intro (And.intro @xG @oR) (And.intro @xH (And.intro @xI @jo)))) (And.intro (And.intro (And.intro @xJ @xK) (And.intro @xL (And.intro @xM @xN))) (And.intro (And.intro @xO @xP) (And.intro @xQ (And.intro @xR @oS)))))) (And.intro (And.intro (And.intro (And.intro (And.intro @oT @gG) (And.intro @xS @xT)) (And.intro (And.intro @xU @xV) (And.intro @xW (And.intro @xX @oU)))) (And.intro (And.intro (And.intro @oV @kO) (And.intro @oW (And.intro @oX @kP))) (And.intro (And.intro @oY @gH) (And.intro @oZ (And.intro @xY @xZ))))) (And.intro (And.intro (And.intro (And.intro @ya @yb) (And.intro @yc @yd)) (And.intro (And.intro @ye @yf) (And.intro @yg (And.intro @JR @JS)))) (And.intro (And.intro (And.intro @yj @yk) (And.intro @ym (And.intro @yn @EU))) (And.intro (And.intro @eI_eq @oE) (And.intro @eB_eq (And.intro @eS_eq @oF))))))))
def tynrm := (And.intro (And.intro (And.intro (And.intro @cN.norm @cN.normL) (And.intro @cN.shown @cN.showL)) (And.intro (And.intro @d6.norm @d6.normL) (And.intro @d6.shown @d6.showL))) (And.intro (And.intro (And.intro @fN.norm @fN.normL) (And.intro @fN.shown @fN.showL)) (And.intro (And.intro @mm.norm @mm.normL) (And.intro @mm.shown @mm.showL))))
def tytre := (And.intro (And.intro (And.intro @cN.tree @cN.treeL) (And.intro @d6.tree @d6.treeL)) (And.intro (And.intro @fN.tree @fN.treeL) (And.intro @mm.tree @mm.treeL)))
end Go.V
namespace Go.V
open Go Go.Proofs IntKind
theorem ktA {P : Program} {G : Glob} {d : Option Tmp} {γ : Nat} {tm : Nat → VV} {H : Nat → Option VObj} {nx : Nat} {df : List VDef} {K : St → Prop} {Qp : VV → St → Prop} {f : FuncId} {args args0 : List VV} {x : VV} (hp : ag P G f args0 (.tree x)) (h : fin d γ tm H nx df K x .none) (hn : normL args = args0 := by first | (simp only [nrm, tynrm] <;> rfl) | rfl) (ht : treeL args = true := by simp only [tre, tytre, Bool.and_self]) : callK P G f args ⟨tm, H, nx, df⟩ d γ K Qp := ktree hn ht hp h
theorem dktA {P : Program} {G : Glob} {d : Option Tmp} {γ : Nat} {tm : Nat → VV} {H : Nat → Option VObj} {nx : Nat} {df : List VDef} {K : List Nat → List Nat → St → Prop} {f : FuncId} {args args0 : List VV} {x : VV} (hp : ag P G f args0 (.tree x)) (h : fin d γ tm H nx df (K [] []) x .none) (hn : normL args = args0 := by first | (simp only [nrm, tynrm] <;> rfl) | rfl) (ht : treeL args = true := by simp only [tre, tytre, Bool.and_self]) : dcallK P G f args tm H nx df d γ K := dktree hn ht hp h
theorem optI {α β : Type} {K : Option β → Prop} {X : Option α} {F : α → Option β} (h : K (Option.bind X F)) (kN : ¬ K none) : ∃ r, X = some r ∧ K (F r) := by
  cases X with
  | none => exact absurd h kN
  | some r => exact ⟨r, rfl, h⟩
end Go.V
end
section
namespace Go.V
open Go Go.Proofs IntKind
def Dec (P : Program) (n : Nat) (t : TypeId) {α : Type} (enc : α → List VV) (R : α → Prop) : Prop := ∀ xs, ShapeT P n t xs → ∃ x : α, R x ∧ normL xs = enc x
theorem yo {P : Program} {n : Nat} {t : TypeId} (hu : P.underlying t = some (.int .i64)) : Dec P (n + 1) t eI (fun _ => True) := by
 intro xs h
 simp only [ShapeT, hu] at h
 obtain ⟨i, _, rfl⟩ := h
 exact ⟨i, trivial, by simp only [jQ, jR, EV, eI]⟩
theorem yp {P : Program} {n : Nat} {t : TypeId} (hu : P.underlying t = some .bool) : Dec P (n + 1) t eB (fun _ => True) := by
 intro xs h
 simp only [ShapeT, hu] at h
 obtain ⟨b, rfl⟩ := h
 exact ⟨b, trivial, by simp only [jQ, jR, yq, eB]⟩
theorem EW {P : Program} {n : Nat} {t : TypeId} {α : Type} {enc : α → List VV} {R : α → Prop} (h : Dec P n t enc R) : ∀ yss : List (List VV), (∀ ys ∈ yss, ShapeT P n t ys) → ∃ l : List α, l.length = yss.length ∧ (∀ x ∈ l, R x) ∧ normL yss.flatten = aa enc l
 | [], _ => ⟨[], rfl, fun _ hx => (by cases hx), rfl⟩
 | ys :: yss, hs => by
  obtain ⟨x, hx, e⟩ := h ys (hs ys (List.mem_cons_self ..))
  obtain ⟨l, h1, h2, h3⟩ := EW h yss (fun y hy => hs y (List.mem_cons_of_mem _ hy))
  refine ⟨x :: l, by simp [h1], fun y hy => ?_, by rw [List.flatten_cons, mn, e, h3, rD]⟩
  rcases List.mem_cons.1 hy with rfl | hy
  ·exact hx
  ·exact h2 y hy
theorem EX {P : Program} {n : Nat} {t e : TypeId} {α : Type} {enc : α → List VV} {R : α → Prop} (hu : P.underlying t = some (.slice e)) (h : Dec P n e enc R) : Dec P (n + 1) t (fun l : List α => [.sl (aa enc l) l.length false]) (fun l => lenOk l = true ∧ ∀ x ∈ l, R x) := by
 intro xs hs
 simp only [ShapeT, hu] at hs
 rcases hs with rfl | ⟨yss, hl, hall, rfl⟩
 ·exact ⟨[], ⟨rfl, fun _ hx => (by cases hx)⟩, by simp only [jQ, jR, EY]; rfl⟩
 ·obtain ⟨l, h1, h2, h3⟩ := EW h yss hall
  refine ⟨l, ⟨?_, h2⟩, by simp only [jQ, jR, EZ, h3, h1]⟩
  have : maxLen = 9223372036854775807 := by decide
  unfold lenOk
  exact decide_eq_true (by omega)
theorem JT {P : Program} {n : Nat} {t : TypeId} {fs : Array Field} {xs : List VV} (hu : P.underlying t = some (.struct fs)) (h : ShapeT P (n + 1) t xs) : ∃ yss, FieldsS (ShapeT P n) fs.toList yss ∧ xs = yss.flatten := by
 simp only [ShapeT, hu] at h
 exact h
def TypesS (S : TypeId → List VV → Prop) : List TypeId → List (List VV) → Prop
 | [], [] => True
 | t :: ts, ys :: yss => S t ys ∧ TypesS S ts yss
 | _, _ => False
theorem pc {S : TypeId → List VV → Prop} : ∀ (fs : List Field) (yss : List (List VV)), FieldsS S fs yss → TypesS S (fs.map Field.type) yss
 | [], [], _ => trivial
 | f :: fs, ys :: yss, ⟨h1, h2⟩ => ⟨h1, pc fs yss h2⟩
 | [], _ :: _, h => h
 | _ :: _, [], h => h
theorem yr {P : Program} {n : Nat} {t : TypeId} {fs : Array Field} {ts : List TypeId} {xs : List VV} (hu : P.underlying t = some (.struct fs)) (ht : fs.toList.map Field.type = ts) (h : ShapeT P (n + 1) t xs) : ∃ yss, TypesS (ShapeT P n) ts yss ∧ xs = yss.flatten := by
 obtain ⟨yss, h1, h2⟩ := JT hu h
 exact ⟨yss, ht ▸ pc _ _ h1, h2⟩
theorem vi {P : Program} {n : Nat} {t : TypeId} {ts : List TypeId} {xs : List VV} (h : ArgsS P n (t :: ts) xs) : ∃ x xs', xs = x :: xs' ∧ ArgS P n t x ∧ ArgsS P n ts xs' := by
 match xs, h with
 | x :: xs', h => exact ⟨x, xs', rfl, h.1, h.2⟩
theorem vl {P : Program} {n : Nat} {xs : List VV} (h : ArgsS P n [] xs) : xs = [] := by
 match xs, h with
 | [], _ => rfl
theorem vj {P : Program} {n : Nat} {t : TypeId} {fs : Array Field} {x : VV} {α : Type} {enc : α → List VV} {R : α → Prop} (hu : P.underlying t = some (.struct fs)) (hd : Dec P n t enc R) (h : ArgS P n t x) : ∃ s, R s ∧ normV x = .agg (enc s) := by
 obtain ⟨ys, h1, h2⟩ := h
 rw [hu] at h2
 obtain rfl : x = .agg ys := h2
 obtain ⟨s, hs, e⟩ := hd ys h1
 exact ⟨s, hs, by rw [Fa, e]⟩
theorem nA {P : Program} {n : Nat} {t : TypeId} {d : TypeDesc} {x : VV} {α : Type} {enc : α → List VV} {R : α → Prop} (hu : P.underlying t = some d) (hn : (∀ fs, d ≠ .struct fs) ∧ ∀ m e, d ≠ .array m e) (hd : Dec P n t enc R) (h : ArgS P n t x) : ∃ s, R s ∧ [normV x] = enc s := by
 obtain ⟨ys, h1, h2⟩ := h
 rw [hu] at h2
 have h3 : ys = [x] := by
  cases d <;> first | exact h2 | exact absurd rfl (hn.1 _) | exact absurd rfl (hn.2 _ _)
 subst h3
 obtain ⟨s, hs, e⟩ := hd _ h1
 exact ⟨s, hs, by rw [← e, jQ, jR]⟩
end Go.V
end
section
set_option maxRecDepth 100000
namespace Go.V
open Go Go.Proofs IntKind
def yu (x : GBs) : Prop := lenOk x.Needs = true
def Fb (x : GBk) : Prop := lenOk x.Boards = true ∧ lenOk x.Strokes = true ∧ ∀ y ∈ x.Strokes, yu y
section
variable {P : Program} (dL : P.underlying 3 = some (.int .i64)) (cz : P.underlying 22 = some (.slice 3)) (fO : P.underlying 4 = some (.bool)) {Fc : Array Field} (c8 : P.underlying 35 = some (.struct Fc)) (c9 : Fc.toList.map Field.type = [3, 3]) {Fe : Array Field} (cA : P.underlying 49 = some (.struct Fe)) (cB : Fe.toList.map Field.type = [3, 4, 35, 22]) (cC : P.underlying 23 = some (.slice 49)) {Ff : Array Field} (cD : P.underlying 25 = some (.struct Ff)) (cE : Ff.toList.map Field.type = [3, 22, 23])
include dL cz fO c8 c9 cA cB cC cD cE
theorem gd_3 {n : Nat} : Dec P (n + 1) 3 eI (fun _ => True) := yo dL
theorem gd_22 {n : Nat} : Dec P (n + 2) 22 (eSl eI) (fun l => lenOk l = true ∧ ∀ x ∈ l, True) := EX cz (gd_3 dL cz fO c8 c9 cA cB cC cD cE (n := n))
theorem gd_4 {n : Nat} : Dec P (n + 1) 4 eB (fun _ => True) := yp fO
theorem gd_35 {n : Nat} : Dec P (n + 2) 35 cGSpan (fun _ => True) := by
 intro xs h
 obtain ⟨yss, hf, rfl⟩ := yr (n := n + 1) (ts := [3, 3]) c8 c9 h
 match yss, hf with
 | [y0, y1], ⟨h0, h1, _⟩ =>
  obtain ⟨x0, r0, e0⟩ := gd_3 dL cz fO c8 c9 cA cB cC cD cE (n := n + 0) _ h0
  obtain ⟨x1, r1, e1⟩ := gd_3 dL cz fO c8 c9 cA cB cC cD cE (n := n + 0) _ h1
  exact ⟨⟨x0, x1⟩, trivial, by simp only [List.flatten_cons, List.flatten_nil, List.append_nil, mn, e0, e1, eI, jP, eB, eS, eSl, ml, List.cons_append, List.nil_append]⟩
theorem gd_49 {n : Nat} : Dec P (n + 3) 49 cGBs (yu) := by
 intro xs h
 obtain ⟨yss, hf, rfl⟩ := yr (n := n + 2) (ts := [3, 4, 35, 22]) cA cB h
 match yss, hf with
 | [y0, y1, y2, y3], ⟨h0, h1, h2, h3, _⟩ =>
  obtain ⟨x0, r0, e0⟩ := gd_3 dL cz fO c8 c9 cA cB cC cD cE (n := n + 1) _ h0
  obtain ⟨x1, r1, e1⟩ := gd_4 dL cz fO c8 c9 cA cB cC cD cE (n := n + 1) _ h1
  obtain ⟨x2, r2, e2⟩ := gd_35 dL cz fO c8 c9 cA cB cC cD cE (n := n + 0) _ h2
  obtain ⟨x3, r3, e3⟩ := gd_22 dL cz fO c8 c9 cA cB cC cD cE (n := n + 0) _ h3
  exact ⟨⟨x0, x1, x2, x3⟩, r3.1, by simp only [List.flatten_cons, List.flatten_nil, List.append_nil, mn, e0, e1, e2, e3, eI, jP, eB, eS, eSl, oB, ml, List.cons_append, List.nil_append]⟩
theorem gd_23 {n : Nat} : Dec P (n + 4) 23 (eSl cGBs) (fun l => lenOk l = true ∧ ∀ x ∈ l, yu x) := EX cC (gd_49 dL cz fO c8 c9 cA cB cC cD cE (n := n))
theorem gd_25 {n : Nat} : Dec P (n + 5) 25 cGBk (Fb) := by
 intro xs h
 obtain ⟨yss, hf, rfl⟩ := yr (n := n + 4) (ts := [3, 22, 23]) cD cE h
 match yss, hf with
 | [y0, y1, y2], ⟨h0, h1, h2, _⟩ =>
  obtain ⟨x0, r0, e0⟩ := gd_3 dL cz fO c8 c9 cA cB cC cD cE (n := n + 3) _ h0
  obtain ⟨x1, r1, e1⟩ := gd_22 dL cz fO c8 c9 cA cB cC cD cE (n := n + 2) _ h1
  obtain ⟨x2, r2, e2⟩ := gd_23 dL cz fO c8 c9 cA cB cC cD cE (n := n + 0) _ h2
  exact ⟨⟨x0, x1, x2⟩, ⟨r1.1, r2.1, r2.2⟩, by simp only [List.flatten_cons, List.flatten_nil, List.append_nil, mn, e0, e1, e2, eI, jP, eB, eS, eSl, hZ, List.cons_append, List.nil_append]⟩
end
theorem dec_3 {n : Nat} : Dec Tryz.prog (n + 1) 3 eI (fun _ => True) := gd_3 Tryz.underlying3 Tryz.underlying22 Tryz.underlying4 Tryz.underlying35 (by kernel_rfl) Tryz.underlying49 (by kernel_rfl) Tryz.underlying23 Tryz.underlying25 (by kernel_rfl)
theorem vk {n : Nat} : Dec Tryz.prog (n + 5) 25 cGBk (Fb) := gd_25 Tryz.underlying3 Tryz.underlying22 Tryz.underlying4 Tryz.underlying35 (by kernel_rfl) Tryz.underlying49 (by kernel_rfl) Tryz.underlying23 Tryz.underlying25 (by kernel_rfl)
end Go.V
end
section
namespace Go.V
open Go Go.Proofs IntKind
def rE (xs : List Int) : Option (List Int) := cond (neB xs) (cond (roomOk 8 xs.length) (some xs) none) none
theorem JU (xs R : List Int) (h : rE xs = some R) : ag Tryz.prog G0 124 [.sl (aa eI xs) xs.length false] (.own (aa eI R) R.length 1) := by
 unfold rE at h
 cases hn : neB xs with
 | false => rw [hn] at h; cases h
 | true =>
 cases hr : roomOk 8 xs.length with
 | false => rw [hn, hr] at h; cases h
 | true =>
 rw [hn, hr] at h
 simp only [cond_true, Option.some.injEq] at h
 subst h
 have hc : aa eI xs ≠ [] := by
  cases xs with
  | nil => cases hn
  | cons a l => intro hh; cases hh
 have hnil : ∀ (H : Nat → Option VObj) (x y : Operand), binV Tryz.prog H .eql 22 x y (.sl (aa eI xs) xs.length false) (.lit (.slice none 0 0)) = some (.lit (.bool false)) := fun H x y => sY Tryz.underlying22 hc
 have hb : ar Tryz.prog 22 0 [] = some ([], 1) := by kernel_rfl
 refine ag.run mixed Tryz.call124 Tryz.func124 rfl (by simp [Tryz.ntmps124]; kernel_rfl) ?_
 simp only [vz, tyf, hnil, hb, List.map_nil, seval]
 refine sW (w := 1) (enc := eI) (xs := ([] : List Int)) (ys := xs) (el := some 3) (fun _ => rfl) gE gD Tryz.underlying22 rfl hn (by rw [List.nil_append]; exact hr) ?_
 simp only [vz, tyf, List.nil_append, seval]
 refine ⟨rfl, .ref 5 0 xs.length 1 xs.length, by simp [Tryz.results124, resV, resL, resV1, upd], (aa eI xs).length + 1, 5, _, aa eI xs, ⟨_, rfl⟩, by simp only [aP, b9, seval] <;> rfl, np _ _ (eI_ok.treeL xs) (Nat.lt_succ_self _)⟩
theorem bh {c : VV} {cs : List VV} : aG Tryz.prog 47 (c :: cs) = some c := by
  have h1 : aggT Tryz.prog 47 = some false := by kernel_rfl
  simp [aG, vpart, h1]
theorem bj : szT Tryz.prog 27 = some 1 := by kernel_rfl
theorem aU : vzl Tryz.prog 27 = some [.lit Value.nilFunc] := by kernel_rfl
theorem bk {c : VV} {cs : List VV} : aG Tryz.prog 27 (c :: cs) = some c := by
  have h1 : aggT Tryz.prog 27 = some false := by kernel_rfl
  simp [aG, vpart, h1]
def ExtOk (β y e : Nat) (mc : List VV) (mf : Nat) (ln lim : Nat) (may : List Int → Int → Option Bool) (I : Inv) (d : Nat) : Prop :=
  ∀ (p : List Int) (rest : List VV) (L : List (List Int)) (Fr : Nat → Prop) (H : Nat → Option VObj) (nx : Nat), p.length + d = ln → listsO may lim d p = some L → (∀ γ, Fr γ → γ < nx) → Fr y → Fr e → H y = some (.cells (some 27) [.yl β]) →
    H e = some (.cells (some 27) [.fn (.func 138) [] [.tp [.lit (.int .i64 ln)], .ptr y 0, .tp [.lit (.int .i64 lim)], .tp [.fn (.func mf) [] mc], .ptr e 0]]) →
    I (some (L.map (vx eI) ++ rest)) Fr H nx →
    al Tryz.prog G0 138 [vx eI p, .tp [.lit (.int .i64 ln)], .ptr y 0, .tp [.lit (.int .i64 lim)], .tp [.fn (.func mf) [] mc], .ptr e 0] H nx
      (fun v H' nx' => ∃ b, v = .lit (.bool b) ∧ nx ≤ nx' ∧ (∀ γ, Fr γ → H' γ = H γ) ∧ I (if b then some rest else none) Fr H' nx') (fun _ _ _ => False)
theorem pd {P : Program} {t e : Nat} {H : Nat → Option VObj} (hu : P.underlying t = some (.slice e)) : ∀ {p : List Int}, vlen P H t (vx eI p) = some (.lit (.int .i64 p.length))
  | [] => by simp [vlen, vx, hu, sls]
  | _ :: _ => by simp [vlen, vx, hu, sls]
theorem yv : ag Tryz.prog G0 124 [.lit (.slice none 0 0)] (.tree (.lit (.slice none 0 0))) := by
  have hnil : ∀ (H : Nat → Option VObj) (x y : Operand), binV Tryz.prog H .eql 22 x y (.lit (.slice none 0 0)) (.lit (.slice none 0 0)) = some (.lit (.bool true)) := fun H x y => by kernel_rfl
  refine ag.run mixed Tryz.call124 Tryz.func124 rfl (by simp [Tryz.ntmps124]; kernel_rfl) ?_
  simp only [vz, tyf, @bh, @bk, @bj, @aU, hnil, seval, ua]
  exact ⟨rfl, .lit (.slice none 0 0), by simp [Tryz.results124, resV, resL, resV1, upd], 1, rfl⟩
theorem yw {β y e : Nat} {mc : List VV} {mf ln lim : Nat} {may : List Int → Int → Option Bool} {I : Inv} (hst : Stable I) (hr : Rounds Tryz.prog G0 β I) (htm : treeL mc = true) (pf : 0 < ln) (hln : ln < 1000) (hlim : lim < 1000000)
    (hm : ∀ (p : List Int) (j : Int) (b : Bool), may p j = some b → ag Tryz.prog G0 mf (.sl (aa eI p) p.length false :: .lit (.int .i64 j) :: mc) (.tree (.lit (.bool b)))) : ∀ d, ExtOk β y e mc mf ln lim may I d := by
  intro d
  induction d with
  | zero =>
    intro p rest L Fr H nx hd hL hF hFy hFe hy he hI
    simp only [listsO, Option.some.injEq] at hL
    subst hL
    refine al.run mixed Tryz.call138 Tryz.func138 rfl (by simp [Tryz.ntmps138]; kernel_rfl) ?_
    have hl := fun H => pd (P := Tryz.prog) (H := H) Tryz.underlying22 (p := p)
    have hq : ((p.length : Int) == (ln : Int)) = true := by rw [show p.length = ln from hd]; simp
    simp only [argsTm6, vz, tyf, @bh, @bk, @bj, @aU, seval, ua, hl, hq, hy, rg]
    have JV : I (some (vx eI p :: rest)) Fr H (nx + 9) := hst _ _ _ _ _ _ _ hI (fun _ _ _ => rfl) (by omega) (fun γ h => .inl h)
    refine (hr (vx eI p) rest Fr H (nx + 9) (fun γ h => by have := hF γ h; omega) JV) (some none) _ _ _ rfl rfl ?_
    rintro b H' nx' ⟨h1, h2, h3⟩
    simp only [vz, tyf, @bh, @bk, @bj, @aU, seval, ua]
    exact bG (x := .lit (.bool b)) (by simp [Tryz.results138, resV, resL, resV1, upd]) ⟨b, rfl, by omega, h2, h3⟩
  | succ d ih =>
    intro p rest L Fr H nx hd hL hF hFy hFe hy he hI
    rw [listsO] at hL
    refine al.run mixed Tryz.call138 Tryz.func138 rfl (by simp [Tryz.ntmps138]; kernel_rfl) ?_
    have hl := fun H => pd (P := Tryz.prog) (H := H) Tryz.underlying22 (p := p)
    have hq : ((p.length : Int) == (ln : Int)) = false := by rw [← hd]; simp; omega
    simp only [argsTm6, vz, tyf, @bh, @bk, @bj, @aU, seval, ua, hl, hq, hy, rg]
    obtain ⟨J, hJ⟩ : ∃ J : Nat → St → Prop, J = (fun m st => ∃ j : Nat, j + m = lim ∧ st.df = [] ∧ nx ≤ st.nx ∧ (∀ γ, Fr γ → st.H γ = H γ) ∧
      (∃ L, goL (listsO may lim d) may p (List.range' j m) = some L ∧ I (some (L.map (vx eI) ++ rest)) Fr st.H st.nx) ∧
      st.tm 0 = vx eI p ∧ st.tm 4 = .tp [.fn (.func mf) [] mc] ∧ st.tm 5 = .ptr e 0 ∧ st.tm 16 = .lit (.int .i64 lim) ∧ st.tm 17 = .lit (.int .i64 j)) := ⟨_, rfl⟩
    refine loopK mixed (by kernel_rfl) J lim (by rw [hJ]; refine ⟨0, by omega, rfl, ?_, fun _ _ => rfl, ⟨L, hL, hst _ _ _ _ _ _ _ hI (fun _ _ _ => rfl) ?_ (fun γ h => .inl h)⟩, ?_, ?_, ?_, ?_, ?_⟩ <;> first | rfl | (simp only; omega)) ?_
    rintro m ⟨tm, H1, aV, df⟩ hinv
    rw [hJ] at hinv
    obtain ⟨j, hj, hdf, hn, kR, ⟨L1, dU, mo⟩, e0, e4, e5, bA, bB⟩ := hinv
    simp only at hdf hn kR mo e0 e4 e5 bA bB
    subst hdf
    cases m with
    | zero =>
      have yx : decide ((j : Int) < (lim : Int)) = false := by simp; omega
      simp only [vz, tyf, @bh, @bk, @bj, @aU, seval, ua, bA, bB, yx]
      refine bG (x := .lit (.bool true)) (by simp [Tryz.results138, resV, resL, resV1, upd]) ⟨true, rfl, by omega, kR, ?_⟩
      simp only [List.range'_zero, goL, Option.some.injEq] at dU
      subst dU
      exact hst _ _ _ _ _ _ _ mo (fun _ _ _ => rfl) (by omega) (fun γ h => .inl h)
    | succ m =>
      have yx : decide ((j : Int) < (lim : Int)) = true := by simp; omega
      simp only [vz, tyf, @bh, @bk, @bj, @aU, seval, ua, bA, bB, yx, e0, e4, e5]
      refine rF (fun tm => tm 0 = vx eI p ∧ tm 4 = .tp [.fn (.func mf) [] mc] ∧ tm 5 = .ptr e 0 ∧ tm 8 = .lit (.int .i64 j) ∧ tm 16 = .lit (.int .i64 lim) ∧ tm 17 = .lit (.int .i64 j)) (by refine ⟨?_, ?_, ?_, ?_, ?_, ?_⟩ <;> simp only [ua, seval, e0, e4, e5, bA, bB]) ?_
      clear e0 e4 e5 bA bB tm
      rintro tm ⟨e0, e4, e5, e8, bA, bB⟩
      refine yy mixed 11 rfl rfl rfl (by kernel_rfl) ?_
      rw [List.range'_succ] at dU
      unfold goL at dU
      rcases hmb : may p (j : Int) with _ | mb
      · rw [hmb] at dU; cases dU
      rw [hmb, Option.bind_some] at dU
      have hmay' : ag Tryz.prog G0 mf (vx eI p :: .lit (.int .i64 j) :: mc) (.tree (.lit (.bool mb))) := ag.weaken (by
        rintro c W vs ⟨u, us, rfl, h1, h2⟩
        exact ⟨u, us, rfl, tl h1, h2⟩) (hm p j mb hmb)
      simp only [vz, tyf, @bh, @bk, @bj, @aU, seval, ua, e0, e4, e5, e8, bA, bB, rg]
      refine .inl ⟨by simp only [ux, tq eI_ok, uy, htm, Bool.and_self], .tree _, hmay', ?_⟩
      have hw : i64.wrap ((j : Int) + 1) = ((j + 1 : Nat) : Int) := by rw [IntWalk.i64_in _ (by omega)]; simp
      have gM : H1 e = _ := (kR e hFe).trans he
      have qJ : H1 y = _ := (kR y hFy).trans hy
      have hen : e < aV := Nat.lt_of_lt_of_le (hF e hFe) hn
      have hyn : y < aV := Nat.lt_of_lt_of_le (hF y hFy) hn
      cases mb with
      | false =>
        rw [cond_false] at dU
        simp only [vz, tyf, @bh, @bk, @bj, @aU, seval, ua, e0, e4, e5, e8, bA, bB, rg, hw]
        rw [hJ]
        exact ⟨m, Nat.lt_succ_self _, j + 1, by omega, rfl, (by show nx ≤ aV + 19; omega), kR, ⟨L1, dU, hst _ _ _ _ _ _ _ mo (fun _ _ _ => rfl) (by show aV ≤ aV + 19; omega) (fun γ h => .inl h)⟩, by simp only [ua, seval, e0], by simp only [ua, seval, e4], by simp only [ua, seval, e5], by simp only [ua, seval, bA], by simp only [ua, seval]⟩
      | true =>
        rw [cond_true] at dU
        rcases hLa : listsO may lim d (p ++ [(j : Int)]) with _ | La
        · rw [hLa] at dU; cases dU
        rw [hLa, Option.bind_some] at dU
        rcases hLr : goL (listsO may lim d) may p (List.range' (j + 1) m) with _ | Lr
        · rw [hLr] at dU; cases dU
        rw [hLr, Option.bind_some, Option.some.injEq] at dU
        subst dU
        rw [List.map_append, List.append_assoc] at mo
        have hv : vx eI (p ++ [(j : Int)]) = .sl (aa eI (p ++ [(j : Int)])) (p ++ [(j : Int)]).length false := tn (by simp)
        have hroom : roomOk 8 (p ++ [(j : Int)]).length = true := by
          unfold roomOk
          simp only [List.length_append, List.length_cons, List.length_nil, decide_eq_true_eq]
          omega
        simp only [vz, tyf, @bh, @bk, @bj, @aU, seval, ua, e0, e4, e5, e8, bA, bB, rg, gM]
        rcases hpc : p with _ | ⟨p0, pt⟩
        · subst hpc
          refine .inl ⟨rfl, .tree _, yv, ?_⟩
          simp only [vz, tyf, @bh, @bk, @bj, @aU, seval, ua, e0, e4, e5, e8, bA, bB, rg, gM]
          have hroom1 : roomOk 8 ([] ++ [(j : Int)]).length = true := rfl
          refine o7 (w := 1) (enc := eI) (ys := [(j : Int)]) (mj := some 3) (fun _ => rfl) gE gD Tryz.underlying22 (by simp only [ua, nm, seval]; rfl) (Nat.zero_lt_succ _) hroom1 ?_
          simp only [vz, tyf, @bh, @bk, @bj, @aU, seval, ua, nm, e0, e4, e5, e8, bA, bB, rg, gM]
          refine ia ⟨?_, ?_⟩
          · simp only [ib, ic, dv, ig, and_true, true_and]
            repeat' (first | exact trivial | refine And.intro ?_ ?_ | rw [dv] | rw [ij] | exact Or.inl (by decide +kernel) | exact Or.inl (by dsimp only; decide +kernel) | (refine Or.inr ⟨?_, ?_⟩ <;> simp; done) | (refine Or.inr ⟨?_, ?_⟩ <;> simp <;> omega) | (refine Or.inr ⟨?_, ?_⟩ <;> simp [VEff.wr] <;> omega))
          simp only [vz, tyf, @bh, @bk, @bj, @aU, seval, ua, e0, e4, e5, e8, bA, bB, rg, gM]
          refine kopen ?_
          rw [jJ]
          have hcell : (updH (updH H1 (aV + 12) (VObj.cells (some 3) [VV.lit (Value.int IntKind.i64 ↑j)])) (aV + 13) (VObj.cells (some 3) (aa eI ([] ++ [(j : Int)])))) (aV + 13) = some (.cells (some 3) (aa eI ([] ++ [(j : Int)]))) := by simp only [ua, seval]
          have hbig : ∀ γ, γ < aV → without (updH (updH H1 (aV + 12) (VObj.cells (some 3) [VV.lit (Value.int IntKind.i64 ↑j)])) (aV + 13) (VObj.cells (some 3) (aa eI ([] ++ [(j : Int)])))) (aV + 13) γ = H1 γ := by
            intro γ h
            simp only [updH, without]
            repeat rw [if_neg (by omega)]
          refine al.mono (al.freeze1 (γ := aV + 13) hcell (args' := [vx eI ([] ++ [(j : Int)]), .tp [.lit (.int .i64 ln)], .ptr y 0, .tp [.lit (.int .i64 lim)], .tp [.fn (.func mf) [] mc], .ptr e 0]) ⟨by rw [hv]; exact Frozen.own hcell (eI_ok.treeL _) (by rw [fm (w := 1) (fun _ => rfl)]), FrozenL.same⟩ (ih ([] ++ [(j : Int)]) _ La Fr _ _ (by simp at hd ⊢; omega) hLa (fun γ h => by have := hF γ h; omega) hFy hFe ((hbig y hyn).trans qJ) ((hbig e hen).trans gM) (hst _ _ _ _ _ _ _ mo (fun γ h _ => hbig γ h) (by omega) (fun γ h => .inl h)))) ?_ (fun _ _ _ h => h.elim)
          rintro v H2 dC ⟨b, rfl, h1, h2, h3⟩
          have pg : ∀ γ, Fr γ → H2 γ = H γ := fun γ h => by rw [h2 γ h, hbig γ (Nat.lt_of_lt_of_le (hF γ h) hn), kR γ h]
          simp only [vz, tyf, @bh, @bk, @bj, @aU, seval, ua, e0, e4, e5, e8, bA, bB, rg, gM]
          cases b with
          | false =>
            simp only [vz, tyf, @bh, @bk, @bj, @aU, seval, ua, Bool.not_false]
            refine bG (x := .lit (.bool false)) (by simp [Tryz.results138, resV, resL, resV1, upd]) ⟨false, rfl, by omega, pg, ?_⟩
            exact hst _ _ _ _ _ _ _ h3 (fun _ _ _ => rfl) (by omega) (fun γ h => .inl h)
          | true =>
            simp only [vz, tyf, @bh, @bk, @bj, @aU, seval, ua, Bool.not_true, hw]
            simp only [if_true] at h3
            rw [hJ]
            exact ⟨m, Nat.lt_succ_self _, j + 1, by omega, rfl, (by show nx ≤ dC + 2; omega), pg, ⟨Lr, hLr, hst _ _ _ _ _ _ _ h3 (fun _ _ _ => rfl) (by show dC ≤ dC + 2; omega) (fun γ h => .inl h)⟩, by simp only [ua, seval, e0], by simp only [ua, seval, e4], by simp only [ua, seval, e5], by simp only [ua, seval, bA], by simp only [ua, seval]⟩
        rw [← hpc]
        have hne : p ≠ [] := by rw [hpc]; simp
        have hvp : vx eI p = .sl (aa eI p) p.length false := tn hne
        rw [hvp]
        have hcl : rE p = some p := by
          unfold rE
          have h1 : neB p = true := by rw [hpc]; rfl
          have h2 : roomOk 8 p.length = true := by
            unfold roomOk at hroom ⊢
            simp only [List.length_append, List.length_cons, List.length_nil, decide_eq_true_eq] at hroom ⊢
            omega
          rw [h1, h2]; rfl
        refine dkown (args0 := [.sl (aa eI p) p.length false]) (by first | (simp only [nrm, tynrm]; done) | (simp only [nrm, tynrm]; rfl) | rfl) (by simp only [tre, tytre, Bool.and_self]) (JU _ _ hcl) ?_
        simp only [vz, tyf, @bh, @bk, @bj, @aU, seval, ua, e0, e4, e5, e8, bA, bB, rg, gM]
        refine k_app (w := 1) (enc := eI) (xs := p) (ys := [(j : Int)]) (el := none) (mj := some 3) (fun _ => rfl) gE gD Tryz.underlying22 (by simp only [ua, nm, seval]) (by simp only [ua, nm, seval]; rfl) (Nat.zero_lt_succ _) hroom ?_
        simp only [vz, tyf, @bh, @bk, @bj, @aU, seval, ua, nm, e0, e4, e5, e8, bA, bB, rg, gM]
        refine ia ⟨?_, ?_⟩
        · simp only [ib, ic, dv, ig, and_true, true_and]
          repeat' (first | exact trivial | refine And.intro ?_ ?_ | rw [dv] | rw [ij] | exact Or.inl (by decide +kernel) | exact Or.inl (by dsimp only; decide +kernel) | (refine Or.inr ⟨?_, ?_⟩ <;> simp; done) | (refine Or.inr ⟨?_, ?_⟩ <;> simp <;> omega) | (refine Or.inr ⟨?_, ?_⟩ <;> simp [VEff.wr] <;> omega))
        simp only [vz, tyf, @bh, @bk, @bj, @aU, seval, ua, e0, e4, e5, e8, bA, bB, rg, gM]
        refine kopen ?_
        rw [jJ]
        have hcell : (updH (without (updH (updH H1 (aV + 10) (VObj.cells none (aa eI p))) (aV + 12) (VObj.cells (some 3) [VV.lit (Value.int IntKind.i64 ↑j)])) (aV + 10)) (aV + 13) (VObj.cells (sameEl none 3) (aa eI (p ++ [(j : Int)])))) (aV + 13) = some (.cells (sameEl none 3) (aa eI (p ++ [(j : Int)]))) := by simp only [ua, seval]
        have hbig : ∀ γ, γ < aV → without (updH (without (updH (updH H1 (aV + 10) (VObj.cells none (aa eI p))) (aV + 12) (VObj.cells (some 3) [VV.lit (Value.int IntKind.i64 ↑j)])) (aV + 10)) (aV + 13) (VObj.cells (sameEl none 3) (aa eI (p ++ [(j : Int)])))) (aV + 13) γ = H1 γ := by
          intro γ h
          simp only [updH, without]
          repeat rw [if_neg (by omega)]
        refine al.mono (al.freeze1 (γ := aV + 13) hcell (args' := [vx eI (p ++ [(j : Int)]), .tp [.lit (.int .i64 ln)], .ptr y 0, .tp [.lit (.int .i64 lim)], .tp [.fn (.func mf) [] mc], .ptr e 0]) ⟨by rw [hv]; exact Frozen.own hcell (eI_ok.treeL _) (by rw [fm (w := 1) (fun _ => rfl)]), FrozenL.same⟩ (ih (p ++ [(j : Int)]) _ La Fr _ _ (by simp; omega) hLa (fun γ h => by have := hF γ h; omega) hFy hFe ((hbig y hyn).trans qJ) ((hbig e hen).trans gM) (hst _ _ _ _ _ _ _ mo (fun γ h _ => hbig γ h) (by omega) (fun γ h => .inl h)))) ?_ (fun _ _ _ h => h.elim)
        rintro v H2 dC ⟨b, rfl, h1, h2, h3⟩
        have pg : ∀ γ, Fr γ → H2 γ = H γ := fun γ h => by rw [h2 γ h, hbig γ (Nat.lt_of_lt_of_le (hF γ h) hn), kR γ h]
        simp only [vz, tyf, @bh, @bk, @bj, @aU, seval, ua, e0, e4, e5, e8, bA, bB, rg, gM]
        cases b with
        | false =>
          simp only [vz, tyf, @bh, @bk, @bj, @aU, seval, ua, Bool.not_false]
          refine bG (x := .lit (.bool false)) (by simp [Tryz.results138, resV, resL, resV1, upd]) ⟨false, rfl, by omega, pg, ?_⟩
          exact hst _ _ _ _ _ _ _ h3 (fun _ _ _ => rfl) (by omega) (fun γ h => .inl h)
        | true =>
          simp only [vz, tyf, @bh, @bk, @bj, @aU, seval, ua, Bool.not_true, hw]
          simp only [if_true] at h3
          rw [hJ]
          exact ⟨m, Nat.lt_succ_self _, j + 1, by omega, rfl, (by show nx ≤ dC + 2; omega), pg, ⟨Lr, hLr, hst _ _ _ _ _ _ _ h3 (fun _ _ _ => rfl) (by show dC ≤ dC + 2; omega) (fun γ h => .inl h)⟩, by simp only [ua, seval, e0], by simp only [ua, seval, e4], by simp only [ua, seval, e5], by simp only [ua, seval, bA], by simp only [ua, seval]⟩
theorem yz {mc : List VV} {mf ln lim : Nat} {may : List Int → Int → Option Bool} {L : List (List Int)} (htm : treeL mc = true) (pf : 0 < ln) (hln : ln < 1000) (hlim : lim < 1000000)
    (hL : listsO may lim ln [] = some L) (hm : ∀ (p : List Int) (j : Int) (b : Bool), may p j = some b → ag Tryz.prog G0 mf (.sl (aa eI p) p.length false :: .lit (.int .i64 j) :: mc) (.tree (.lit (.bool b)))) :
    Iter Tryz.prog G0 (.fn (.func 137) [] [.tp [.lit (.int .i64 ln)], .tp [.lit (.int .i64 lim)], .tp [.fn (.func mf) [] mc]]) (L.map sI) := by
  rw [← tt (fun q hq hn => by have := tv _ _ _ hL q hq; rw [hn] at this; simp at this; omega)]
  refine ⟨137, [], _, rfl, fun β I hst hr H nx hβ hI => ?_⟩
  refine al.run mixed Tryz.call137 Tryz.func137 rfl (by simp [Tryz.ntmps137]; kernel_rfl) ?_
  simp only [List.nil_append, List.cons_append, argsTm4, vz, tyf, @bh, @bk, @bj, @aU, seval, ua, rg]
  refine kopen ?_
  rw [jJ]
  refine al.mono (yw hst hr htm pf hln hlim hm ln [] [] L (fun γ => γ = nx + 0 ∨ γ = nx + 1) _ _ (by simp) hL (by rintro γ (rfl | rfl) <;> omega) (.inl rfl) (.inr rfl) (by simp [updH]) (by simp [updH]) ?_) ?_ (fun _ _ _ h => h.elim)
  · rw [List.append_nil]
    refine hst _ _ _ _ _ _ _ hI ?_ (by omega) (by rintro γ (rfl | rfl) <;> right <;> omega)
    intro γ h _
    simp only [updH]
    repeat rw [if_neg (by omega)]
  rintro v H2 dC ⟨b, rfl, h1, h2, h3⟩
  simp only [vz, tyf, @bh, @bk, @bj, @aU, seval, ua]
  refine Fg (x := .tup []) (by simp [Tryz.results137, resV, resL]) ?_
  replace h3 := hst _ _ noFr _ _ _ _ h3 (fun _ _ _ => rfl) (Nat.le_refl _) (fun γ h => h.elim)
  cases b with
  | true => exact .inl h3
  | false => exact .inr h3
def aL (k : GBe) : Value := .agg ⟨[.int .i64 k.stroke, .int .i64 k.hours]⟩
def bK (a b : GBe) : Bool := ((a.stroke == b.stroke) && ((a.hours == b.hours) && true))
def bu (n : Int) : VV := .lit (.int .i64 n)
theorem jq (a b : GBe) : au Tryz.prog (Op.equal 152 (aL a) (aL b)) = some (bK a b) := by
 unfold Op.equal
 exact y6 5 152 _ _ _ (by kernel_rfl) 9995
theorem jr (b : Bool) (k : GBe) : au Tryz.prog (Instr.checkKey b 10000 152 (aL k)) = some () := by
 cases b <;> kernel_rfl
theorem gN (a b : GBe) (h : bK a b = true) : a = b := by
 obtain ⟨astroke, ahours⟩ := a
 obtain ⟨bstroke, bhours⟩ := b
 simp only [bK, Bool.and_true, Bool.and_eq_true, beq_iff_eq] at h
 simp only [h]
theorem ph (a : GBe) : Instr.sameBits 10000 (aL a) (aL a) = true := by
 simp [aL, Instr.sameBits]
theorem JW : ((Tryz.prog.info? 3).bind (·.zero)).map ofVal2 = some (bu 0) := by kernel_rfl
theorem js (k : GBe) : VV.val? (.agg [.lit (.int .i64 k.stroke), .lit (.int .i64 k.hours)]) = some (aL k) := rfl
theorem pj {β : Nat} (l : List (GBe × Int)) (k : GBe) (H : Nat → Option VObj) (hb : H β = some (.map (encM aL bu l))) : vlookup Tryz.prog H 90 (.mp β) (.agg [.lit (.int .i64 k.stroke), .lit (.int .i64 k.hours)]) true = some (.tup [.lit (.int .i64 (mapGet bK 0 l k)), .lit (.bool (mapHas bK l k))]) :=
 Ik Tryz.underlying90 Tryz.underlying152 jq jr JW (js k) hb
theorem pk {β : Nat} (l : List (GBe × Int)) (k : GBe) (n : Int) (H : Nat → Option VObj) (hb : H β = some (.map (encM aL bu l))) : vmapUpdate Tryz.prog H 90 (.mp β) (.agg [.lit (.int .i64 k.stroke), .lit (.int .i64 k.hours)]) (.lit (.int .i64 n)) = some (.upd β (.map (encM aL bu (mapSet bK l k n)))) :=
 HY Tryz.underlying90 Tryz.underlying152 jq jr gN ph (js k) hb
theorem y7 {c : VV} {cs : List VV} : aG Tryz.prog 90 (c :: cs) = some c := by
 have h1 : aggT Tryz.prog 90 = some false := by kernel_rfl
 simp [aG, vpart, h1]
theorem y8 : szT Tryz.prog 90 = some 1 := by kernel_rfl
theorem pn : vzl Tryz.prog 90 = some [.lit (.map none)] := by kernel_rfl
def mqr := And.intro (And.intro @tA @tB) True.intro
def mqt := And.intro (And.intro @y7 @y8) @pn
def RoundsM (P : Program) (G : Glob) (β : Nat) (I : Inv) : Prop := ∀ x rest (Fr : Nat → Prop) (H : Nat → Option VObj) (nx δ : Nat), (∀ γ, Fr γ → γ < nx) → δ < nx → ¬ Fr δ → H δ = some (.map []) → I (some (.agg x :: rest)) (fun γ => Fr γ ∨ γ = δ) H nx →
  Yields P G β (.agg (x ++ [.mp δ])) H nx (fun b H' nx' => nx ≤ nx' ∧ (∀ γ, Fr γ → H' γ = H γ) ∧ I (if b then some rest else none) Fr H' nx')
def IterM (P : Program) (G : Glob) (g : VV) (L : List VV) : Prop := ∃ f first captured, g = .fn (.func f) first captured ∧ ∀ (β : Nat) (I : Inv), Stable I → RoundsM P G β I → ∀ (H : Nat → Option VObj) (nx : Nat), β < nx → I (some L) noFr H nx →
  al P G f (first ++ [.yl β] ++ captured) H nx (fun _ H' nx' => I (some []) noFr H' nx' ∨ I none noFr H' nx') (fun _ _ _ => False)
theorem Fh {P : Program} {G : Glob} {n : Nat} {Q : VExit → St → Prop} {tm : Nat → VV} {H : Nat → Option VObj} {nx : Nat} {df : List VDef} {g : Operand} {ps : Array Tmp} {az bo : Code} {itv : VV} {L : List VV} (hit : IterM P G itv L) (hg : ev (G.at (some none)) tm g = itv)
    (h : ∀ LO, LO = VObj.loop .ready none (tmL n tm) ps az bo nx → ∃ I : Inv, Stable I ∧ RoundsM P G (nx + 1) I ∧ I (some L) noFr (updH (updH H nx (.deferred (some []))) (nx + 1) LO) (nx + 2) ∧
      ∀ H' nx', I (some []) noFr H' nx' ∨ I none noFr H' nx' → RangeEnd P (G.at (some none)) n Q ⟨tm, H, nx, df⟩ H' nx') : CWp P (G.at (some none)) n (.rangeFunc g ps az bo) Q ⟨tm, H, nx, df⟩ := by
  obtain ⟨f, first, captured, rfl, hv⟩ := hit
  refine DT hg fun LO hL => ?_
  obtain ⟨I, hs, hr, h0, he⟩ := h LO hL
  exact al.mono (hv (nx + 1) I hs hr _ _ (Nat.lt_succ_self _) h0) (fun _ H' nx' hh => he H' nx' hh) (fun _ _ _ hh => hh.elim)
def po (ai : GBk) (xs : Int) (ca : Int) : Option (Bool) := cond (ca == 0) (some true) (Option.bind (getI ai.Strokes xs) (fun x1 => some (!x1.Round)))
theorem JX (ai : GBk) (xs : Int) (ca : Int) (R : Bool) (h : po ai xs ca = some R) : ag Tryz.prog G0 104 [.agg (cGBk ai), .lit (.int .i64 xs), .lit (.int .i64 ca)] (.tree (.lit (.bool R))) := by
 refine ag.runR mixed Tryz.call104 Tryz.func104 rfl (by simp [Tryz.ntmps104]; kernel_rfl) ?_
 obtain ⟨KF, h, kF, kN⟩ := cu h
 simp only [po] at h
 cases d2 : (ca == 0)
 ·simp only [d2, hs] at h
  obtain ⟨x3, o4, h⟩ := optI h kN
  try simp only [hs] at h
  try simp only [vz, tyf, d2, (aQ o4), nm, seval]
  obtain rfl := kF _ h
  exact aS Tryz.results104 rfl
 simp only [d2, hs] at h
 try simp only [vz, tyf, d2, nm, seval]
 obtain rfl := kF _ h
 exact aS Tryz.results104 rfl
def rG (bx : List Int) (cO : Int) (fc : GBk) : Option (Bool) := Option.bind (po fc (List.length bx : Int) cO) (fun r1 => some r1)
theorem JY (bx : List Int) (cO : Int) (fc : GBk) (R : Bool) (h : rG bx cO fc = some R) : ag Tryz.prog G0 117 [.sl (aa eI bx) (List.length bx) false, .lit (.int .i64 cO), .tp (cGBk fc)] (.tree (.lit (.bool R))) := by
 refine ag.runR mixed Tryz.call117 Tryz.func117 rfl (by simp [Tryz.ntmps117]; kernel_rfl) ?_
 obtain ⟨KF, h, kF, kN⟩ := cu h
 simp only [rG] at h
 obtain ⟨r2, o3, h⟩ := optI h kN
 try simp only [hs] at h
 simp only [vz, tyf, nm, seval]
 refine ktA (JX _ _ _ _ o3) ?_
 refine aZ (fun tm => tm 10 = .lit (.bool r2) ∧ True) (by refine ⟨?_, trivial⟩ <;> first | (simp only [ua, nm, seval] <;> rfl) | rfl) ?_
 rintro tm ⟨e4, _⟩
 try simp only [vz, tyf, e4, nm, seval]
 obtain rfl := kF _ h
 exact aS Tryz.results117 rfl
end Go.V
end
