/- Part of a proof. -/
import Derived.Test.YtmhlghgbfmcdaaaGreatDoorB1bh
import Derived.Test.YtmhlghgbfmcdaaaGreatDoorB1az
import Derived.Test.YtmhlghgbfmcdaaaGreatDoorProg
set_option linter.all false
set_option maxRecDepth 4000
set_option maxHeartbeats 40000000
section
namespace Go.V
open Go Go.Proofs IntKind
theorem mixed : Tryz.prog.follows .mixedOrders = true := by kernel_rfl
structure GSpan where
 Low : Int
 High : Int
 deriving Inhabited, DecidableEq
def aj (x : GSpan) : List VV := [.lit (.int .i64 x.Low), .lit (.int .i64 x.High)]
theorem nn {x : GSpan} : aj x = [.lit (.int .i64 x.Low), .lit (.int .i64 x.High)] := rfl
theorem dr : EncOk aj := EncOk.of (fun x => by simp only [nn, tre, Bool.and_self]) (fun x => by simp only [nn, nrm]) (fun x H d => by simp only [nn, nrm, List.map_cons, List.map_nil])
structure GBs where
 Board : Int
 Round : Bool
 Hours : GSpan
 Needs : List Int
 deriving Inhabited, DecidableEq
def cGBs (x : GBs) : List VV := [.lit (.int .i64 x.Board), .lit (.bool x.Round), .lit (.int .i64 x.Hours.Low), .lit (.int .i64 x.Hours.High), .sl (aa eI x.Needs) (List.length x.Needs) false]
theorem qi {x : GBs} : cGBs x = [.lit (.int .i64 x.Board), .lit (.bool x.Round), .lit (.int .i64 x.Hours.Low), .lit (.int .i64 x.Hours.High), .sl (aa eI x.Needs) (List.length x.Needs) false] := rfl
theorem fm : EncOk cGBs := EncOk.of (fun x => by simp only [qi, tre, dr.tree, dr.treeL, Bool.and_self]) (fun x => by simp only [qi, nrm, dr.norm, dr.normL, dr.shown, dr.showL]) (fun x H d => by simp only [qi, nrm, List.map_cons, List.map_nil])
structure GBk where
 Apprentices : Int
 Boards : List Int
 Strokes : List GBs
 deriving Inhabited, DecidableEq
def cGBk (x : GBk) : List VV := [.lit (.int .i64 x.Apprentices), .sl (aa eI x.Boards) (List.length x.Boards) false, .sl (aa cGBs x.Strokes) (List.length x.Strokes) false]
theorem rB {x : GBk} : cGBk x = [.lit (.int .i64 x.Apprentices), .sl (aa eI x.Boards) (List.length x.Boards) false, .sl (aa cGBs x.Strokes) (List.length x.Strokes) false] := rfl
theorem jn : EncOk cGBk := EncOk.of (fun x => by simp only [rB, tre, dr.tree, dr.treeL, fm.tree, fm.treeL, Bool.and_self]) (fun x => by simp only [rB, nrm, dr.norm, dr.normL, dr.shown, dr.showL, fm.norm, fm.normL, fm.shown, fm.showL]) (fun x H d => by simp only [rB, nrm, List.map_cons, List.map_nil])
structure GBe where
 stroke : Int
 hours : Int
 deriving Inhabited, DecidableEq
def cGBe (x : GBe) : List VV := [.lit (.int .i64 x.stroke), .lit (.int .i64 x.hours)]
theorem vk {x : GBe} : cGBe x = [.lit (.int .i64 x.stroke), .lit (.int .i64 x.hours)] := rfl
theorem qj : EncOk cGBe := EncOk.of (fun x => by simp only [vk, tre, dr.tree, dr.treeL, fm.tree, fm.treeL, jn.tree, jn.treeL, Bool.and_self]) (fun x => by simp only [vk, nrm, dr.norm, dr.normL, dr.shown, dr.showL, fm.norm, fm.normL, fm.shown, fm.showL, jn.norm, jn.normL, jn.shown, jn.showL]) (fun x H d => by simp only [vk, nrm, List.map_cons, List.map_nil])
theorem LB {c : VV} {cs : List VV} : vload Tryz.prog 2 (c :: cs) = some c := by
 have h1 : aggT Tryz.prog 2 = some false := by kernel_rfl
 simp [vload, vpart, h1]
theorem LC : szT Tryz.prog 2 = some 1 := by kernel_rfl
theorem xH : vzl Tryz.prog 2 = some [.lit (.int .i64 0)] := by kernel_rfl
theorem LD {c : VV} {cs : List VV} : vload Tryz.prog 3 (c :: cs) = some c := by
 have h1 : aggT Tryz.prog 3 = some false := by kernel_rfl
 simp [vload, vpart, h1]
theorem LF : szT Tryz.prog 3 = some 1 := by kernel_rfl
theorem xI : vzl Tryz.prog 3 = some [.lit (.int .i64 0)] := by kernel_rfl
theorem LG {c : VV} {cs : List VV} : vload Tryz.prog 4 (c :: cs) = some c := by
 have h1 : aggT Tryz.prog 4 = some false := by kernel_rfl
 simp [vload, vpart, h1]
theorem LH : szT Tryz.prog 4 = some 1 := by kernel_rfl
theorem xJ : vzl Tryz.prog 4 = some [.lit (.bool false)] := by kernel_rfl
theorem LI {c : VV} {cs : List VV} : vload Tryz.prog 9 (c :: cs) = some c := by
 have h1 : aggT Tryz.prog 9 = some false := by kernel_rfl
 simp [vload, vpart, h1]
theorem LJ : szT Tryz.prog 9 = some 1 := by kernel_rfl
theorem xK : vzl Tryz.prog 9 = some [.lit (.string ⟨#[]⟩)] := by kernel_rfl
theorem xL {c : VV} {cs : List VV} : vload Tryz.prog 22 (c :: cs) = some c := by
 have h1 : aggT Tryz.prog 22 = some false := by kernel_rfl
 simp [vload, vpart, h1]
theorem xM : szT Tryz.prog 22 = some 1 := by kernel_rfl
theorem rC : vzl Tryz.prog 22 = some [.lit (.slice none 0 0)] := by kernel_rfl
theorem rD {H : Nat → Option VObj} {cs : List VV} {n : Nat} {f : Bool} : vlen Tryz.prog H 22 (.sl cs n f) = some (.lit (.int .i64 n)) := by simp [vlen, Tryz.underlying22, sls]
theorem lenN22 {H : Nat → Option VObj} : vlen Tryz.prog H 22 (.lit (.slice none 0 0)) = some (.lit (.int .i64 0)) := by simp [vlen, Tryz.underlying22, sls]
theorem lenR22 {H : Nat → Option VObj} {β off n w c : Nat} : vlen Tryz.prog H 22 (.ref β off n w c) = (match H β with | some (.cells _ cs) => if off ≤ cs.length then some (.lit (.int .i64 n)) else none | _ => none) := lenR Tryz.underlying22
theorem ct : elemT Tryz.prog 22 = some 3 := by simp [elemT, Tryz.underlying22]
theorem hS : appOk Tryz.prog 22 = some (3, 1, 8) := by kernel_rfl
theorem xN {xs : List Int} : (aa eI xs).take (xs.length * 1) = aa eI xs := vl (fun _ => rfl)
theorem hT : ∀ x : Int, leafL (eI x) = true := fun x => by simp only [eI_eq, kR, eB_eq, eS_eq, kS, fw, fx, vm, vn, vo, vp, vq, Bool.and_self]
theorem xO {a0 : VV} (h : leafL [a0] = true) : au Tryz.prog 22 1 [(0, a0)] = some ([a0], 1) := by
 have h2 : szT Tryz.prog 3 = some 1 := by kernel_rfl
 have h3 : vzero Tryz.prog 3 = some #[.int .i64 0] := by kernel_rfl
 simp only [fx, fw, Bool.and_true, Bool.and_eq_true] at h
 simp [au, Tryz.underlying22, h2, h3, vfill, vcells1, h, overwrite, vzeros, List.range_succ]
theorem xP {a0 a1 : VV} (h : leafL [a0, a1] = true) : au Tryz.prog 22 2 [(0, a0), (1, a1)] = some ([a0, a1], 1) := by
 have h2 : szT Tryz.prog 3 = some 1 := by kernel_rfl
 have h3 : vzero Tryz.prog 3 = some #[.int .i64 0] := by kernel_rfl
 simp only [fx, fw, Bool.and_true, Bool.and_eq_true] at h
 simp [au, Tryz.underlying22, h2, h3, vfill, vcells1, h, overwrite, vzeros, List.range_succ]
theorem xQ {a0 a1 a2 : VV} (h : leafL [a0, a1, a2] = true) : au Tryz.prog 22 3 [(0, a0), (1, a1), (2, a2)] = some ([a0, a1, a2], 1) := by
 have h2 : szT Tryz.prog 3 = some 1 := by kernel_rfl
 have h3 : vzero Tryz.prog 3 = some #[.int .i64 0] := by kernel_rfl
 simp only [fx, fw, Bool.and_true, Bool.and_eq_true] at h
 simp [au, Tryz.underlying22, h2, h3, vfill, vcells1, h, overwrite, vzeros, List.range_succ]
theorem aI {H : Nat → Option VObj} {xs : List Int} {x : Int} {f : Bool} {k : IntKind} {i : Int} (h : getI xs i = some x) : av Tryz.prog H 22 (.sl (aa eI xs) xs.length f) (.lit (.int k i)) = some (.tp (eI x ++ aa eI (xs.drop (i.toNat + 1)))) :=
 ixG Tryz.underlying22 (by kernel_rfl : szT Tryz.prog 3 = some 1) (by decide) (fun _ => rfl) h
theorem xR {c : VV} {cs : List VV} : vload Tryz.prog 23 (c :: cs) = some c := by
 have h1 : aggT Tryz.prog 23 = some false := by kernel_rfl
 simp [vload, vpart, h1]
theorem xS : szT Tryz.prog 23 = some 1 := by kernel_rfl
theorem rE : vzl Tryz.prog 23 = some [.lit (.slice none 0 0)] := by kernel_rfl
theorem rF {H : Nat → Option VObj} {cs : List VV} {n : Nat} {f : Bool} : vlen Tryz.prog H 23 (.sl cs n f) = some (.lit (.int .i64 n)) := by simp [vlen, Tryz.underlying23, sls]
theorem lenN23 {H : Nat → Option VObj} : vlen Tryz.prog H 23 (.lit (.slice none 0 0)) = some (.lit (.int .i64 0)) := by simp [vlen, Tryz.underlying23, sls]
theorem lenR23 {H : Nat → Option VObj} {β off n w c : Nat} : vlen Tryz.prog H 23 (.ref β off n w c) = (match H β with | some (.cells _ cs) => if off ≤ cs.length then some (.lit (.int .i64 n)) else none | _ => none) := lenR Tryz.underlying23
theorem xT : elemT Tryz.prog 23 = some 49 := by simp [elemT, Tryz.underlying23]
theorem xU : appOk Tryz.prog 23 = some (49, 5, 56) := by kernel_rfl
theorem xV {xs : List GBs} : (aa cGBs xs).take (xs.length * 5) = aa cGBs xs := vl (fun _ => rfl)
theorem xW : ∀ x : GBs, leafL (cGBs x) = true := fun x => by simp only [eI_eq, kR, eB_eq, eS_eq, kS, qi, fw, fx, vm, vn, vo, vp, vq, Bool.and_self]
theorem mr {xs : List GBs} {x : GBs} {i : Int} (h : getI xs i = some x) : (∀ (H : Nat → Option VObj) (β c : Nat) (k : IntKind), av Tryz.prog H 23 (.ref β 0 xs.length 5 c) (.lit (.int k i)) = if (H β).isSome = true then some (.ptr β (i.toNat * 5)) else none) ∧ (aa cGBs xs).drop (i.toNat * 5) = cGBs x ++ aa cGBs (xs.drop (i.toNat + 1)) ∧ (i.toNat * 5 ≤ (aa cGBs xs).length) = True := ixO Tryz.underlying23 (by kernel_rfl : szT Tryz.prog 49 = some 5) (fun _ => rfl) h
theorem xX {c0 c1 c2 c3 c4 : VV} (h : leafL [c0, c1, c2, c3, c4] = true) : au Tryz.prog 23 1 [(0, .agg [c0, c1, c2, c3, c4])] = some ([c0, c1, c2, c3, c4], 5) := by
 have h2 : szT Tryz.prog 49 = some 5 := by kernel_rfl
 have h3 : vzero Tryz.prog 49 = some #[.int .i64 0, .bool false, .int .i64 0, .int .i64 0, .slice none 0 0] := by kernel_rfl
 simp only [fx, fw, Bool.and_true, Bool.and_eq_true] at h
 simp [au, Tryz.underlying23, h2, h3, vfill, aJ, h, overwrite, vzeros]
theorem aK {H : Nat → Option VObj} {xs : List GBs} {x : GBs} {f : Bool} {k : IntKind} {i : Int} (h : getI xs i = some x) : av Tryz.prog H 23 (.sl (aa cGBs xs) xs.length f) (.lit (.int k i)) = some (.tp (cGBs x ++ aa cGBs (xs.drop (i.toNat + 1)))) :=
 ixG Tryz.underlying23 (by kernel_rfl : szT Tryz.prog 49 = some 5) (by decide) (fun _ => rfl) h
theorem xY {c0 c1 c2 : VV} {cs : List VV} : vload Tryz.prog 25 (c0 :: c1 :: c2 :: cs) = some (.agg [c0, c1, c2]) := by
 have h1 : aggT Tryz.prog 25 = some true := by kernel_rfl
 have h2 : szT Tryz.prog 25 = some 3 := by kernel_rfl
 simp [vload, vpart, h1, h2]
theorem xZ : szT Tryz.prog 25 = some 3 := by kernel_rfl
theorem rG : vzl Tryz.prog 25 = some [.lit (.int .i64 0), .lit (.slice none 0 0), .lit (.slice none 0 0)] := by kernel_rfl
theorem ya {H : Nat → Option VObj} {cs : List VV} : ag Tryz.prog H 25 (.tp cs) 0 = some (.tp (cs.drop 0)) := by
 have h2 : szT Tryz.prog 3 = some 1 := by kernel_rfl
 simp [ag, Tryz.underlying25, h2]
theorem yb {H : Nat → Option VObj} {β o : Nat} : ag Tryz.prog H 25 (.ptr β o) 0 = if (H β).isSome = true then some (.ptr β (o + 0)) else none := by
 have h2 : szT Tryz.prog 3 = some 1 := by kernel_rfl
 simp [ag, Tryz.underlying25, h2]
theorem yc {c0 c1 c2 : VV} : vfield Tryz.prog 25 (.agg [c0, c1, c2]) 0 = some (c0) := by
 have h1 : aggT Tryz.prog 3 = some false := by kernel_rfl
 have h2 : szT Tryz.prog 3 = some 1 := by kernel_rfl
 simp [vfield, Tryz.underlying25, vpart, h1, h2]
theorem yd {H : Nat → Option VObj} {cs : List VV} : ag Tryz.prog H 25 (.tp cs) 1 = some (.tp (cs.drop 1)) := by
 have h2 : szT Tryz.prog 22 = some 1 := by kernel_rfl
 simp [ag, Tryz.underlying25, h2]
theorem ye {H : Nat → Option VObj} {β o : Nat} : ag Tryz.prog H 25 (.ptr β o) 1 = if (H β).isSome = true then some (.ptr β (o + 1)) else none := by
 have h2 : szT Tryz.prog 22 = some 1 := by kernel_rfl
 simp [ag, Tryz.underlying25, h2]
theorem yf {c0 c1 c2 : VV} : vfield Tryz.prog 25 (.agg [c0, c1, c2]) 1 = some (c1) := by
 have h1 : aggT Tryz.prog 22 = some false := by kernel_rfl
 have h2 : szT Tryz.prog 22 = some 1 := by kernel_rfl
 simp [vfield, Tryz.underlying25, vpart, h1, h2]
theorem yg {H : Nat → Option VObj} {cs : List VV} : ag Tryz.prog H 25 (.tp cs) 2 = some (.tp (cs.drop 2)) := by
 have h2 : szT Tryz.prog 23 = some 1 := by kernel_rfl
 simp [ag, Tryz.underlying25, h2]
theorem yh {H : Nat → Option VObj} {β o : Nat} : ag Tryz.prog H 25 (.ptr β o) 2 = if (H β).isSome = true then some (.ptr β (o + 2)) else none := by
 have h2 : szT Tryz.prog 23 = some 1 := by kernel_rfl
 simp [ag, Tryz.underlying25, h2]
theorem yi {c0 c1 c2 : VV} : vfield Tryz.prog 25 (.agg [c0, c1, c2]) 2 = some (c2) := by
 have h1 : aggT Tryz.prog 23 = some false := by kernel_rfl
 have h2 : szT Tryz.prog 23 = some 1 := by kernel_rfl
 simp [vfield, Tryz.underlying25, vpart, h1, h2]
theorem yj {c : VV} {cs : List VV} : vload Tryz.prog 29 (c :: cs) = some c := by
 have h1 : aggT Tryz.prog 29 = some false := by kernel_rfl
 simp [vload, vpart, h1]
theorem yk : szT Tryz.prog 29 = some 1 := by kernel_rfl
theorem rH : vzl Tryz.prog 29 = some [.lit (.int .i64 0)] := by kernel_rfl
theorem ym {c : VV} {cs : List VV} : vload Tryz.prog 31 (c :: cs) = some c := by
 have h1 : aggT Tryz.prog 31 = some false := by kernel_rfl
 simp [vload, vpart, h1]
theorem yn : szT Tryz.prog 31 = some 1 := by kernel_rfl
theorem rI : vzl Tryz.prog 31 = some [.lit (.slice none 0 0)] := by kernel_rfl
theorem rJ {H : Nat → Option VObj} {cs : List VV} {n : Nat} {f : Bool} : vlen Tryz.prog H 31 (.sl cs n f) = some (.lit (.int .i64 n)) := by simp [vlen, Tryz.underlying31, sls]
theorem lenN31 {H : Nat → Option VObj} : vlen Tryz.prog H 31 (.lit (.slice none 0 0)) = some (.lit (.int .i64 0)) := by simp [vlen, Tryz.underlying31, sls]
theorem lenR31 {H : Nat → Option VObj} {β off n w c : Nat} : vlen Tryz.prog H 31 (.ref β off n w c) = (match H β with | some (.cells _ cs) => if off ≤ cs.length then some (.lit (.int .i64 n)) else none | _ => none) := lenR Tryz.underlying31
theorem kT : elemT Tryz.prog 31 = some 35 := by simp [elemT, Tryz.underlying31]
theorem rK : appOk Tryz.prog 31 = some (35, 2, 16) := by kernel_rfl
theorem yo {xs : List GSpan} : (aa aj xs).take (xs.length * 2) = aa aj xs := vl (fun _ => rfl)
theorem rL : ∀ x : GSpan, leafL (aj x) = true := fun x => by simp only [eI_eq, kR, eB_eq, eS_eq, kS, nn, fw, fx, vm, vn, vo, vp, vq, Bool.and_self]
theorem yp {c0 c1 : VV} (h : leafL [c0, c1] = true) : au Tryz.prog 31 1 [(0, .agg [c0, c1])] = some ([c0, c1], 2) := by
 have h2 : szT Tryz.prog 35 = some 2 := by kernel_rfl
 have h3 : vzero Tryz.prog 35 = some #[.int .i64 0, .int .i64 0] := by kernel_rfl
 simp only [fx, fw, Bool.and_true, Bool.and_eq_true] at h
 simp [au, Tryz.underlying31, h2, h3, vfill, aJ, h, overwrite, vzeros]
theorem aN {H : Nat → Option VObj} {xs : List GSpan} {x : GSpan} {f : Bool} {k : IntKind} {i : Int} (h : getI xs i = some x) : av Tryz.prog H 31 (.sl (aa aj xs) xs.length f) (.lit (.int k i)) = some (.tp (aj x ++ aa aj (xs.drop (i.toNat + 1)))) :=
 ixG Tryz.underlying31 (by kernel_rfl : szT Tryz.prog 35 = some 2) (by decide) (fun _ => rfl) h
theorem yq {c0 c1 : VV} {cs : List VV} : vload Tryz.prog 35 (c0 :: c1 :: cs) = some (.agg [c0, c1]) := by
 have h1 : aggT Tryz.prog 35 = some true := by kernel_rfl
 have h2 : szT Tryz.prog 35 = some 2 := by kernel_rfl
 simp [vload, vpart, h1, h2]
theorem yr : szT Tryz.prog 35 = some 2 := by kernel_rfl
theorem j0 : vzl Tryz.prog 35 = some [.lit (.int .i64 0), .lit (.int .i64 0)] := by kernel_rfl
theorem yu {H : Nat → Option VObj} {cs : List VV} : ag Tryz.prog H 35 (.tp cs) 0 = some (.tp (cs.drop 0)) := by
 have h2 : szT Tryz.prog 3 = some 1 := by kernel_rfl
 simp [ag, Tryz.underlying35, h2]
theorem yv {H : Nat → Option VObj} {β o : Nat} : ag Tryz.prog H 35 (.ptr β o) 0 = if (H β).isSome = true then some (.ptr β (o + 0)) else none := by
 have h2 : szT Tryz.prog 3 = some 1 := by kernel_rfl
 simp [ag, Tryz.underlying35, h2]
theorem yw {c0 c1 : VV} : vfield Tryz.prog 35 (.agg [c0, c1]) 0 = some (c0) := by
 have h1 : aggT Tryz.prog 3 = some false := by kernel_rfl
 have h2 : szT Tryz.prog 3 = some 1 := by kernel_rfl
 simp [vfield, Tryz.underlying35, vpart, h1, h2]
theorem yx {H : Nat → Option VObj} {cs : List VV} : ag Tryz.prog H 35 (.tp cs) 1 = some (.tp (cs.drop 1)) := by
 have h2 : szT Tryz.prog 3 = some 1 := by kernel_rfl
 simp [ag, Tryz.underlying35, h2]
theorem yy {H : Nat → Option VObj} {β o : Nat} : ag Tryz.prog H 35 (.ptr β o) 1 = if (H β).isSome = true then some (.ptr β (o + 1)) else none := by
 have h2 : szT Tryz.prog 3 = some 1 := by kernel_rfl
 simp [ag, Tryz.underlying35, h2]
theorem yz {c0 c1 : VV} : vfield Tryz.prog 35 (.agg [c0, c1]) 1 = some (c1) := by
 have h1 : aggT Tryz.prog 3 = some false := by kernel_rfl
 have h2 : szT Tryz.prog 3 = some 1 := by kernel_rfl
 simp [vfield, Tryz.underlying35, vpart, h1, h2]
theorem y6 {c0 c1 c2 c3 c4 : VV} {cs : List VV} : vload Tryz.prog 49 (c0 :: c1 :: c2 :: c3 :: c4 :: cs) = some (.agg [c0, c1, c2, c3, c4]) := by
 have h1 : aggT Tryz.prog 49 = some true := by kernel_rfl
 have h2 : szT Tryz.prog 49 = some 5 := by kernel_rfl
 simp [vload, vpart, h1, h2]
theorem y7 : szT Tryz.prog 49 = some 5 := by kernel_rfl
theorem rM : vzl Tryz.prog 49 = some [.lit (.int .i64 0), .lit (.bool false), .lit (.int .i64 0), .lit (.int .i64 0), .lit (.slice none 0 0)] := by kernel_rfl
theorem y8 {H : Nat → Option VObj} {cs : List VV} : ag Tryz.prog H 49 (.tp cs) 0 = some (.tp (cs.drop 0)) := by
 have h2 : szT Tryz.prog 3 = some 1 := by kernel_rfl
 simp [ag, Tryz.underlying49, h2]
theorem y9 {H : Nat → Option VObj} {β o : Nat} : ag Tryz.prog H 49 (.ptr β o) 0 = if (H β).isSome = true then some (.ptr β (o + 0)) else none := by
 have h2 : szT Tryz.prog 3 = some 1 := by kernel_rfl
 simp [ag, Tryz.underlying49, h2]
theorem yA {c0 c1 c2 c3 c4 : VV} : vfield Tryz.prog 49 (.agg [c0, c1, c2, c3, c4]) 0 = some (c0) := by
 have h1 : aggT Tryz.prog 3 = some false := by kernel_rfl
 have h2 : szT Tryz.prog 3 = some 1 := by kernel_rfl
 simp [vfield, Tryz.underlying49, vpart, h1, h2]
theorem yB {H : Nat → Option VObj} {cs : List VV} : ag Tryz.prog H 49 (.tp cs) 1 = some (.tp (cs.drop 1)) := by
 have h2 : szT Tryz.prog 4 = some 1 := by kernel_rfl
 simp [ag, Tryz.underlying49, h2]
theorem yC {H : Nat → Option VObj} {β o : Nat} : ag Tryz.prog H 49 (.ptr β o) 1 = if (H β).isSome = true then some (.ptr β (o + 1)) else none := by
 have h2 : szT Tryz.prog 4 = some 1 := by kernel_rfl
 simp [ag, Tryz.underlying49, h2]
theorem yD {c0 c1 c2 c3 c4 : VV} : vfield Tryz.prog 49 (.agg [c0, c1, c2, c3, c4]) 1 = some (c1) := by
 have h1 : aggT Tryz.prog 4 = some false := by kernel_rfl
 have h2 : szT Tryz.prog 4 = some 1 := by kernel_rfl
 simp [vfield, Tryz.underlying49, vpart, h1, h2]
theorem yE {H : Nat → Option VObj} {cs : List VV} : ag Tryz.prog H 49 (.tp cs) 2 = some (.tp (cs.drop 2)) := by
 have h2 : szT Tryz.prog 35 = some 2 := by kernel_rfl
 simp [ag, Tryz.underlying49, h2]
theorem yF {H : Nat → Option VObj} {β o : Nat} : ag Tryz.prog H 49 (.ptr β o) 2 = if (H β).isSome = true then some (.ptr β (o + 2)) else none := by
 have h2 : szT Tryz.prog 35 = some 2 := by kernel_rfl
 simp [ag, Tryz.underlying49, h2]
theorem yG {c0 c1 c2 c3 c4 : VV} : vfield Tryz.prog 49 (.agg [c0, c1, c2, c3, c4]) 2 = some (.agg [c2, c3]) := by
 have h1 : aggT Tryz.prog 35 = some true := by kernel_rfl
 have h2 : szT Tryz.prog 35 = some 2 := by kernel_rfl
 simp [vfield, Tryz.underlying49, vpart, h1, h2]
theorem yH {H : Nat → Option VObj} {cs : List VV} : ag Tryz.prog H 49 (.tp cs) 3 = some (.tp (cs.drop 4)) := by
 have h2 : szT Tryz.prog 22 = some 1 := by kernel_rfl
 simp [ag, Tryz.underlying49, h2]
theorem yI {H : Nat → Option VObj} {β o : Nat} : ag Tryz.prog H 49 (.ptr β o) 3 = if (H β).isSome = true then some (.ptr β (o + 4)) else none := by
 have h2 : szT Tryz.prog 22 = some 1 := by kernel_rfl
 simp [ag, Tryz.underlying49, h2]
theorem yJ {c0 c1 c2 c3 c4 : VV} : vfield Tryz.prog 49 (.agg [c0, c1, c2, c3, c4]) 3 = some (c4) := by
 have h1 : aggT Tryz.prog 22 = some false := by kernel_rfl
 have h2 : szT Tryz.prog 22 = some 1 := by kernel_rfl
 simp [vfield, Tryz.underlying49, vpart, h1, h2]
theorem yK {c : VV} {cs : List VV} : vload Tryz.prog 51 (c :: cs) = some c := by
 have h1 : aggT Tryz.prog 51 = some false := by kernel_rfl
 simp [vload, vpart, h1]
theorem yL : szT Tryz.prog 51 = some 1 := by kernel_rfl
theorem rN : vzl Tryz.prog 51 = some [.lit (.slice none 0 0)] := by kernel_rfl
theorem rO {H : Nat → Option VObj} {cs : List VV} {n : Nat} {f : Bool} : vlen Tryz.prog H 51 (.sl cs n f) = some (.lit (.int .i64 n)) := by simp [vlen, Tryz.underlying51, sls]
theorem lenN51 {H : Nat → Option VObj} : vlen Tryz.prog H 51 (.lit (.slice none 0 0)) = some (.lit (.int .i64 0)) := by simp [vlen, Tryz.underlying51, sls]
theorem lenR51 {H : Nat → Option VObj} {β off n w c : Nat} : vlen Tryz.prog H 51 (.ref β off n w c) = (match H β with | some (.cells _ cs) => if off ≤ cs.length then some (.lit (.int .i64 n)) else none | _ => none) := lenR Tryz.underlying51
theorem yM : elemT Tryz.prog 51 = some 60 := by simp [elemT, Tryz.underlying51]
theorem yN {xs : List Int} : (aa eI xs).take (xs.length * 1) = aa eI xs := vl (fun _ => rfl)
theorem yO {a0 : VV} (h : leafL [a0] = true) : au Tryz.prog 51 1 [(0, a0)] = some ([a0], 1) := by
 have h2 : szT Tryz.prog 60 = some 1 := by kernel_rfl
 have h3 : vzero Tryz.prog 60 = some #[.int .i64 0] := by kernel_rfl
 simp only [fx, fw, Bool.and_true, Bool.and_eq_true] at h
 simp [au, Tryz.underlying51, h2, h3, vfill, vcells1, h, overwrite, vzeros, List.range_succ]
theorem yP {a0 a1 : VV} (h : leafL [a0, a1] = true) : au Tryz.prog 51 2 [(0, a0), (1, a1)] = some ([a0, a1], 1) := by
 have h2 : szT Tryz.prog 60 = some 1 := by kernel_rfl
 have h3 : vzero Tryz.prog 60 = some #[.int .i64 0] := by kernel_rfl
 simp only [fx, fw, Bool.and_true, Bool.and_eq_true] at h
 simp [au, Tryz.underlying51, h2, h3, vfill, vcells1, h, overwrite, vzeros, List.range_succ]
theorem yQ {a0 a1 a2 : VV} (h : leafL [a0, a1, a2] = true) : au Tryz.prog 51 3 [(0, a0), (1, a1), (2, a2)] = some ([a0, a1, a2], 1) := by
 have h2 : szT Tryz.prog 60 = some 1 := by kernel_rfl
 have h3 : vzero Tryz.prog 60 = some #[.int .i64 0] := by kernel_rfl
 simp only [fx, fw, Bool.and_true, Bool.and_eq_true] at h
 simp [au, Tryz.underlying51, h2, h3, vfill, vcells1, h, overwrite, vzeros, List.range_succ]
theorem yR {c : VV} {cs : List VV} : vload Tryz.prog 60 (c :: cs) = some c := by
 have h1 : aggT Tryz.prog 60 = some false := by kernel_rfl
 simp [vload, vpart, h1]
theorem yS : szT Tryz.prog 60 = some 1 := by kernel_rfl
theorem rP : vzl Tryz.prog 60 = some [.lit (.int .i64 0)] := by kernel_rfl
theorem yT {c0 c1 c2 c3 c4 : VV} {cs : List VV} : vload Tryz.prog 92 (c0 :: c1 :: c2 :: c3 :: c4 :: cs) = some (.agg [c0, c1, c2, c3, c4]) := by
 have h1 : aggT Tryz.prog 92 = some true := by kernel_rfl
 have h2 : szT Tryz.prog 92 = some 5 := by kernel_rfl
 simp [vload, vpart, h1, h2]
theorem yU : szT Tryz.prog 92 = some 5 := by kernel_rfl
theorem mu : vzl Tryz.prog 92 = some [.lit (.int .i64 0), .lit (.slice none 0 0), .lit (.slice none 0 0), .lit (.slice none 0 0), .lit (.map none)] := by kernel_rfl
theorem yV {H : Nat → Option VObj} {cs : List VV} : ag Tryz.prog H 92 (.tp cs) 0 = some (.tp (cs.drop 0)) := by
 have h2 : szT Tryz.prog 25 = some 3 := by kernel_rfl
 simp [ag, Tryz.underlying92, h2]
theorem yW {H : Nat → Option VObj} {β o : Nat} : ag Tryz.prog H 92 (.ptr β o) 0 = if (H β).isSome = true then some (.ptr β (o + 0)) else none := by
 have h2 : szT Tryz.prog 25 = some 3 := by kernel_rfl
 simp [ag, Tryz.underlying92, h2]
theorem yX {c0 c1 c2 c3 c4 : VV} : vfield Tryz.prog 92 (.agg [c0, c1, c2, c3, c4]) 0 = some (.agg [c0, c1, c2]) := by
 have h1 : aggT Tryz.prog 25 = some true := by kernel_rfl
 have h2 : szT Tryz.prog 25 = some 3 := by kernel_rfl
 simp [vfield, Tryz.underlying92, vpart, h1, h2]
theorem yY {H : Nat → Option VObj} {cs : List VV} : ag Tryz.prog H 92 (.tp cs) 1 = some (.tp (cs.drop 3)) := by
 have h2 : szT Tryz.prog 22 = some 1 := by kernel_rfl
 simp [ag, Tryz.underlying92, h2]
theorem yZ {H : Nat → Option VObj} {β o : Nat} : ag Tryz.prog H 92 (.ptr β o) 1 = if (H β).isSome = true then some (.ptr β (o + 3)) else none := by
 have h2 : szT Tryz.prog 22 = some 1 := by kernel_rfl
 simp [ag, Tryz.underlying92, h2]
theorem za {c0 c1 c2 c3 c4 : VV} : vfield Tryz.prog 92 (.agg [c0, c1, c2, c3, c4]) 1 = some (c3) := by
 have h1 : aggT Tryz.prog 22 = some false := by kernel_rfl
 have h2 : szT Tryz.prog 22 = some 1 := by kernel_rfl
 simp [vfield, Tryz.underlying92, vpart, h1, h2]
theorem zb {H : Nat → Option VObj} {cs : List VV} : ag Tryz.prog H 92 (.tp cs) 2 = some (.tp (cs.drop 4)) := by
 have h2 : szT Tryz.prog 90 = some 1 := by kernel_rfl
 simp [ag, Tryz.underlying92, h2]
theorem zc {H : Nat → Option VObj} {β o : Nat} : ag Tryz.prog H 92 (.ptr β o) 2 = if (H β).isSome = true then some (.ptr β (o + 4)) else none := by
 have h2 : szT Tryz.prog 90 = some 1 := by kernel_rfl
 simp [ag, Tryz.underlying92, h2]
theorem zd {c0 c1 c2 c3 c4 : VV} : vfield Tryz.prog 92 (.agg [c0, c1, c2, c3, c4]) 2 = some (c4) := by
 have h1 : aggT Tryz.prog 90 = some false := by kernel_rfl
 have h2 : szT Tryz.prog 90 = some 1 := by kernel_rfl
 simp [vfield, Tryz.underlying92, vpart, h1, h2]
theorem rQ {c0 c1 : VV} {cs : List VV} : vload Tryz.prog 152 (c0 :: c1 :: cs) = some (.agg [c0, c1]) := by
 have h1 : aggT Tryz.prog 152 = some true := by kernel_rfl
 have h2 : szT Tryz.prog 152 = some 2 := by kernel_rfl
 simp [vload, vpart, h1, h2]
theorem rR : szT Tryz.prog 152 = some 2 := by kernel_rfl
theorem j1 : vzl Tryz.prog 152 = some [.lit (.int .i64 0), .lit (.int .i64 0)] := by kernel_rfl
theorem ze {H : Nat → Option VObj} {cs : List VV} : ag Tryz.prog H 152 (.tp cs) 0 = some (.tp (cs.drop 0)) := by
 have h2 : szT Tryz.prog 3 = some 1 := by kernel_rfl
 simp [ag, Tryz.underlying152, h2]
theorem zf {H : Nat → Option VObj} {β o : Nat} : ag Tryz.prog H 152 (.ptr β o) 0 = if (H β).isSome = true then some (.ptr β (o + 0)) else none := by
 have h2 : szT Tryz.prog 3 = some 1 := by kernel_rfl
 simp [ag, Tryz.underlying152, h2]
theorem zg {c0 c1 : VV} : vfield Tryz.prog 152 (.agg [c0, c1]) 0 = some (c0) := by
 have h1 : aggT Tryz.prog 3 = some false := by kernel_rfl
 have h2 : szT Tryz.prog 3 = some 1 := by kernel_rfl
 simp [vfield, Tryz.underlying152, vpart, h1, h2]
theorem zh {H : Nat → Option VObj} {cs : List VV} : ag Tryz.prog H 152 (.tp cs) 1 = some (.tp (cs.drop 1)) := by
 have h2 : szT Tryz.prog 3 = some 1 := by kernel_rfl
 simp [ag, Tryz.underlying152, h2]
theorem zi {H : Nat → Option VObj} {β o : Nat} : ag Tryz.prog H 152 (.ptr β o) 1 = if (H β).isSome = true then some (.ptr β (o + 1)) else none := by
 have h2 : szT Tryz.prog 3 = some 1 := by kernel_rfl
 simp [ag, Tryz.underlying152, h2]
theorem zj {c0 c1 : VV} : vfield Tryz.prog 152 (.agg [c0, c1]) 1 = some (c1) := by
 have h1 : aggT Tryz.prog 3 = some false := by kernel_rfl
 have h2 : szT Tryz.prog 3 = some 1 := by kernel_rfl
 simp [vfield, Tryz.underlying152, vpart, h1, h2]
theorem rS {c : VV} {cs : List VV} : vload Tryz.prog 156 (c :: cs) = some c := by
 have h1 : aggT Tryz.prog 156 = some false := by kernel_rfl
 simp [vload, vpart, h1]
theorem rT : szT Tryz.prog 156 = some 1 := by kernel_rfl
theorem np : vzl Tryz.prog 156 = some [.lit (.int .i64 0)] := by kernel_rfl
theorem rU : szT Tryz.prog 153 = some 1 := by kernel_rfl
theorem rV {c : VV} {cs : List VV} : vload Tryz.prog 153 (c :: cs) = some c := by
 have h1 : aggT Tryz.prog 153 = some false := by kernel_rfl
 simp [vload, vpart, h1]
theorem nq : vzl Tryz.prog 153 = some [.lit .nilFunc] := by kernel_rfl
theorem rW : szT Tryz.prog 154 = some 2 := by kernel_rfl
theorem j2 : vzl Tryz.prog 154 = some [.lit .nilFunc, .lit .nilFunc] := by kernel_rfl
theorem rX {c0 c1 : VV} {cs : List VV} : vload Tryz.prog 154 (c0 :: c1 :: cs) = some (.agg [c0, c1]) := by
 have h1 : aggT Tryz.prog 154 = some true := by kernel_rfl
 have h2 : szT Tryz.prog 154 = some 2 := by kernel_rfl
 simp [vload, vpart, h1, h2]
theorem zk {c0 c1 : VV} {k : IntKind} : vindex Tryz.prog 154 (.agg [c0, c1]) (.lit (.int k 0)) = some c0 := by
 have h1 : aggT Tryz.prog 153 = some false := by kernel_rfl
 have h2 : szT Tryz.prog 153 = some 1 := by kernel_rfl
 simp [vindex, Tryz.underlying154, vpart, h1, h2]
theorem zl {H : Nat → Option VObj} {β o : Nat} {k : IntKind} : av Tryz.prog H 154 (.ptr β o) (.lit (.int k 0)) = if (H β).isSome = true then some (.ptr β (o + 0)) else none := by
 have h2 : szT Tryz.prog 153 = some 1 := by kernel_rfl
 simp [av, Tryz.underlying154, h2]
theorem zm {c0 c1 : VV} {k : IntKind} : vindex Tryz.prog 154 (.agg [c0, c1]) (.lit (.int k 1)) = some c1 := by
 have h1 : aggT Tryz.prog 153 = some false := by kernel_rfl
 have h2 : szT Tryz.prog 153 = some 1 := by kernel_rfl
 simp [vindex, Tryz.underlying154, vpart, h1, h2]
theorem zn {H : Nat → Option VObj} {β o : Nat} {k : IntKind} : av Tryz.prog H 154 (.ptr β o) (.lit (.int k 1)) = if (H β).isSome = true then some (.ptr β (o + 1)) else none := by
 have h2 : szT Tryz.prog 153 = some 1 := by kernel_rfl
 simp [av, Tryz.underlying154, h2]
theorem zo : vbuild Tryz.prog 35 [] = some (.agg [.lit (.int .i64 0), .lit (.int .i64 0)]) := by
 rw [rY j0 (by kernel_rfl)]
 rfl
theorem zp {bU cu : VV} (h : leafL [bU, cu] = true) : vbuild Tryz.prog 35 [(0, bU), (1, cu)] = some (.agg [bU, cu]) := by
 have p0 : placeT Tryz.prog 35 0 = some (0, 1) := by kernel_rfl
 have p1 : placeT Tryz.prog 35 1 = some (1, 1) := by kernel_rfl
 simp only [fx, fw, Bool.and_true, Bool.and_eq_true] at h
 rw [rY j0 (by kernel_rfl)]
 simp [vfill, p0, p1, vcells1, h, overwrite]
theorem LK {bU j3 j4 cu nr : VV} (h : leafL [bU, j3, j4, cu, nr] = true) : vbuild Tryz.prog 92 [(0, .agg [bU, j3, j4]), (1, cu), (2, nr)] = some (.agg [bU, j3, j4, cu, nr]) := by
 have p0 : placeT Tryz.prog 92 0 = some (0, 3) := by kernel_rfl
 have p1 : placeT Tryz.prog 92 1 = some (3, 1) := by kernel_rfl
 have p2 : placeT Tryz.prog 92 2 = some (4, 1) := by kernel_rfl
 simp only [fx, fw, Bool.and_true, Bool.and_eq_true] at h
 have q0 : aJ (.agg [bU, j3, j4]) = some [bU, j3, j4] := by rw [HX]; simp [fx, fw, h]
 rw [rY mu (by kernel_rfl)]
 simp [vfill, p0, p1, p2, vcells1, h, overwrite, q0]
theorem zq {bU cu : VV} (h : leafL [bU, cu] = true) : vbuild Tryz.prog 152 [(0, bU), (1, cu)] = some (.agg [bU, cu]) := by
 have p0 : placeT Tryz.prog 152 0 = some (0, 1) := by kernel_rfl
 have p1 : placeT Tryz.prog 152 1 = some (1, 1) := by kernel_rfl
 simp only [fx, fw, Bool.and_true, Bool.and_eq_true] at h
 rw [rY j1 (by kernel_rfl)]
 simp [vfill, p0, p1, vcells1, h, overwrite]
theorem zr {bU cu : VV} (h : leafL [bU, cu] = true) : vbuild Tryz.prog 154 [(0, bU), (1, cu)] = some (.agg [bU, cu]) := by
 have p0 : placeT Tryz.prog 154 0 = some (0, 1) := by kernel_rfl
 have p1 : placeT Tryz.prog 154 1 = some (1, 1) := by kernel_rfl
 simp only [fx, fw, Bool.and_true, Bool.and_eq_true] at h
 rw [rY j2 (by kernel_rfl)]
 simp [vfill, p0, p1, vcells1, h, overwrite]
theorem LL {H : Nat → Option VObj} {x y : Operand} {a b : Bool} : binV Tryz.prog H .eql 4 x y (.lit (.bool a)) (.lit (.bool b)) = some (.lit (.bool (a == b))) := zt Tryz.underlying4
theorem LM {H : Nat → Option VObj} {x y : Operand} {a b : Bool} : binV Tryz.prog H .neq 4 x y (.lit (.bool a)) (.lit (.bool b)) = some (.lit (.bool (a != b))) := zu Tryz.underlying4
theorem rZ {H : Nat → Option VObj} {x y : Operand} {a0 b0 : Int} {a1 b1 : Int} : binV Tryz.prog H .eql 35 x y (.agg [.lit (.int .i64 a0), .lit (.int .i64 a1)]) (.agg [.lit (.int .i64 b0), .lit (.int .i64 b1)]) = some (.lit (.bool (a0 == b0 && (a1 == b1)))) ∧ binV Tryz.prog H .neq 35 x y (.agg [.lit (.int .i64 a0), .lit (.int .i64 a1)]) (.agg [.lit (.int .i64 b0), .lit (.int .i64 b1)]) = some (.lit (.bool (!(a0 == b0 && (a1 == b1))))) := by
 refine binS (xs := [.int .i64 a0, .int .i64 a1]) (ys := [.int .i64 b0, .int .i64 b1]) (by simp [VV.val?, valL?]) (by simp [VV.val?, valL?]) Tryz.underlying35 (by kernel_rfl) (by kernel_rfl) ?_
 simp [eqF, j5, eq1, Tryz.underlying3]
theorem zw {H : Nat → Option VObj} {x y : Operand} {a0 b0 : Int} {a1 b1 : Int} : binV Tryz.prog H .eql 35 x y (.agg [.lit (.int .i64 a0), .lit (.int .i64 a1)]) (.agg [.lit (.int .i64 b0), .lit (.int .i64 b1)]) = some (.lit (.bool (a0 == b0 && (a1 == b1)))) := rZ.1
theorem zx {H : Nat → Option VObj} {x y : Operand} {a0 b0 : Int} {a1 b1 : Int} : binV Tryz.prog H .neq 35 x y (.agg [.lit (.int .i64 a0), .lit (.int .i64 a1)]) (.agg [.lit (.int .i64 b0), .lit (.int .i64 b1)]) = some (.lit (.bool (!(a0 == b0 && (a1 == b1))))) := rZ.2
theorem zy : (VV.lit Value.nilFunc).leaf = true := rfl
theorem zz : (VV.lit Value.nilIface).leaf = true := rfl
def tyf := (And.intro (And.intro (And.intro (And.intro (And.intro (And.intro (And.intro @nn @qi) (And.intro @rB @vk)) (And.intro (And.intro @LB @LC) (And.intro @xH (And.intro @LD @LF)))) (And.intro (And.intro (And.intro @xI @LG) (And.intro @LH @xJ)) (And.intro (And.intro @LI @LJ) (And.intro @xK (And.intro @xL @xM))))) (And.intro (And.intro (And.intro (And.intro @rC @rD) (And.intro @lenN22 @lenR22)) (And.intro (And.intro @ct @xN) (And.intro @xO (And.intro @xP @xQ)))) (And.intro (And.intro (And.intro @xR @xS) (And.intro @rE (And.intro @rF @lenN23))) (And.intro (And.intro @lenR23 @xT) (And.intro @xV (And.intro @xX @xY)))))) (And.intro (And.intro (And.intro (And.intro (And.intro @xZ @rG) (And.intro @ya @yb)) (And.intro (And.intro @yc @yd) (And.intro @ye (And.intro @yf @yg)))) (And.intro (And.intro (And.intro @yh @yi) (And.intro @yj @yk)) (And.intro (And.intro @rH @ym) (And.intro @yn (And.intro @rI @rJ))))) (And.intro (And.intro (And.intro (And.intro @lenN31 @lenR31) (And.intro @kT @yo)) (And.intro (And.intro @yp @yq) (And.intro @yr (And.intro @j0 @yu)))) (And.intro (And.intro (And.intro @yv @yw) (And.intro @yx (And.intro @yy @yz))) (And.intro (And.intro @y6 @y7) (And.intro @rM (And.intro @y8 @y9))))))) (And.intro (And.intro (And.intro (And.intro (And.intro (And.intro @yA @yB) (And.intro @yC @yD)) (And.intro (And.intro @yE @yF) (And.intro @yG (And.intro @yH @yI)))) (And.intro (And.intro (And.intro @yJ @yK) (And.intro @yL @rN)) (And.intro (And.intro @rO @lenN51) (And.intro @lenR51 (And.intro @yM @yN))))) (And.intro (And.intro (And.intro (And.intro @yO @yP) (And.intro @yQ @yR)) (And.intro (And.intro @yS @rP) (And.intro @yT (And.intro @yU @mu)))) (And.intro (And.intro (And.intro @yV @yW) (And.intro @yX (And.intro @yY @yZ))) (And.intro (And.intro @za @zb) (And.intro @zc (And.intro @zd @rQ)))))) (And.intro (And.intro (And.intro (And.intro (And.intro @rR @j1) (And.intro @ze @zf)) (And.intro (And.intro @zg @zh) (And.intro @zi (And.intro @zj @rS)))) (And.intro (And.intro (And.intro @rT @np) (And.intro @rU (And.intro @rV @nq))) (And.intro (And.intro @rW @j2) (And.intro @rX (And.intro @zk @zl))))) (And.intro (And.intro (And.intro (And.intro @zm @zn) (And.intro @zo @zp)) (And.intro (And.intro @LK @zq) (And.intro @zr (And.intro @LL @LM)))) (And.intro (And.intro (And.intro @zw @zx) (And.intro @zy (And.intro @zz @LN))) (And.intro (And.intro @eI_eq @kR) (And.intro @eB_eq (And.intro @eS_eq @kS))))))))
def tynrm := (And.intro (And.intro (And.intro (And.intro @dr.norm @dr.normL) (And.intro @dr.shown @dr.showL)) (And.intro (And.intro @fm.norm @fm.normL) (And.intro @fm.shown @fm.showL))) (And.intro (And.intro (And.intro @jn.norm @jn.normL) (And.intro @jn.shown @jn.showL)) (And.intro (And.intro @qj.norm @qj.normL) (And.intro @qj.shown @qj.showL))))
def tytre := (And.intro (And.intro (And.intro @dr.tree @dr.treeL) (And.intro @fm.tree @fm.treeL)) (And.intro (And.intro @jn.tree @jn.treeL) (And.intro @qj.tree @qj.treeL)))
end Go.V
namespace Go.V
open Go Go.Proofs IntKind
theorem ktA {P : Program} {G : Glob} {d : Option Tmp} {γ : Nat} {tm : Nat → VV} {H : Nat → Option VObj} {nx : Nat} {df : List VDef} {K : St → Prop} {Qp : VV → St → Prop} {f : FuncId} {args args0 : List VV} {x : VV} (hp : ah P G f args0 (.tree x)) (h : fin d γ tm H nx df K x .none) (hn : normL args = args0 := by first | (simp only [nrm, tynrm] <;> rfl) | rfl) (ht : treeL args = true := by simp only [tre, tytre, Bool.and_self]) : callK P G f args ⟨tm, H, nx, df⟩ d γ K Qp := ktree hn ht hp h
theorem dktA {P : Program} {G : Glob} {d : Option Tmp} {γ : Nat} {tm : Nat → VV} {H : Nat → Option VObj} {nx : Nat} {df : List VDef} {K : List Nat → List Nat → St → Prop} {f : FuncId} {args args0 : List VV} {x : VV} (hp : ah P G f args0 (.tree x)) (h : fin d γ tm H nx df (K [] []) x .none) (hn : normL args = args0 := by first | (simp only [nrm, tynrm] <;> rfl) | rfl) (ht : treeL args = true := by simp only [tre, tytre, Bool.and_self]) : dcallK P G f args tm H nx df d γ K := dktree hn ht hp h
theorem optI {α β : Type} {K : Option β → Prop} {X : Option α} {F : α → Option β} (h : K (Option.bind X F)) (kN : ¬ K none) : ∃ r, X = some r ∧ K (F r) := by
  cases X with
  | none => exact absurd h kN
  | some r => exact ⟨r, rfl, h⟩
end Go.V
end
section
namespace Go.V
open Go Go.Proofs IntKind
def Dec (P : Program) (n : Nat) (t : TypeId) {α : Type} (enc : α → List VV) (R : α → Prop) : Prop := ∀ xs, ShapeT P n t xs → ∃ x : α, R x ∧ normL xs = enc x
theorem z5 {P : Program} {n : Nat} {t : TypeId} (hu : P.underlying t = some (.int .i64)) : Dec P (n + 1) t eI (fun _ => True) := by
 intro xs h
 simp only [ShapeT, hu] at h
 obtain ⟨i, _, rfl⟩ := h
 exact ⟨i, trivial, by simp only [nt, nu, HY, eI]⟩
theorem z6 {P : Program} {n : Nat} {t : TypeId} (hu : P.underlying t = some .bool) : Dec P (n + 1) t eB (fun _ => True) := by
 intro xs h
 simp only [ShapeT, hu] at h
 obtain ⟨b, rfl⟩ := h
 exact ⟨b, trivial, by simp only [nt, nu, wX, eB]⟩
theorem HZ {P : Program} {n : Nat} {t : TypeId} {α : Type} {enc : α → List VV} {R : α → Prop} (h : Dec P n t enc R) : ∀ yss : List (List VV), (∀ ys ∈ yss, ShapeT P n t ys) → ∃ l : List α, l.length = yss.length ∧ (∀ x ∈ l, R x) ∧ normL yss.flatten = aa enc l
 | [], _ => ⟨[], rfl, fun _ hx => (by cases hx), rfl⟩
 | ys :: yss, hs => by
  obtain ⟨x, hx, e⟩ := h ys (hs ys (List.mem_cons_self ..))
  obtain ⟨l, h1, h2, h3⟩ := HZ h yss (fun y hy => hs y (List.mem_cons_of_mem _ hy))
  refine ⟨x :: l, by simp [h1], fun y hy => ?_, by rw [List.flatten_cons, qk, e, h3, fy]⟩
  rcases List.mem_cons.1 hy with rfl | hy
  ·exact hx
  ·exact h2 y hy
theorem Ia {P : Program} {n : Nat} {t e : TypeId} {α : Type} {enc : α → List VV} {R : α → Prop} (hu : P.underlying t = some (.slice e)) (h : Dec P n e enc R) : Dec P (n + 1) t (fun l : List α => [.sl (aa enc l) l.length false]) (fun l => aH l = true ∧ ∀ x ∈ l, R x) := by
 intro xs hs
 simp only [ShapeT, hu] at hs
 rcases hs with rfl | ⟨yss, hl, hall, rfl⟩
 ·exact ⟨[], ⟨rfl, fun _ hx => (by cases hx)⟩, by simp only [nt, nu, Ib]; rfl⟩
 ·obtain ⟨l, h1, h2, h3⟩ := HZ h yss hall
  refine ⟨l, ⟨?_, h2⟩, by simp only [nt, nu, sa, h3, h1]⟩
  have : maxLen = 9223372036854775807 := by decide
  unfold aH
  exact decide_eq_true (by omega)
theorem z7 {P : Program} {n : Nat} {t : TypeId} {fs : Array Field} {xs : List VV} (hu : P.underlying t = some (.struct fs)) (h : ShapeT P (n + 1) t xs) : ∃ yss, FieldsS (ShapeT P n) fs.toList yss ∧ xs = yss.flatten := by
 simp only [ShapeT, hu] at h
 exact h
def TypesS (S : TypeId → List VV → Prop) : List TypeId → List (List VV) → Prop
 | [], [] => True
 | t :: ts, ys :: yss => S t ys ∧ TypesS S ts yss
 | _, _ => False
theorem sb {S : TypeId → List VV → Prop} : ∀ (fs : List Field) (yss : List (List VV)), FieldsS S fs yss → TypesS S (fs.map Field.type) yss
 | [], [], _ => trivial
 | f :: fs, ys :: yss, ⟨h1, h2⟩ => ⟨h1, sb fs yss h2⟩
 | [], _ :: _, h => h
 | _ :: _, [], h => h
theorem z8 {P : Program} {n : Nat} {t : TypeId} {fs : Array Field} {ts : List TypeId} {xs : List VV} (hu : P.underlying t = some (.struct fs)) (ht : fs.toList.map Field.type = ts) (h : ShapeT P (n + 1) t xs) : ∃ yss, TypesS (ShapeT P n) ts yss ∧ xs = yss.flatten := by
 obtain ⟨yss, h1, h2⟩ := z7 hu h
 exact ⟨yss, ht ▸ sb _ _ h1, h2⟩
theorem z9 {P : Program} {n : Nat} {t : TypeId} {ts : List TypeId} {xs : List VV} (h : ArgsS P n (t :: ts) xs) : ∃ x xs', xs = x :: xs' ∧ ArgS P n t x ∧ ArgsS P n ts xs' := by
 match xs, h with
 | x :: xs', h => exact ⟨x, xs', rfl, h.1, h.2⟩
theorem zA {P : Program} {n : Nat} {xs : List VV} (h : ArgsS P n [] xs) : xs = [] := by
 match xs, h with
 | [], _ => rfl
theorem LO {P : Program} {n : Nat} {t : TypeId} {fs : Array Field} {x : VV} {α : Type} {enc : α → List VV} {R : α → Prop} (hu : P.underlying t = some (.struct fs)) (hd : Dec P n t enc R) (h : ArgS P n t x) : ∃ s, R s ∧ normV x = .agg (enc s) := by
 obtain ⟨ys, h1, h2⟩ := h
 rw [hu] at h2
 obtain rfl : x = .agg ys := h2
 obtain ⟨s, hs, e⟩ := hd ys h1
 exact ⟨s, hs, by rw [Ic, e]⟩
theorem Ie {P : Program} {n : Nat} {t : TypeId} {d : TypeDesc} {x : VV} {α : Type} {enc : α → List VV} {R : α → Prop} (hu : P.underlying t = some d) (hn : (∀ fs, d ≠ .struct fs) ∧ ∀ m e, d ≠ .array m e) (hd : Dec P n t enc R) (h : ArgS P n t x) : ∃ s, R s ∧ [normV x] = enc s := by
 obtain ⟨ys, h1, h2⟩ := h
 rw [hu] at h2
 have h3 : ys = [x] := by
  cases d <;> first | exact h2 | exact absurd rfl (hn.1 _) | exact absurd rfl (hn.2 _ _)
 subst h3
 obtain ⟨s, hs, e⟩ := hd _ h1
 exact ⟨s, hs, by rw [← e, nt, nu]⟩
end Go.V
end
section
set_option maxRecDepth 100000
namespace Go.V
open Go Go.Proofs IntKind
def zB (x : GBs) : Prop := aH x.Needs = true
def Ig (x : GBk) : Prop := aH x.Boards = true ∧ aH x.Strokes = true ∧ ∀ y ∈ x.Strokes, zB y
section
variable {P : Program} (fz : P.underlying 3 = some (.int .i64)) (cO : P.underlying 22 = some (.slice 3)) (hU : P.underlying 4 = some (.bool)) {Ih : Array Field} (cP : P.underlying 35 = some (.struct Ih)) (cQ : Ih.toList.map Field.type = [3, 3]) {Ii : Array Field} (cR : P.underlying 49 = some (.struct Ii)) (cS : Ii.toList.map Field.type = [3, 4, 35, 22]) (cT : P.underlying 23 = some (.slice 49)) {Ij : Array Field} (cU : P.underlying 25 = some (.struct Ij)) (cV : Ij.toList.map Field.type = [3, 22, 23])
include fz cO hU cP cQ cR cS cT cU cV
theorem gd_3 {n : Nat} : Dec P (n + 1) 3 eI (fun _ => True) := z5 fz
theorem gd_22 {n : Nat} : Dec P (n + 2) 22 (eSl eI) (fun l => aH l = true ∧ ∀ x ∈ l, True) := Ia cO (gd_3 fz cO hU cP cQ cR cS cT cU cV (n := n))
theorem gd_4 {n : Nat} : Dec P (n + 1) 4 eB (fun _ => True) := z6 hU
theorem gd_35 {n : Nat} : Dec P (n + 2) 35 aj (fun _ => True) := by
 intro xs h
 obtain ⟨yss, hf, rfl⟩ := z8 (n := n + 1) (ts := [3, 3]) cP cQ h
 match yss, hf with
 | [y0, y1], ⟨h0, h1, _⟩ =>
  obtain ⟨x0, r0, e0⟩ := gd_3 fz cO hU cP cQ cR cS cT cU cV (n := n + 0) _ h0
  obtain ⟨x1, r1, e1⟩ := gd_3 fz cO hU cP cQ cR cS cT cU cV (n := n + 0) _ h1
  exact ⟨⟨x0, x1⟩, trivial, by simp only [List.flatten_cons, List.flatten_nil, List.append_nil, qk, e0, e1, eI, nv, eB, eS, eSl, nn, List.cons_append, List.nil_append]⟩
theorem gd_49 {n : Nat} : Dec P (n + 3) 49 cGBs (zB) := by
 intro xs h
 obtain ⟨yss, hf, rfl⟩ := z8 (n := n + 2) (ts := [3, 4, 35, 22]) cR cS h
 match yss, hf with
 | [y0, y1, y2, y3], ⟨h0, h1, h2, h3, _⟩ =>
  obtain ⟨x0, r0, e0⟩ := gd_3 fz cO hU cP cQ cR cS cT cU cV (n := n + 1) _ h0
  obtain ⟨x1, r1, e1⟩ := gd_4 fz cO hU cP cQ cR cS cT cU cV (n := n + 1) _ h1
  obtain ⟨x2, r2, e2⟩ := gd_35 fz cO hU cP cQ cR cS cT cU cV (n := n + 0) _ h2
  obtain ⟨x3, r3, e3⟩ := gd_22 fz cO hU cP cQ cR cS cT cU cV (n := n + 0) _ h3
  exact ⟨⟨x0, x1, x2, x3⟩, r3.1, by simp only [List.flatten_cons, List.flatten_nil, List.append_nil, qk, e0, e1, e2, e3, eI, nv, eB, eS, eSl, qi, nn, List.cons_append, List.nil_append]⟩
theorem gd_23 {n : Nat} : Dec P (n + 4) 23 (eSl cGBs) (fun l => aH l = true ∧ ∀ x ∈ l, zB x) := Ia cT (gd_49 fz cO hU cP cQ cR cS cT cU cV (n := n))
theorem gd_25 {n : Nat} : Dec P (n + 5) 25 cGBk (Ig) := by
 intro xs h
 obtain ⟨yss, hf, rfl⟩ := z8 (n := n + 4) (ts := [3, 22, 23]) cU cV h
 match yss, hf with
 | [y0, y1, y2], ⟨h0, h1, h2, _⟩ =>
  obtain ⟨x0, r0, e0⟩ := gd_3 fz cO hU cP cQ cR cS cT cU cV (n := n + 3) _ h0
  obtain ⟨x1, r1, e1⟩ := gd_22 fz cO hU cP cQ cR cS cT cU cV (n := n + 2) _ h1
  obtain ⟨x2, r2, e2⟩ := gd_23 fz cO hU cP cQ cR cS cT cU cV (n := n + 0) _ h2
  exact ⟨⟨x0, x1, x2⟩, ⟨r1.1, r2.1, r2.2⟩, by simp only [List.flatten_cons, List.flatten_nil, List.append_nil, qk, e0, e1, e2, eI, nv, eB, eS, eSl, rB, List.cons_append, List.nil_append]⟩
end
theorem sc {n : Nat} : Dec Tryz.prog (n + 2) 22 (eSl eI) (fun l => aH l = true ∧ ∀ x ∈ l, True) := gd_22 Tryz.underlying3 Tryz.underlying22 Tryz.underlying4 Tryz.underlying35 (by kernel_rfl) Tryz.underlying49 (by kernel_rfl) Tryz.underlying23 Tryz.underlying25 (by kernel_rfl)
theorem zC {n : Nat} : Dec Tryz.prog (n + 5) 25 cGBk (Ig) := gd_25 Tryz.underlying3 Tryz.underlying22 Tryz.underlying4 Tryz.underlying35 (by kernel_rfl) Tryz.underlying49 (by kernel_rfl) Tryz.underlying23 Tryz.underlying25 (by kernel_rfl)
end Go.V
end
section
namespace Go.V
open Go Go.Proofs IntKind
def goB (b : Bool) : Option (LOut Bool Unit) := cond b (some (.go ())) (some (.ret false))
theorem mw (a b : Bool) : goB (a && b) = cond a (goB b) (some (.ret false)) := by cases a <;> rfl
theorem csome (a b : Bool) : cond a (some b) (some false) = some (a && b) := by cases a <;> rfl
theorem kU {X : Type} (b : Bool) (kr : Bool → Option X) (kg : Unit → Option X) (kb : Nat → Unit → Option X) : lbind (goB b) kr kg kb = cond b (kg ()) (kr false) := by cases b <;> rfl
def inB (a b n : Int) : Bool := decide (a ≤ n) && decide (n ≤ b)
theorem vr {a b n : Int} : inB a b n = true ↔ a ≤ n ∧ n ≤ b := by simp [inB]
theorem j6 {n : Int} (h1 : -9223372036854775808 ≤ n) (h2 : n < 9223372036854775808) : i64.wrap n = n := IntWalk.i64_in _ (by omega)
theorem zD {α : Type} {xs : List α} (h : aH xs = true) : xs.length < 9223372036854775808 := by simpa [aH] using h
theorem fQ {α : Type} {xs : List α} (h : xs.length < 9223372036854775808) : aH xs = true := by simpa [aH] using h
theorem zE {α : Type} {xs : List α} {i : Int} {x : α} (h : getI xs i = some x) : x ∈ xs := by
 unfold getI at h
 split at h
 ·exact List.mem_of_getElem? h
 ·cases h
theorem nw {α : Type} {xs : List α} {i : Int} {x : α} (h : getI xs i = some x) : 0 ≤ i ∧ i < xs.length := ⟨(my h).1, (my h).2.1⟩
end Go.V
end
section
namespace Go.V
def mxL (l : List Int) : Int := l.foldl max 0
theorem Ik : ∀ (l : List Int) (a b : Int), l.foldl max a ≤ b ↔ a ≤ b ∧ ∀ x ∈ l, x ≤ b
 | [], a, b => by simp
 | x :: l, a, b => by
  simp only [List.foldl_cons, Ik l, List.mem_cons, forall_eq_or_imp]
  constructor
  ·rintro ⟨h1, h2⟩; exact ⟨by omega, by omega, h2⟩
  ·rintro ⟨h1, h2, h3⟩; exact ⟨by omega, h3⟩
theorem kV {l : List Int} {b : Int} : mxL l ≤ b ↔ 0 ≤ b ∧ ∀ x ∈ l, x ≤ b := Ik l 0 b
theorem sd (l : List Int) : 0 ≤ mxL l := (kV.1 (Int.le_refl _)).1
theorem se {l : List Int} {x : Int} (h : x ∈ l) : x ≤ mxL l := (kV.1 (Int.le_refl _)).2 x h
def frF (hd : Nat → Int) (e : Nat → Int) (h : Int) : Nat → Int
 | 0 => 0
 | k + 1 => if hd k = h then e k else frF hd e h k
theorem Il {hd : Nat → Int} {e e' : Nat → Int} {h : Int} : ∀ {n : Nat}, (∀ k, k < n → e k = e' k) → frF hd e h n = frF hd e' h n
 | 0, _ => rfl
 | n + 1, hk => by
  unfold frF
  rw [hk n (Nat.lt_succ_self _), Il (fun k h => hk k (Nat.lt_succ_of_lt h))]
theorem sf {hd : Nat → Int} {e : Nat → Int} {h b : Int} (hb : 0 ≤ b) : ∀ {n : Nat}, (∀ k, k < n → hd k = h → e k ≤ b) → frF hd e h n ≤ b
 | 0, _ => hb
 | n + 1, hk => by
  unfold frF
  split
  ·rename_i hh; exact hk n (Nat.lt_succ_self _) hh
  ·exact sf hb (fun k h1 h2 => hk k (Nat.lt_succ_of_lt h1) h2)
theorem Im {hd : Nat → Int} {e e' : Nat → Int} {h : Int} : ∀ {n : Nat}, (∀ k, k < n → e k ≤ e' k) → frF hd e h n ≤ frF hd e' h n
 | 0, _ => Int.le_refl _
 | n + 1, hk => by
  unfold frF
  split
  ·exact hk n (Nat.lt_succ_self _)
  ·exact Im (fun k h => hk k (Nat.lt_succ_of_lt h))
def bgF (hd : Nat → Int) (nd : Nat → List Int) (e : Nat → Int) (s : Nat) : Int := max (max 0 (frF hd e (hd s) s)) (mxL ((nd s).map fun k => e k.toNat))
def En (hd : Nat → Int) (nd : Nat → List Int) (d : Nat → Int) : Nat → Nat → Int
 | 0, _ => 0
 | f + 1, s => bgF hd nd (En hd nd d f) s + d s
def NdOk (nd : Nat → List Int) : Prop := ∀ s, ∀ k ∈ nd s, 0 ≤ k ∧ k.toNat < s
theorem Io {hd : Nat → Int} {nd : Nat → List Int} {e e' : Nat → Int} {s : Nat} (hn : NdOk nd) (h : ∀ k, k < s → e k = e' k) : bgF hd nd e s = bgF hd nd e' s := by
 unfold bgF
 rw [Il h]
 congr 2
 exact List.map_congr_left fun k hk => h _ (hn s k hk).2
theorem sg {hd : Nat → Int} {nd : Nat → List Int} {d : Nat → Int} (hn : NdOk nd) : ∀ (f g s : Nat), s < f → s < g → En hd nd d f s = En hd nd d g s
 | 0, _, _, h, _ => absurd h (Nat.not_lt_zero _)
 | _ + 1, 0, _, _, h => absurd h (Nat.not_lt_zero _)
 | f + 1, g + 1, s, h1, h2 => by
  unfold En
  rw [Io hn (e' := En hd nd d g) (fun k hk => sg hn f g k (by omega) (by omega))]
def Ed (hd : Nat → Int) (nd : Nat → List Int) (d : Nat → Int) (s : Nat) : Int := En hd nd d (s + 1) s
def Bg (hd : Nat → Int) (nd : Nat → List Int) (d : Nat → Int) (s : Nat) : Int := bgF hd nd (Ed hd nd d) s
theorem Ed_eq {hd : Nat → Int} {nd : Nat → List Int} {d : Nat → Int} (hn : NdOk nd) (s : Nat) : Ed hd nd d s = Bg hd nd d s + d s := by
 show bgF hd nd (En hd nd d s) s + d s = _
 rw [Io hn (e' := Ed hd nd d) (fun k hk => sg hn s (k + 1) k hk (Nat.lt_succ_self _))]
 rfl
theorem zF (hd : Nat → Int) (nd : Nat → List Int) (e : Nat → Int) (s : Nat) : 0 ≤ bgF hd nd e s := by
 have := sd ((nd s).map fun k => e k.toNat)
 unfold bgF
 omega
section
variable {hd : Nat → Int} {nd : Nat → List Int} {d d' : Nat → Int}
theorem Bg_nn (s : Nat) : 0 ≤ Bg hd nd d s := zF _ _ _ _
theorem Ed_nn (hn : NdOk nd) (h : ∀ k, 0 ≤ d k) (s : Nat) : 0 ≤ Ed hd nd d s := by
 rw [Ed_eq hn]
 have := Bg_nn (hd := hd) (nd := nd) (d := d) s
 have := h s
 omega
theorem zG {e e' : Nat → Int} {s : Nat} (hn : NdOk nd) (h : ∀ k, k < s → e k ≤ e' k) : bgF hd nd e s ≤ bgF hd nd e' s := by
 have h1 := Im (hd := hd) (h := hd s) (n := s) h
 have h2 : mxL ((nd s).map fun k => e k.toNat) ≤ mxL ((nd s).map fun k => e' k.toNat) := by
  refine kV.2 ⟨sd _, ?_⟩
  intro x hx
  obtain ⟨k, hk, rfl⟩ := List.mem_map.1 hx
  exact Int.le_trans (h _ (hn s k hk).2) (se (List.mem_map_of_mem (f := fun k : Int => e' k.toNat) hk))
 unfold bgF
 omega
theorem sh (hn : NdOk nd) : ∀ (f s : Nat), s < f → (∀ k, k ≤ s → d k ≤ d' k) → Ed hd nd d s ≤ Ed hd nd d' s
 | 0, _, h, _ => absurd h (Nat.not_lt_zero _)
 | f + 1, s, h, hd' => by
  rw [Ed_eq hn, Ed_eq hn]
  have h1 : Bg hd nd d s ≤ Bg hd nd d' s := zG hn fun k hk => sh hn f k (by omega) (fun j hj => hd' j (by omega))
  have := hd' s (Nat.le_refl _)
  omega
theorem Ed_le (hn : NdOk nd) (h : ∀ k, d k ≤ d' k) (s : Nat) : Ed hd nd d s ≤ Ed hd nd d' s := sh hn (s + 1) s (Nat.lt_succ_self _) (fun k _ => h k)
theorem zH (hn : NdOk nd) {s : Nat} {k : Int} (hk : k ∈ nd s) : Ed hd nd d k.toNat ≤ Bg hd nd d s := by
 have := se (List.mem_map_of_mem (f := fun k : Int => Ed hd nd d k.toNat) hk)
 unfold Bg bgF
 omega
theorem si (s : Nat) : frF hd (Ed hd nd d) (hd s) s ≤ Bg hd nd d s := by
 unfold Bg bgF
 omega
theorem ny (hn : NdOk nd) (h0 : ∀ k, 0 ≤ d k) {h : Int} : ∀ {n k : Nat}, k < n → hd k = h → Ed hd nd d k ≤ frF hd (Ed hd nd d) h n
 | 0, _, hk, _ => absurd hk (Nat.not_lt_zero _)
 | n + 1, k, hk, hh => by
  unfold frF
  split
  ·rename_i hn'
   rcases Nat.lt_or_ge k n with h1 | h1
   ·have h2 := ny hn h0 h1 hh
    have h3 := si (hd := hd) (nd := nd) (d := d) n
    rw [hn'] at h3
    rw [Ed_eq hn n]
    have := h0 n
    omega
   ·have : k = n := by omega
    subst this
    exact Int.le_refl _
  ·rename_i hn'
   have : k ≠ n := by rintro rfl; exact hn' hh
   exact ny hn h0 (by omega) hh
theorem zI (hn : NdOk nd) (h0 : ∀ k, 0 ≤ d k) {k s : Nat} (hk : k < s) (hh : hd k = hd s) : Ed hd nd d k ≤ Bg hd nd d s := Int.le_trans (ny hn h0 hk hh) (si s)
theorem sj (hn : NdOk nd) {s : Nat} {b : Int} (hb : 0 ≤ b) (h1 : ∀ k, k < s → hd k = hd s → Ed hd nd d k ≤ b) (h2 : ∀ k ∈ nd s, Ed hd nd d k.toNat ≤ b) : Bg hd nd d s ≤ b := by
 have h3 := sf (hd := hd) (e := Ed hd nd d) (h := hd s) (n := s) hb h1
 have h4 : mxL ((nd s).map fun k => Ed hd nd d k.toNat) ≤ b := by
  refine kV.2 ⟨hb, ?_⟩
  intro x hx
  obtain ⟨k, hk, rfl⟩ := List.mem_map.1 hx
  exact h2 k hk
 unfold Bg bgF
 omega
theorem Ed_bd (hn : NdOk nd) {m : Int} (h0 : ∀ k, 0 ≤ d k ∧ d k ≤ m) : ∀ (f s : Nat), s < f → Ed hd nd d s ≤ m * (s + 1)
 | 0, _, h => absurd h (Nat.not_lt_zero _)
 | f + 1, s, h => by
  have hm : 0 ≤ m := Int.le_trans (h0 0).1 (h0 0).2
  have key : ∀ k, k < s → Ed hd nd d k ≤ m * s := fun k hk => by
   refine Int.le_trans (Ed_bd hn h0 f k (by omega)) ?_
   exact Int.mul_le_mul_of_nonneg_left (by omega) hm
  have h1 : Bg hd nd d s ≤ m * s := sj hn (Int.mul_nonneg hm (by omega)) (fun k hk _ => key k hk) (fun k hk => key _ (hn s k hk).2)
  rw [Ed_eq hn, Int.mul_add]
  have := h0 s
  omega
theorem Ip (hn : NdOk nd) {m : Int} (h0 : ∀ k, 0 ≤ d k ∧ d k ≤ m) (s : Nat) : Ed hd nd d s ≤ m * (s + 1) := Ed_bd hn h0 (s + 1) s (Nat.lt_succ_self _)
end
end Go.V
end
section
namespace Go.V
open Go Go.Proofs IntKind
def mz (aE : Int) (aY : Int) (aM : Int) : Option (Bool) := cond (decide (aE ≤ aY)) (some (decide (aY ≤ aM))) (some false)
theorem sk (aE : Int) (aY : Int) (aM : Int) (R : Bool) (h : mz aE aY aM = some R) : ah Tryz.prog G0 95 [.lit (.int .i64 aE), .lit (.int .i64 aY), .lit (.int .i64 aM)] (.tree (.lit (.bool R))) := by
 refine ah.runR mixed Tryz.call95 Tryz.func95 rfl (by simp [Tryz.ntmps95]; kernel_rfl) ?_
 obtain ⟨KF, h, kF, kN⟩ := cl h
 simp only [mz] at h
 cases d1 : (decide (aE ≤ aY))
 ·simp only [d1, hs] at h
  try simp only [vz, tyf, d1, nm, seval]
  obtain rfl := kF _ h
  exact aU Tryz.results95 rfl
 simp only [d1, hs] at h
 try simp only [vz, tyf, d1, nm, seval]
 obtain rfl := kF _ h
 exact aU Tryz.results95 rfl
def ql (aE : Int) (aM : Int) : List Int → Int → Option (LOut (Bool) (Unit))
 | [], m0 => some (.go ())
 | e0 :: p0, m0 => Option.bind (mz aE e0 aM) (fun r1 => cond (r1) (ql aE aM p0 (m0 + 1)) (some (.ret false)))
def nz (aE : Int) (ak : List Int) (aM : Int) : Option (Bool) := cond (aH ak) (lbind (ql aE aM ak 0) (fun r3 => some r3) (fun c2 => some true) (fun _ _ => none)) none
theorem zJ (aE : Int) (ak : List Int) (aM : Int) (R : Bool) (h : nz aE ak aM = some R) : ah Tryz.prog G0 103 [.lit (.int .i64 aE), .sl (aa eI ak) (List.length ak) false, .lit (.int .i64 aM)] (.tree (.lit (.bool R))) := by
 refine ah.runR mixed Tryz.call103 Tryz.func103 rfl (by simp [Tryz.ntmps103]; kernel_rfl) ?_
 obtain ⟨KF, h, kF, kN⟩ := cl h
 simp only [nz] at h
 cases g5 : (aH ak)
 ·simp only [g5, hs] at h
  exact absurd h kN
 simp only [g5, hs] at h
 simp only [vz, tyf, g5, nm, seval]
 obtain ⟨K4, h, LP, LQ, Rt, LS⟩ := eW h kN
 obtain ⟨f4, LU, h⟩ := call2 h
 obtain ⟨I4, zK⟩ : ∃ I : Nat → St → Prop, I = (fun m st => ∃ (p4 : List Int) (c9 : Int), m = List.length p4 ∧ 0 ≤ c9 ∧ List.drop (Int.toNat c9) ak = p4 ∧ st.df = [] ∧ 4 ≤ st.nx ∧ st.tm 0 = .lit (.int .i64 aE) ∧ st.tm 2 = .lit (.int .i64 aM) ∧ st.tm 9 = .sl (aa eI ak) (List.length ak) false ∧ st.tm 10 = .lit (.int .i64 (List.length ak : Int)) ∧ st.tm 11 = .lit (.int .i64 c9) ∧ K4 (f4 p4 c9)) := ⟨_, rfl⟩
 refine loopK mixed (by kernel_rfl) I4 (List.length ak) (by rw [zK]; refine ⟨ak, 0, rfl, Int.le_refl _, rfl, rfl, (show 4 ≤ 4 by omega), ?_, ?_, ?_, ?_, ?_, h⟩ <;> first | (simp only [ua, nm, seval] <;> rfl) | rfl) ?_
 rintro m ⟨tm, H, Iq, df⟩ hinv
 rw [zK] at hinv
 obtain ⟨p4, c9, rfl, qm, sm, hdf, LV, e6, e7, e8, e9, aV, h⟩ := hinv
 simp only at hdf LV e6 e7 e8 e9 aV
 have qn := f7 (m := 4) (b := Iq) (by omega)
 subst hdf LU
 cases p4 with
 | nil =>
  have b9 : (decide (c9 < (List.length ak : Int))) = false := eL qm sm
  simp only [ql, hs, reduceCtorEq] at h
  replace h := LQ _ h
  try dsimp only at h
  try simp only [hs] at h
  try simp only [vz, tyf, g5, qn, e6, e7, e8, e9, aV, b9, nm, seval]
  obtain rfl := kF _ h
  exact aU Tryz.results103 rfl
 | cons e4 p4 =>
  have eh : (decide (c9 < (List.length ak : Int))) = true := eM qm sm
  have n0 := cL qm sm
  have sn := eN qm sm g5
  simp only [ql, hs, reduceCtorEq] at h
  obtain ⟨Ir, ko, h⟩ := optI h LS
  try simp only [hs] at h
  simp only [vz, tyf, g5, qn, e6, e7, e8, e9, aV, eh, (aI n0), sn, nm, seval]
  refine ktA (sk _ _ _ _ ko) ?_
  refine br (fun tm => tm 0 = .lit (.int .i64 aE) ∧ tm 2 = .lit (.int .i64 aM) ∧ tm 9 = .sl (aa eI ak) (List.length ak) false ∧ tm 10 = .lit (.int .i64 (List.length ak : Int)) ∧ tm 11 = .lit (.int .i64 c9) ∧ tm 18 = .lit (.bool Ir) ∧ True) (by refine ⟨e6, e7, e8, e9, aV, ?_, trivial⟩ <;> first | (simp only [ua, qn, e6, e7, e8, e9, aV, eh, sn, nm, seval] <;> rfl) | rfl) ?_
  rintro tm ⟨b4, bG, eX, hX, cW, cb, _⟩
  cases dV : (Ir)
  ·simp only [dV, hs] at h
   try simp only [vz, tyf, g5, qn, eh, (aI n0), sn, b4, bG, eX, hX, cW, cb, dV, nm, seval]
   replace h := LP _ h
   try dsimp only at h
   obtain rfl := kF _ h
   exact aU Tryz.results103 rfl
  simp only [dV, hs] at h
  simp only [vz, tyf, g5, qn, eh, (aI n0), sn, b4, bG, eX, hX, cW, cb, dV, nm, seval]
  exact ⟨List.length p4, Nat.lt_succ_self _, by rw [zK]; refine ⟨p4, c9 + 1, rfl, Int.le_trans qm (Int.le_add_one (Int.le_refl _)), cy qm sm, rfl, (show 4 ≤ Iq + 11 by omega), b4, bG, eX, hX, ?_, (by first | exact h | (simp only [eh, dV]; exact h))⟩ <;> first | (simp only [ua, qn, eh, sn, b4, bG, eX, hX, cW, cb, dV, nm, seval] <;> rfl) | rfl⟩
def vt (bc : List Int) : Option (Bool) := Option.bind (mz 1 (List.length bc : Int) 3) (fun r1 => cond (r1) (Option.bind (nz 0 bc 60) (fun r2 => some r2)) (some false))
theorem LW (bc : List Int) (R : Bool) (h : vt bc = some R) : ah Tryz.prog G0 101 [.sl (aa eI bc) (List.length bc) false] (.tree (.lit (.bool R))) := by
 refine ah.runR mixed Tryz.call101 Tryz.func101 rfl (by simp [Tryz.ntmps101]; kernel_rfl) ?_
 obtain ⟨KF, h, kF, kN⟩ := cl h
 simp only [vt] at h
 obtain ⟨r3, o4, h⟩ := optI h kN
 try simp only [hs] at h
 simp only [vz, tyf, nm, seval]
 refine ktA (sk _ _ _ _ o4) ?_
 refine br (fun tm => tm 0 = .sl (aa eI bc) (List.length bc) false ∧ tm 5 = .lit (.bool r3) ∧ True) (by refine ⟨?_, ?_, trivial⟩ <;> first | (simp only [ua, nm, seval] <;> rfl) | rfl) ?_
 rintro tm ⟨e5, e6, _⟩
 cases d7 : (r3)
 ·simp only [d7, hs] at h
  try simp only [vz, tyf, e5, e6, d7, nm, seval]
  obtain rfl := kF _ h
  exact aU Tryz.results101 rfl
 simp only [d7, hs] at h
 obtain ⟨r8, o9, h⟩ := optI h kN
 try simp only [hs] at h
 simp only [vz, tyf, e5, e6, d7, nm, seval]
 refine ktA (zJ _ _ _ _ o9) ?_
 refine br (fun tm => tm 6 = .lit (.bool true) ∧ tm 8 = .lit (.bool r8) ∧ True) (by refine ⟨?_, ?_, trivial⟩ <;> first | (simp only [ua, e5, e6, d7, nm, seval] <;> rfl) | rfl) ?_
 rintro tm ⟨aV, bh, _⟩
 try simp only [vz, tyf, d7, aV, bh, nm, seval]
 obtain rfl := kF _ h
 exact aU Tryz.results101 rfl
def vu (ai : GBk) (cA : Int) : Option (Bool) := Option.bind (mz 0 cA (i64.wrap ((List.length ai.Boards : Int) - 1))) (fun r1 => some r1)
theorem LX (ai : GBk) (cA : Int) (R : Bool) (h : vu ai cA = some R) : ah Tryz.prog G0 71 [.agg (cGBk ai), .lit (.int .i64 cA)] (.tree (.lit (.bool R))) := by
 refine ah.runR mixed Tryz.call71 Tryz.func71 rfl (by simp [Tryz.ntmps71]; kernel_rfl) ?_
 obtain ⟨KF, h, kF, kN⟩ := cl h
 simp only [vu] at h
 obtain ⟨r2, o3, h⟩ := optI h kN
 try simp only [hs] at h
 simp only [vz, tyf, nm, seval]
 refine ktA (sk _ _ _ _ o3) ?_
 refine br (fun tm => tm 10 = .lit (.bool r2) ∧ True) (by refine ⟨?_, trivial⟩ <;> first | (simp only [ua, nm, seval] <;> rfl) | rfl) ?_
 rintro tm ⟨e4, _⟩
 try simp only [vz, tyf, e4, nm, seval]
 obtain rfl := kF _ h
 exact aU Tryz.results71 rfl
def so (aE : Int) (ei : GSpan) (aM : Int) : Option (Bool) := cond (decide (aE ≤ ei.Low)) (cond (decide (ei.Low ≤ ei.High)) (some (decide (ei.High ≤ aM))) (some false)) (some false)
theorem LY (aE : Int) (ei : GSpan) (aM : Int) (R : Bool) (h : so aE ei aM = some R) : ah Tryz.prog G0 133 [.lit (.int .i64 aE), .agg (aj ei), .lit (.int .i64 aM)] (.tree (.lit (.bool R))) := by
 refine ah.runR mixed Tryz.call133 Tryz.func133 rfl (by simp [Tryz.ntmps133]; kernel_rfl) ?_
 obtain ⟨KF, h, kF, kN⟩ := cl h
 simp only [so] at h
 cases d1 : (decide (aE ≤ ei.Low))
 ·simp only [d1, hs] at h
  try simp only [vz, tyf, d1, nm, seval]
  obtain rfl := kF _ h
  exact aU Tryz.results133 rfl
 simp only [d1, hs] at h
 cases d2 : (decide (ei.Low ≤ ei.High))
 ·simp only [d2, hs] at h
  try simp only [vz, tyf, d1, d2, nm, seval]
  obtain rfl := kF _ h
  exact aU Tryz.results133 rfl
 simp only [d2, hs] at h
 try simp only [vz, tyf, d1, d2, nm, seval]
 obtain rfl := kF _ h
 exact aU Tryz.results133 rfl
def qo (ak : List Int) : List Int → Int → Option (LOut (Bool) (Unit))
 | [], bI => some (.go ())
 | e0 :: p0, bI => Option.bind (getI ak (i64.wrap (bI - 1))) (fun x1 => cond (decide (e0 ≤ x1)) (some (.ret false)) (qo ak p0 (bI + 1)))
def sq (aE : Int) (ak : List Int) (aM : Int) : Option (Bool) := cond (aH ak) (cond (leB 0 1) (lbind (qo ak (List.drop (Int.toNat 1) ak) 1) (fun r4 => some r4) (fun c2 => Option.bind (nz aE ak aM) (fun r3 => some r3)) (fun _ _ => none)) none) none
theorem LZ (aE : Int) (ak : List Int) (aM : Int) (R : Bool) (h : sq aE ak aM = some R) : ah Tryz.prog G0 134 [.lit (.int .i64 aE), .sl (aa eI ak) (List.length ak) false, .lit (.int .i64 aM)] (.tree (.lit (.bool R))) := by
 refine ah.runR mixed Tryz.call134 Tryz.func134 rfl (by simp [Tryz.ntmps134]; kernel_rfl) ?_
 obtain ⟨KF, h, kF, kN⟩ := cl h
 simp only [sq] at h
 cases g6 : (aH ak)
 ·simp only [g6, hs] at h
  exact absurd h kN
 simp only [g6, hs] at h
 cases g7 : (leB 0 1)
 ·simp only [g7, hs] at h
  exact absurd h kN
 simp only [g7, hs] at h
 simp only [vz, tyf, g6, g7, nm, seval]
 obtain ⟨K5, h, Is, vv, Ma, qp⟩ := eW h kN
 obtain ⟨f5, zL, h⟩ := call2 h
 obtain ⟨I5, m2⟩ : ∃ I : Nat → St → Prop, I = (fun m st => ∃ (p5 : List Int) (bt : Int), m = List.length p5 ∧ 0 ≤ bt ∧ List.drop (Int.toNat bt) ak = p5 ∧ st.df = [] ∧ 2 ≤ st.nx ∧ st.tm 0 = .lit (.int .i64 aE) ∧ st.tm 1 = .sl (aa eI ak) (List.length ak) false ∧ st.tm 2 = .lit (.int .i64 aM) ∧ st.tm 7 = .lit (.int .i64 bt) ∧ K5 (f5 p5 bt)) := ⟨_, rfl⟩
 refine loopK mixed (by kernel_rfl) I5 (List.length (List.drop (Int.toNat 1) ak)) (by rw [m2]; refine ⟨List.drop (Int.toNat 1) ak, 1, rfl, of_decide_eq_true g7, rfl, rfl, (show 2 ≤ 2 by omega), ?_, ?_, ?_, ?_, h⟩ <;> first | (simp only [ua, nm, seval] <;> rfl) | rfl) ?_
 rintro m ⟨tm, H, j7, df⟩ hinv
 rw [m2] at hinv
 obtain ⟨p5, bt, rfl, eY, fR, hdf, zM, e8, e9, aV, bh, h⟩ := hinv
 simp only at hdf zM e8 e9 aV bh
 have dt := f7 (m := 2) (b := j7) (by omega)
 subst hdf zL
 cases p5 with
 | nil =>
  have eh : (decide (bt < (List.length ak : Int))) = false := eL eY fR
  simp only [qo, hs, reduceCtorEq] at h
  replace h := vv _ h
  try dsimp only at h
  try simp only [hs] at h
  obtain ⟨hY, n0, h⟩ := optI h kN
  try simp only [hs] at h
  simp only [vz, tyf, g6, g7, dt, e8, e9, aV, bh, eh, nm, seval]
  refine ktA (zJ _ _ _ _ n0) ?_
  refine br (fun tm => tm 27 = .lit (.bool hY) ∧ True) (by refine ⟨?_, trivial⟩ <;> first | (simp only [ua, dt, e8, e9, aV, bh, eh, nm, seval] <;> rfl) | rfl) ?_
  rintro tm ⟨bS, _⟩
  try simp only [vz, tyf, g6, g7, dt, eh, bS, nm, seval]
  obtain rfl := kF _ h
  exact aU Tryz.results134 rfl
 | cons e5 p5 =>
  have qq : (decide (bt < (List.length ak : Int))) = true := eM eY fR
  have zN := cL eY fR
  have su := eN eY fR g6
  simp only [qo, hs, reduceCtorEq] at h
  simp only [vz, tyf, g6, g7, dt, e8, e9, aV, bh, qq, (aI zN), su, nm, seval]
  refine kq (fun tm => tm 0 = .lit (.int .i64 aE) ∧ tm 1 = .sl (aa eI ak) (List.length ak) false ∧ tm 2 = .lit (.int .i64 aM) ∧ tm 7 = .lit (.int .i64 bt) ∧ True) (by refine ⟨e8, e9, aV, bh, trivial⟩ <;> first | (simp only [ua, dt, e8, e9, aV, bh, qq, su, nm, seval] <;> rfl) | rfl) ?_
  rintro tm ⟨eX, hX, cW, cb, _⟩
  obtain ⟨Mb, qs, h⟩ := optI h qp
  try simp only [hs] at h
  cases db : (decide (e5 ≤ Mb))
  ·simp only [db, hs] at h
   simp only [vz, tyf, g6, g7, dt, qq, (aI zN), su, eX, hX, cW, cb, (aI qs), db, nm, seval]
   exact ⟨List.length p5, Nat.lt_succ_self _, by rw [m2]; refine ⟨p5, bt + 1, rfl, Int.le_trans eY (Int.le_add_one (Int.le_refl _)), cy eY fR, rfl, (show 2 ≤ j7 + 17 by omega), eX, hX, cW, ?_, (by first | exact h | (simp only [qq, db]; exact h))⟩ <;> first | (simp only [ua, dt, qq, su, eX, hX, cW, cb, db, nm, seval] <;> rfl) | rfl⟩
  simp only [db, hs] at h
  try simp only [vz, tyf, g6, g7, dt, qq, (aI zN), su, eX, hX, cW, cb, (aI qs), db, nm, seval]
  replace h := Is _ h
  try dsimp only at h
  obtain rfl := kF _ h
  exact aU Tryz.results134 rfl
def qt (ai : GBk) : List GBs → Int → Option (LOut (Bool) (Unit))
 | [], j8 => some (.go ())
 | e0 :: p0, j8 => Option.bind (vu ai e0.Board) (fun r2 => cond (r2) (Option.bind (so 1 e0.Hours 6) (fun r3 => cond (r3) (Option.bind (sq 0 e0.Needs (i64.wrap (j8 - 1))) (fun r4 => cond (r4) (qt ai p0 (j8 + 1)) (some (.ret false)))) (some (.ret false)))) (some (.ret false)))
def vw (ai : GBk) : Option (Bool) := Option.bind (mz 1 (List.length ai.Strokes : Int) 6) (fun r1 => cond (r1) (cond (aH ai.Strokes) (lbind (qt ai ai.Strokes 0) (fun r6 => some r6) (fun c5 => some true) (fun _ _ => none)) none) (some false))
theorem Mc (ai : GBk) (R : Bool) (h : vw ai = some R) : ah Tryz.prog G0 102 [.agg (cGBk ai)] (.tree (.lit (.bool R))) := by
 refine ah.runR mixed Tryz.call102 Tryz.func102 rfl (by simp [Tryz.ntmps102]; kernel_rfl) ?_
 obtain ⟨KF, h, kF, kN⟩ := cl h
 simp only [vw] at h
 obtain ⟨r7, o8, h⟩ := optI h kN
 try simp only [hs] at h
 simp only [vz, tyf, nm, seval]
 refine ktA (sk _ _ _ _ o8) ?_
 refine br (fun tm => tm 1 = .ptr 0 0 ∧ tm 8 = .lit (.bool r7) ∧ True) (by refine ⟨?_, ?_, trivial⟩ <;> first | (simp only [ua, nm, seval] <;> rfl) | rfl) ?_
 rintro tm ⟨e9, aV, _⟩
 cases eZ : (r7)
 ·simp only [eZ, hs] at h
  try simp only [vz, tyf, e9, aV, eZ, nm, seval]
  obtain rfl := kF _ h
  exact aU Tryz.results102 rfl
 simp only [eZ, hs] at h
 cases m3 : (aH ai.Strokes)
 ·simp only [m3, hs] at h
  exact absurd h kN
 simp only [m3, hs] at h
 simp only [vz, tyf, e9, aV, eZ, m3, nm, seval]
 obtain ⟨Md, h, n5, zO, Me, n6⟩ := eW h kN
 obtain ⟨Mf, zP, h⟩ := call2 h
 obtain ⟨Mg, n7⟩ : ∃ I : Nat → St → Prop, I = (fun m st => ∃ (m4 : List GBs) (bj : Int), m = List.length m4 ∧ 0 ≤ bj ∧ List.drop (Int.toNat bj) ai.Strokes = m4 ∧ st.df = [] ∧ 11 ≤ st.nx ∧ st.H 0 = some (.cells (some 25) (cGBk ai)) ∧ st.tm 1 = .ptr 0 0 ∧ st.tm 11 = .sl (aa cGBs ai.Strokes) (List.length ai.Strokes) false ∧ st.tm 12 = .lit (.int .i64 (List.length ai.Strokes : Int)) ∧ st.tm 13 = .lit (.int .i64 bj) ∧ Md (Mf m4 bj)) := ⟨_, rfl⟩
 refine loopK mixed (by kernel_rfl) Mg (List.length ai.Strokes) (by rw [n7]; refine ⟨ai.Strokes, 0, rfl, Int.le_refl _, rfl, rfl, (show 11 ≤ 11 by omega), ?_, e9, ?_, ?_, ?_, h⟩ <;> first | (simp only [ua, e9, aV, eZ, nm, seval] <;> rfl) | rfl) ?_
 rintro m ⟨tm, H, kW, df⟩ hinv
 rw [n7] at hinv
 obtain ⟨m4, bj, rfl, hZ, j9, hdf, zQ, qu, dy, bS, bw, b4, h⟩ := hinv
 simp only at hdf zQ qu dy bS bw b4
 have sv := f7 (m := 11) (b := kW) (by omega)
 subst hdf zP
 cases m4 with
 | nil =>
  have dz : (decide (bj < (List.length ai.Strokes : Int))) = false := eL hZ j9
  simp only [qt, hs, reduceCtorEq] at h
  replace h := zO _ h
  try dsimp only at h
  try simp only [hs] at h
  try simp only [vz, tyf, eZ, m3, sv, dy, bS, bw, b4, qu, dz, nm, seval]
  obtain rfl := kF _ h
  exact aU Tryz.results102 rfl
 | cons cm m4 =>
  have kX : (decide (bj < (List.length ai.Strokes : Int))) = true := eM hZ j9
  have gP := cL hZ j9
  have vx := eN hZ j9 m3
  simp only [qt, hs, reduceCtorEq] at h
  obtain ⟨nA, qs, h⟩ := optI h n6
  try simp only [hs] at h
  simp only [vz, tyf, eZ, m3, sv, dy, bS, bw, b4, qu, kX, (aK gP), vx, nm, seval]
  refine ktA (LX _ _ _ qs) ?_
  refine br (fun tm => tm 1 = .ptr 0 0 ∧ tm 3 = .lit (.int .i64 bj) ∧ tm 4 = .ptr (kW + 4) 0 ∧ tm 11 = .sl (aa cGBs ai.Strokes) (List.length ai.Strokes) false ∧ tm 12 = .lit (.int .i64 (List.length ai.Strokes : Int)) ∧ tm 13 = .lit (.int .i64 bj) ∧ tm 21 = .lit (.bool nA) ∧ True) (by refine ⟨dy, ?_, ?_, bS, bw, b4, ?_, trivial⟩ <;> first | (simp only [ua, eZ, sv, dy, bS, bw, b4, qu, kX, vx, nm, seval] <;> rfl) | rfl) ?_
  rintro tm ⟨cv, ba, du, dc, cM, cN, gQ, _⟩
  cases dW : (nA)
  ·simp only [dW, hs] at h
   have jo := And.intro eZ (And.intro m3 (And.intro sv (And.intro qu (And.intro kX (And.intro vx dW)))))
   try simp only [vz, tyf, jo, (aK gP), cv, ba, du, dc, cM, cN, gQ, nm, seval]
   replace h := n5 _ h
   try dsimp only at h
   obtain rfl := kF _ h
   exact aU Tryz.results102 rfl
  simp only [dW, hs] at h
  have kY := And.intro eZ (And.intro m3 (And.intro sv (And.intro qu (And.intro kX (And.intro vx dW)))))
  obtain ⟨It, Mh, h⟩ := optI h n6
  try simp only [hs] at h
  simp only [vz, tyf, kY, (aK gP), cv, ba, du, dc, cM, cN, gQ, nm, seval]
  refine ktA (LY _ _ _ _ Mh) ?_
  refine br (fun tm => tm 1 = .ptr 0 0 ∧ tm 3 = .lit (.int .i64 bj) ∧ tm 4 = .ptr (kW + 4) 0 ∧ tm 11 = .sl (aa cGBs ai.Strokes) (List.length ai.Strokes) false ∧ tm 12 = .lit (.int .i64 (List.length ai.Strokes : Int)) ∧ tm 13 = .lit (.int .i64 bj) ∧ tm 23 = .lit (.bool false) ∧ tm 26 = .lit (.bool It) ∧ True) (by refine ⟨cv, ba, du, dc, cM, cN, ?_, ?_, trivial⟩ <;> first | (simp only [ua, kY, cv, ba, du, dc, cM, cN, gQ, nm, seval] <;> rfl) | rfl) ?_
  rintro tm ⟨ku, ky, fS, fT, de, di, fp, kZ, _⟩
  cases ia : (It)
  ·simp only [ia, hs] at h
   try simp only [vz, tyf, kY, (aK gP), ku, ky, fS, fT, de, di, fp, kZ, ia, nm, seval]
   replace h := n5 _ h
   try dsimp only at h
   obtain rfl := kF _ h
   exact aU Tryz.results102 rfl
  simp only [ia, hs] at h
  obtain ⟨Iu, Mi, h⟩ := optI h n6
  try simp only [hs] at h
  simp only [vz, tyf, kY, (aK gP), ku, ky, fS, fT, de, di, fp, kZ, ia, nm, seval]
  refine ktA (LZ _ _ _ _ Mi) ?_
  refine br (fun tm => tm 1 = .ptr 0 0 ∧ tm 11 = .sl (aa cGBs ai.Strokes) (List.length ai.Strokes) false ∧ tm 12 = .lit (.int .i64 (List.length ai.Strokes : Int)) ∧ tm 13 = .lit (.int .i64 bj) ∧ tm 29 = .lit (.bool false) ∧ tm 34 = .lit (.bool Iu) ∧ True) (by refine ⟨ku, fT, de, di, ?_, ?_, trivial⟩ <;> first | (simp only [ua, kY, ku, ky, fS, fT, de, di, fp, kZ, ia, nm, seval] <;> rfl) | rfl) ?_
  rintro tm ⟨d4, f8, fU, gR, la, m5, _⟩
  cases qv : (Iu)
  ·simp only [qv, hs] at h
   try simp only [vz, tyf, kY, (aK gP), ia, d4, f8, fU, gR, la, m5, qv, nm, seval]
   replace h := n5 _ h
   try dsimp only at h
   obtain rfl := kF _ h
   exact aU Tryz.results102 rfl
  simp only [qv, hs] at h
  simp only [vz, tyf, kY, (aK gP), ia, d4, f8, fU, gR, la, m5, qv, nm, seval]
  exact ⟨List.length m4, Nat.lt_succ_self _, by rw [n7]; refine ⟨m4, bj + 1, rfl, Int.le_trans hZ (Int.le_add_one (Int.le_refl _)), cy hZ j9, rfl, (show 11 ≤ kW + 28 by omega), ?_, d4, f8, fU, ?_, (by first | exact h | (simp only [kY, ia, qv]; exact h))⟩ <;> first | (simp only [ua, kY, ia, d4, f8, fU, gR, la, m5, qv, nm, seval] <;> rfl) | rfl⟩
end Go.V
end
