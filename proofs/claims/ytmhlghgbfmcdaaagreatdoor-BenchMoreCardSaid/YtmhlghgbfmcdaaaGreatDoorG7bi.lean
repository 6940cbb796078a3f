/- Part of a proof. -/
import Derived.Test.YtmhlghgbfmcdaaaGreatDoorG7bh
import Derived.Test.YtmhlghgbfmcdaaaGreatDoorG7az
import Derived.Test.YtmhlghgbfmcdaaaGreatDoorProg
set_option linter.all false
set_option maxRecDepth 4000
set_option maxHeartbeats 40000000
section
namespace Go.V
open Go Go.Proofs IntKind
theorem mixed : Tryz.prog.follows .mixedOrders = true := by kernel_rfl
structure GSpan where
 Low : Int
 High : Int
 deriving Inhabited, DecidableEq
def cGSpan (x : GSpan) : List VV := [.lit (.int .i64 x.Low), .lit (.int .i64 x.High)]
theorem qt {x : GSpan} : cGSpan x = [.lit (.int .i64 x.Low), .lit (.int .i64 x.High)] := rfl
theorem ig : EncOk cGSpan := EncOk.of (fun x => by simp only [qt, tre, Bool.and_self]) (fun x => by simp only [qt, nrm]) (fun x H d => by simp only [qt, nrm, List.map_cons, List.map_nil])
structure GBs where
 Board : Int
 Round : Bool
 Hours : GSpan
 Needs : List Int
 deriving Inhabited, DecidableEq
def cGBs (x : GBs) : List VV := [.lit (.int .i64 x.Board), .lit (.bool x.Round), .lit (.int .i64 x.Hours.Low), .lit (.int .i64 x.Hours.High), .sl (ae eI x.Needs) (List.length x.Needs) false]
theorem rG {x : GBs} : cGBs x = [.lit (.int .i64 x.Board), .lit (.bool x.Round), .lit (.int .i64 x.Hours.Low), .lit (.int .i64 x.Hours.High), .sl (ae eI x.Needs) (List.length x.Needs) false] := rfl
theorem j6 : EncOk cGBs := EncOk.of (fun x => by simp only [rG, tre, ig.tree, ig.treeL, Bool.and_self]) (fun x => by simp only [rG, nrm, ig.norm, ig.normL, ig.shown, ig.showL]) (fun x H d => by simp only [rG, nrm, List.map_cons, List.map_nil])
structure GBk where
 Apprentices : Int
 Boards : List Int
 Strokes : List GBs
 deriving Inhabited, DecidableEq
def cGBk (x : GBk) : List VV := [.lit (.int .i64 x.Apprentices), .sl (ae eI x.Boards) (List.length x.Boards) false, .sl (ae cGBs x.Strokes) (List.length x.Strokes) false]
theorem lR {x : GBk} : cGBk x = [.lit (.int .i64 x.Apprentices), .sl (ae eI x.Boards) (List.length x.Boards) false, .sl (ae cGBs x.Strokes) (List.length x.Strokes) false] := rfl
theorem R3 : EncOk cGBk := EncOk.of (fun x => by simp only [lR, tre, ig.tree, ig.treeL, j6.tree, j6.treeL, Bool.and_self]) (fun x => by simp only [lR, nrm, ig.norm, ig.normL, ig.shown, ig.showL, j6.norm, j6.normL, j6.shown, j6.showL]) (fun x H d => by simp only [lR, nrm, List.map_cons, List.map_nil])
structure Gbf where
 chain : List Int
 deriving Inhabited, DecidableEq
def cGbf (x : Gbf) : List VV := [.sl (ae eI x.chain) (List.length x.chain) false]
theorem R4 {x : Gbf} : cGbf x = [.sl (ae eI x.chain) (List.length x.chain) false] := rfl
structure Gbe where
 stroke : Int
 hours : Int
 deriving Inhabited, DecidableEq
def cGbe (x : Gbe) : List VV := [.lit (.int .i64 x.stroke), .lit (.int .i64 x.hours)]
theorem R5 {x : Gbe} : cGbe x = [.lit (.int .i64 x.stroke), .lit (.int .i64 x.hours)] := rfl
theorem R6 {c : VV} {cs : List VV} : vload Tryz.prog 3 (c :: cs) = some c := by
 have h1 : aggT Tryz.prog 3 = some false := by kernel_rfl
 simp [vload, vpart, h1]
theorem R7 : szT Tryz.prog 3 = some 1 := by kernel_rfl
theorem R8 {c : VV} {cs : List VV} : vload Tryz.prog 4 (c :: cs) = some c := by
 have h1 : aggT Tryz.prog 4 = some false := by kernel_rfl
 simp [vload, vpart, h1]
theorem R9 : szT Tryz.prog 4 = some 1 := by kernel_rfl
theorem GZ : vzl Tryz.prog 4 = some [.lit (.bool false)] := by kernel_rfl
theorem He {c : VV} {cs : List VV} : vload Tryz.prog 22 (c :: cs) = some c := by
 have h1 : aggT Tryz.prog 22 = some false := by kernel_rfl
 simp [vload, vpart, h1]
theorem Hf : szT Tryz.prog 22 = some 1 := by kernel_rfl
theorem v8 {H : Nat → Option VObj} {cs : List VV} {n : Nat} {f : Bool} : vlen Tryz.prog H 22 (.sl cs n f) = some (.lit (.int .i64 n)) := by simp [vlen, Tryz.underlying22, sls]
theorem lenN22 {H : Nat → Option VObj} : vlen Tryz.prog H 22 (.lit (.slice none 0 0)) = some (.lit (.int .i64 0)) := by simp [vlen, Tryz.underlying22, sls]
theorem lenR22 {H : Nat → Option VObj} {β off n w c : Nat} : vlen Tryz.prog H 22 (.ref β off n w c) = (match H β with | some (.cells _ cs) => if off ≤ cs.length then some (.lit (.int .i64 n)) else none | _ => none) := lenR Tryz.underlying22
theorem dI : elemT Tryz.prog 22 = some 3 := by simp [elemT, Tryz.underlying22]
theorem iq : appOk Tryz.prog 22 = some (3, 1, 8) := by kernel_rfl
theorem Hg {xs : List Int} : (ae eI xs).take (xs.length * 1) = ae eI xs := JJ (fun _ => rfl)
theorem im : ∀ x : Int, leafL (eI x) = true := fun x => by simp only [eI_eq, m7, eB_eq, eS_eq, m8, j1, j2, wW, wX, wY, wZ, xa, Bool.and_self]
theorem Hh {a0 : VV} (h : leafL [a0] = true) : aO Tryz.prog 22 1 [(0, a0)] = some ([a0], 1) := by
 have h2 : szT Tryz.prog 3 = some 1 := by kernel_rfl
 have h3 : vzero Tryz.prog 3 = some #[.int .i64 0] := by kernel_rfl
 simp only [j2, j1, Bool.and_true, Bool.and_eq_true] at h
 simp [aO, Tryz.underlying22, h2, h3, vfill, vcells1, h, overwrite, vzeros, List.range_succ]
theorem Hi {a0 a1 : VV} (h : leafL [a0, a1] = true) : aO Tryz.prog 22 2 [(0, a0), (1, a1)] = some ([a0, a1], 1) := by
 have h2 : szT Tryz.prog 3 = some 1 := by kernel_rfl
 have h3 : vzero Tryz.prog 3 = some #[.int .i64 0] := by kernel_rfl
 simp only [j2, j1, Bool.and_true, Bool.and_eq_true] at h
 simp [aO, Tryz.underlying22, h2, h3, vfill, vcells1, h, overwrite, vzeros, List.range_succ]
theorem aW {H : Nat → Option VObj} {xs : List Int} {x : Int} {f : Bool} {k : IntKind} {i : Int} (h : getI xs i = some x) : aB Tryz.prog H 22 (.sl (ae eI xs) xs.length f) (.lit (.int k i)) = some (.tp (eI x ++ ae eI (xs.drop (i.toNat + 1)))) :=
 ixG Tryz.underlying22 (by kernel_rfl : szT Tryz.prog 3 = some 1) (by decide) (fun _ => rfl) h
theorem Hj {c : VV} {cs : List VV} : vload Tryz.prog 23 (c :: cs) = some c := by
 have h1 : aggT Tryz.prog 23 = some false := by kernel_rfl
 simp [vload, vpart, h1]
theorem Hk : szT Tryz.prog 23 = some 1 := by kernel_rfl
theorem v9 {H : Nat → Option VObj} {cs : List VV} {n : Nat} {f : Bool} : vlen Tryz.prog H 23 (.sl cs n f) = some (.lit (.int .i64 n)) := by simp [vlen, Tryz.underlying23, sls]
theorem lenN23 {H : Nat → Option VObj} : vlen Tryz.prog H 23 (.lit (.slice none 0 0)) = some (.lit (.int .i64 0)) := by simp [vlen, Tryz.underlying23, sls]
theorem lenR23 {H : Nat → Option VObj} {β off n w c : Nat} : vlen Tryz.prog H 23 (.ref β off n w c) = (match H β with | some (.cells _ cs) => if off ≤ cs.length then some (.lit (.int .i64 n)) else none | _ => none) := lenR Tryz.underlying23
theorem Hl : elemT Tryz.prog 23 = some 49 := by simp [elemT, Tryz.underlying23]
theorem uo : appOk Tryz.prog 23 = some (49, 5, 56) := by kernel_rfl
theorem um : ∀ x : GBs, leafL (cGBs x) = true := fun x => by simp only [eI_eq, m7, eB_eq, eS_eq, m8, rG, j1, j2, wW, wX, wY, wZ, xa, Bool.and_self]
theorem ba {xs : List GBs} {x : GBs} {i : Int} (h : getI xs i = some x) : (∀ (H : Nat → Option VObj) (β c : Nat) (k : IntKind), aB Tryz.prog H 23 (.ref β 0 xs.length 5 c) (.lit (.int k i)) = if (H β).isSome = true then some (.ptr β (i.toNat * 5)) else none) ∧ (ae cGBs xs).drop (i.toNat * 5) = cGBs x ++ ae cGBs (xs.drop (i.toNat + 1)) ∧ (i.toNat * 5 ≤ (ae cGBs xs).length) = True := ixO Tryz.underlying23 (by kernel_rfl : szT Tryz.prog 49 = some 5) (fun _ => rfl) h
theorem aL {H : Nat → Option VObj} {xs : List GBs} {x : GBs} {f : Bool} {k : IntKind} {i : Int} (h : getI xs i = some x) : aB Tryz.prog H 23 (.sl (ae cGBs xs) xs.length f) (.lit (.int k i)) = some (.tp (cGBs x ++ ae cGBs (xs.drop (i.toNat + 1)))) :=
 ixG Tryz.underlying23 (by kernel_rfl : szT Tryz.prog 49 = some 5) (by decide) (fun _ => rfl) h
theorem Hm {c0 c1 c2 : VV} {cs : List VV} : vload Tryz.prog 25 (c0 :: c1 :: c2 :: cs) = some (.agg [c0, c1, c2]) := by
 have h1 : aggT Tryz.prog 25 = some true := by kernel_rfl
 have h2 : szT Tryz.prog 25 = some 3 := by kernel_rfl
 simp [vload, vpart, h1, h2]
theorem Ho : szT Tryz.prog 25 = some 3 := by kernel_rfl
theorem vA : vzl Tryz.prog 25 = some [.lit (.int .i64 0), .lit (.slice none 0 0), .lit (.slice none 0 0)] := by kernel_rfl
theorem Hp {H : Nat → Option VObj} {cs : List VV} : al Tryz.prog H 25 (.tp cs) 0 = some (.tp (cs.drop 0)) := by
 have h2 : szT Tryz.prog 3 = some 1 := by kernel_rfl
 simp [al, Tryz.underlying25, h2]
theorem Hq {H : Nat → Option VObj} {β o : Nat} : al Tryz.prog H 25 (.ptr β o) 0 = if (H β).isSome = true then some (.ptr β (o + 0)) else none := by
 have h2 : szT Tryz.prog 3 = some 1 := by kernel_rfl
 simp [al, Tryz.underlying25, h2]
theorem Hr {H : Nat → Option VObj} {β o : Nat} : al Tryz.prog H 25 (.ptr β o) 1 = if (H β).isSome = true then some (.ptr β (o + 1)) else none := by
 have h2 : szT Tryz.prog 22 = some 1 := by kernel_rfl
 simp [al, Tryz.underlying25, h2]
theorem Hs {H : Nat → Option VObj} {cs : List VV} : al Tryz.prog H 25 (.tp cs) 2 = some (.tp (cs.drop 2)) := by
 have h2 : szT Tryz.prog 23 = some 1 := by kernel_rfl
 simp [al, Tryz.underlying25, h2]
theorem Ht {H : Nat → Option VObj} {β o : Nat} : al Tryz.prog H 25 (.ptr β o) 2 = if (H β).isSome = true then some (.ptr β (o + 2)) else none := by
 have h2 : szT Tryz.prog 23 = some 1 := by kernel_rfl
 simp [al, Tryz.underlying25, h2]
theorem vB {H : Nat → Option VObj} {cs : List VV} {n : Nat} {f : Bool} : vlen Tryz.prog H 31 (.sl cs n f) = some (.lit (.int .i64 n)) := by simp [vlen, Tryz.underlying31, sls]
theorem lenN31 {H : Nat → Option VObj} : vlen Tryz.prog H 31 (.lit (.slice none 0 0)) = some (.lit (.int .i64 0)) := by simp [vlen, Tryz.underlying31, sls]
theorem lenR31 {H : Nat → Option VObj} {β off n w c : Nat} : vlen Tryz.prog H 31 (.ref β off n w c) = (match H β with | some (.cells _ cs) => if off ≤ cs.length then some (.lit (.int .i64 n)) else none | _ => none) := lenR Tryz.underlying31
theorem mD : elemT Tryz.prog 31 = some 35 := by simp [elemT, Tryz.underlying31]
theorem tV : appOk Tryz.prog 31 = some (35, 2, 16) := by kernel_rfl
theorem Hu {xs : List GSpan} : (ae cGSpan xs).take (xs.length * 2) = ae cGSpan xs := JJ (fun _ => rfl)
theorem tU : ∀ x : GSpan, leafL (cGSpan x) = true := fun x => by simp only [eI_eq, m7, eB_eq, eS_eq, m8, qt, j1, j2, wW, wX, wY, wZ, xa, Bool.and_self]
theorem Hv {c0 c1 : VV} (h : leafL [c0, c1] = true) : aO Tryz.prog 31 1 [(0, .agg [c0, c1])] = some ([c0, c1], 2) := by
 have h2 : szT Tryz.prog 35 = some 2 := by kernel_rfl
 have h3 : vzero Tryz.prog 35 = some #[.int .i64 0, .int .i64 0] := by kernel_rfl
 simp only [j2, j1, Bool.and_true, Bool.and_eq_true] at h
 simp [aO, Tryz.underlying31, h2, h3, vfill, aR, h, overwrite, vzeros]
theorem dq {H : Nat → Option VObj} {xs : List GSpan} {x : GSpan} {f : Bool} {k : IntKind} {i : Int} (h : getI xs i = some x) : aB Tryz.prog H 31 (.sl (ae cGSpan xs) xs.length f) (.lit (.int k i)) = some (.tp (cGSpan x ++ ae cGSpan (xs.drop (i.toNat + 1)))) :=
 ixG Tryz.underlying31 (by kernel_rfl : szT Tryz.prog 35 = some 2) (by decide) (fun _ => rfl) h
theorem Hw {c0 c1 : VV} {cs : List VV} : vload Tryz.prog 35 (c0 :: c1 :: cs) = some (.agg [c0, c1]) := by
 have h1 : aggT Tryz.prog 35 = some true := by kernel_rfl
 have h2 : szT Tryz.prog 35 = some 2 := by kernel_rfl
 simp [vload, vpart, h1, h2]
theorem Hx : szT Tryz.prog 35 = some 2 := by kernel_rfl
theorem l5 : vzl Tryz.prog 35 = some [.lit (.int .i64 0), .lit (.int .i64 0)] := by kernel_rfl
theorem Hy {H : Nat → Option VObj} {cs : List VV} : al Tryz.prog H 35 (.tp cs) 0 = some (.tp (cs.drop 0)) := by
 have h2 : szT Tryz.prog 3 = some 1 := by kernel_rfl
 simp [al, Tryz.underlying35, h2]
theorem Hz {H : Nat → Option VObj} {β o : Nat} : al Tryz.prog H 35 (.ptr β o) 0 = if (H β).isSome = true then some (.ptr β (o + 0)) else none := by
 have h2 : szT Tryz.prog 3 = some 1 := by kernel_rfl
 simp [al, Tryz.underlying35, h2]
theorem H6 {H : Nat → Option VObj} {cs : List VV} : al Tryz.prog H 35 (.tp cs) 1 = some (.tp (cs.drop 1)) := by
 have h2 : szT Tryz.prog 3 = some 1 := by kernel_rfl
 simp [al, Tryz.underlying35, h2]
theorem HA {H : Nat → Option VObj} {β o : Nat} : al Tryz.prog H 35 (.ptr β o) 1 = if (H β).isSome = true then some (.ptr β (o + 1)) else none := by
 have h2 : szT Tryz.prog 3 = some 1 := by kernel_rfl
 simp [al, Tryz.underlying35, h2]
theorem HB {c0 c1 c2 c3 c4 : VV} {cs : List VV} : vload Tryz.prog 49 (c0 :: c1 :: c2 :: c3 :: c4 :: cs) = some (.agg [c0, c1, c2, c3, c4]) := by
 have h1 : aggT Tryz.prog 49 = some true := by kernel_rfl
 have h2 : szT Tryz.prog 49 = some 5 := by kernel_rfl
 simp [vload, vpart, h1, h2]
theorem HC : szT Tryz.prog 49 = some 5 := by kernel_rfl
theorem vC : vzl Tryz.prog 49 = some [.lit (.int .i64 0), .lit (.bool false), .lit (.int .i64 0), .lit (.int .i64 0), .lit (.slice none 0 0)] := by kernel_rfl
theorem HD {H : Nat → Option VObj} {cs : List VV} : al Tryz.prog H 49 (.tp cs) 0 = some (.tp (cs.drop 0)) := by
 have h2 : szT Tryz.prog 3 = some 1 := by kernel_rfl
 simp [al, Tryz.underlying49, h2]
theorem HE {H : Nat → Option VObj} {β o : Nat} : al Tryz.prog H 49 (.ptr β o) 0 = if (H β).isSome = true then some (.ptr β (o + 0)) else none := by
 have h2 : szT Tryz.prog 3 = some 1 := by kernel_rfl
 simp [al, Tryz.underlying49, h2]
theorem HF {H : Nat → Option VObj} {cs : List VV} : al Tryz.prog H 49 (.tp cs) 1 = some (.tp (cs.drop 1)) := by
 have h2 : szT Tryz.prog 4 = some 1 := by kernel_rfl
 simp [al, Tryz.underlying49, h2]
theorem HG {H : Nat → Option VObj} {β o : Nat} : al Tryz.prog H 49 (.ptr β o) 1 = if (H β).isSome = true then some (.ptr β (o + 1)) else none := by
 have h2 : szT Tryz.prog 4 = some 1 := by kernel_rfl
 simp [al, Tryz.underlying49, h2]
theorem HI {H : Nat → Option VObj} {cs : List VV} : al Tryz.prog H 49 (.tp cs) 2 = some (.tp (cs.drop 2)) := by
 have h2 : szT Tryz.prog 35 = some 2 := by kernel_rfl
 simp [al, Tryz.underlying49, h2]
theorem HJ {H : Nat → Option VObj} {β o : Nat} : al Tryz.prog H 49 (.ptr β o) 2 = if (H β).isSome = true then some (.ptr β (o + 2)) else none := by
 have h2 : szT Tryz.prog 35 = some 2 := by kernel_rfl
 simp [al, Tryz.underlying49, h2]
theorem HK {H : Nat → Option VObj} {cs : List VV} : al Tryz.prog H 49 (.tp cs) 3 = some (.tp (cs.drop 4)) := by
 have h2 : szT Tryz.prog 22 = some 1 := by kernel_rfl
 simp [al, Tryz.underlying49, h2]
theorem HL {H : Nat → Option VObj} {β o : Nat} : al Tryz.prog H 49 (.ptr β o) 3 = if (H β).isSome = true then some (.ptr β (o + 4)) else none := by
 have h2 : szT Tryz.prog 22 = some 1 := by kernel_rfl
 simp [al, Tryz.underlying49, h2]
theorem vD {H : Nat → Option VObj} {cs : List VV} {n : Nat} {f : Bool} : vlen Tryz.prog H 51 (.sl cs n f) = some (.lit (.int .i64 n)) := by simp [vlen, Tryz.underlying51, sls]
theorem lenN51 {H : Nat → Option VObj} : vlen Tryz.prog H 51 (.lit (.slice none 0 0)) = some (.lit (.int .i64 0)) := by simp [vlen, Tryz.underlying51, sls]
theorem lenR51 {H : Nat → Option VObj} {β off n w c : Nat} : vlen Tryz.prog H 51 (.ref β off n w c) = (match H β with | some (.cells _ cs) => if off ≤ cs.length then some (.lit (.int .i64 n)) else none | _ => none) := lenR Tryz.underlying51
theorem HM : elemT Tryz.prog 51 = some 60 := by simp [elemT, Tryz.underlying51]
theorem HN {a0 : VV} (h : leafL [a0] = true) : aO Tryz.prog 51 1 [(0, a0)] = some ([a0], 1) := by
 have h2 : szT Tryz.prog 60 = some 1 := by kernel_rfl
 have h3 : vzero Tryz.prog 60 = some #[.int .i64 0] := by kernel_rfl
 simp only [j2, j1, Bool.and_true, Bool.and_eq_true] at h
 simp [aO, Tryz.underlying51, h2, h3, vfill, vcells1, h, overwrite, vzeros, List.range_succ]
theorem HO {c : VV} {cs : List VV} : vload Tryz.prog 60 (c :: cs) = some c := by
 have h1 : aggT Tryz.prog 60 = some false := by kernel_rfl
 simp [vload, vpart, h1]
theorem vE {H : Nat → Option VObj} {cs : List VV} {n : Nat} {f : Bool} : vlen Tryz.prog H 71 (.sl cs n f) = some (.lit (.int .i64 n)) := by simp [vlen, Tryz.underlying71, sls]
theorem lenN71 {H : Nat → Option VObj} : vlen Tryz.prog H 71 (.lit (.slice none 0 0)) = some (.lit (.int .i64 0)) := by simp [vlen, Tryz.underlying71, sls]
theorem lenR71 {H : Nat → Option VObj} {β off n w c : Nat} : vlen Tryz.prog H 71 (.ref β off n w c) = (match H β with | some (.cells _ cs) => if off ≤ cs.length then some (.lit (.int .i64 n)) else none | _ => none) := lenR Tryz.underlying71
theorem HP {c0 c1 c2 c3 c4 : VV} {cs : List VV} : vload Tryz.prog 92 (c0 :: c1 :: c2 :: c3 :: c4 :: cs) = some (.agg [c0, c1, c2, c3, c4]) := by
 have h1 : aggT Tryz.prog 92 = some true := by kernel_rfl
 have h2 : szT Tryz.prog 92 = some 5 := by kernel_rfl
 simp [vload, vpart, h1, h2]
theorem HQ : szT Tryz.prog 92 = some 5 := by kernel_rfl
theorem nR : vzl Tryz.prog 92 = some [.lit (.int .i64 0), .lit (.slice none 0 0), .lit (.slice none 0 0), .lit (.slice none 0 0), .lit (.map none)] := by kernel_rfl
theorem HR {H : Nat → Option VObj} {cs : List VV} : al Tryz.prog H 92 (.tp cs) 0 = some (.tp (cs.drop 0)) := by
 have h2 : szT Tryz.prog 25 = some 3 := by kernel_rfl
 simp [al, Tryz.underlying92, h2]
theorem HS {H : Nat → Option VObj} {β o : Nat} : al Tryz.prog H 92 (.ptr β o) 0 = if (H β).isSome = true then some (.ptr β (o + 0)) else none := by
 have h2 : szT Tryz.prog 25 = some 3 := by kernel_rfl
 simp [al, Tryz.underlying92, h2]
theorem HT {H : Nat → Option VObj} {cs : List VV} : al Tryz.prog H 92 (.tp cs) 1 = some (.tp (cs.drop 3)) := by
 have h2 : szT Tryz.prog 22 = some 1 := by kernel_rfl
 simp [al, Tryz.underlying92, h2]
theorem HU {H : Nat → Option VObj} {β o : Nat} : al Tryz.prog H 92 (.ptr β o) 1 = if (H β).isSome = true then some (.ptr β (o + 3)) else none := by
 have h2 : szT Tryz.prog 22 = some 1 := by kernel_rfl
 simp [al, Tryz.underlying92, h2]
theorem HV {H : Nat → Option VObj} {β o : Nat} : al Tryz.prog H 92 (.ptr β o) 2 = if (H β).isSome = true then some (.ptr β (o + 4)) else none := by
 have h2 : szT Tryz.prog 90 = some 1 := by kernel_rfl
 simp [al, Tryz.underlying92, h2]
theorem vF {c0 c1 : VV} {cs : List VV} : vload Tryz.prog 152 (c0 :: c1 :: cs) = some (.agg [c0, c1]) := by
 have h1 : aggT Tryz.prog 152 = some true := by kernel_rfl
 have h2 : szT Tryz.prog 152 = some 2 := by kernel_rfl
 simp [vload, vpart, h1, h2]
theorem vG : szT Tryz.prog 152 = some 2 := by kernel_rfl
theorem l6 : vzl Tryz.prog 152 = some [.lit (.int .i64 0), .lit (.int .i64 0)] := by kernel_rfl
theorem bH : szT Tryz.prog 27 = some 1 := by kernel_rfl
theorem bI {c : VV} {cs : List VV} : vload Tryz.prog 27 (c :: cs) = some c := by
 have h1 : aggT Tryz.prog 27 = some false := by kernel_rfl
 simp [vload, vpart, h1]
theorem bj : vzl Tryz.prog 27 = some [.lit .nilFunc] := by kernel_rfl
theorem bJ {c : VV} {cs : List VV} : vload Tryz.prog 47 (c :: cs) = some c := by
 have h1 : aggT Tryz.prog 47 = some false := by kernel_rfl
 simp [vload, vpart, h1]
theorem nD {c : VV} {cs : List VV} : vload Tryz.prog 129 (c :: cs) = some c := by
 have h1 : aggT Tryz.prog 129 = some false := by kernel_rfl
 simp [vload, vpart, h1]
theorem de {c : VV} {cs : List VV} : vload Tryz.prog 130 (c :: cs) = some c := by
 have h1 : aggT Tryz.prog 130 = some false := by kernel_rfl
 simp [vload, vpart, h1]
theorem vH {c : VV} {cs : List VV} : vload Tryz.prog 153 (c :: cs) = some c := by
 have h1 : aggT Tryz.prog 153 = some false := by kernel_rfl
 simp [vload, vpart, h1]
theorem vI : szT Tryz.prog 154 = some 2 := by kernel_rfl
theorem l9 : vzl Tryz.prog 154 = some [.lit .nilFunc, .lit .nilFunc] := by kernel_rfl
theorem HW {H : Nat → Option VObj} {β o : Nat} {k : IntKind} : aB Tryz.prog H 154 (.ptr β o) (.lit (.int k 0)) = if (H β).isSome = true then some (.ptr β (o + 0)) else none := by
 have h2 : szT Tryz.prog 153 = some 1 := by kernel_rfl
 simp [aB, Tryz.underlying154, h2]
theorem HX {H : Nat → Option VObj} {β o : Nat} {k : IntKind} : aB Tryz.prog H 154 (.ptr β o) (.lit (.int k 1)) = if (H β).isSome = true then some (.ptr β (o + 1)) else none := by
 have h2 : szT Tryz.prog 153 = some 1 := by kernel_rfl
 simp [aB, Tryz.underlying154, h2]
theorem HY : vbuild Tryz.prog 35 [] = some (.agg [.lit (.int .i64 0), .lit (.int .i64 0)]) := by
 rw [rS l5 (by kernel_rfl)]
 rfl
theorem HZ {cA cP : VV} (h : leafL [cA, cP] = true) : vbuild Tryz.prog 35 [(0, cA), (1, cP)] = some (.agg [cA, cP]) := by
 have p0 : placeT Tryz.prog 35 0 = some (0, 1) := by kernel_rfl
 have p1 : placeT Tryz.prog 35 1 = some (1, 1) := by kernel_rfl
 simp only [j2, j1, Bool.and_true, Bool.and_eq_true] at h
 rw [rS l5 (by kernel_rfl)]
 simp [vfill, p0, p1, vcells1, h, overwrite]
theorem Ia {cA lA lB cP qu : VV} (h : leafL [cA, lA, lB, cP, qu] = true) : vbuild Tryz.prog 92 [(0, .agg [cA, lA, lB]), (1, cP), (2, qu)] = some (.agg [cA, lA, lB, cP, qu]) := by
 have p0 : placeT Tryz.prog 92 0 = some (0, 3) := by kernel_rfl
 have p1 : placeT Tryz.prog 92 1 = some (3, 1) := by kernel_rfl
 have p2 : placeT Tryz.prog 92 2 = some (4, 1) := by kernel_rfl
 simp only [j2, j1, Bool.and_true, Bool.and_eq_true] at h
 have q0 : aR (.agg [cA, lA, lB]) = some [cA, lA, lB] := by rw [KI]; simp [j2, j1, h]
 rw [rS nR (by kernel_rfl)]
 simp [vfill, p0, p1, p2, vcells1, h, overwrite, q0]
theorem Ib {cA cP : VV} (h : leafL [cA, cP] = true) : vbuild Tryz.prog 152 [(0, cA), (1, cP)] = some (.agg [cA, cP]) := by
 have p0 : placeT Tryz.prog 152 0 = some (0, 1) := by kernel_rfl
 have p1 : placeT Tryz.prog 152 1 = some (1, 1) := by kernel_rfl
 simp only [j2, j1, Bool.and_true, Bool.and_eq_true] at h
 rw [rS l6 (by kernel_rfl)]
 simp [vfill, p0, p1, vcells1, h, overwrite]
theorem Ic {cA cP : VV} (h : leafL [cA, cP] = true) : vbuild Tryz.prog 154 [(0, cA), (1, cP)] = some (.agg [cA, cP]) := by
 have p0 : placeT Tryz.prog 154 0 = some (0, 1) := by kernel_rfl
 have p1 : placeT Tryz.prog 154 1 = some (1, 1) := by kernel_rfl
 simp only [j2, j1, Bool.and_true, Bool.and_eq_true] at h
 rw [rS l9 (by kernel_rfl)]
 simp [vfill, p0, p1, vcells1, h, overwrite]
theorem vJ {x : VV} : mkIfcV Tryz.prog 124 x = some (.ifc 124 x) := by simp [mkIfcV, Tryz.underlying124]
theorem vK : ((Tryz.prog.info? 124).bind (·.zero)).map (fun z => VV.tup [ofVal2 z, .lit (.bool false)]) = some (.tup [.agg [.lit (.slice none 0 0)], .lit (.bool false)]) := by kernel_rfl
theorem vL : vtypeAssert Tryz.prog (.lit .nilIface) 124 true = some (.tup [.agg [.lit (.slice none 0 0)], .lit (.bool false)]) := by
 simp only [vtypeAssert, Tryz.underlying124, if_true]
 exact vK
theorem vM {x : VV} : vtypeAssert Tryz.prog (.ifc 124 x) 124 true = some (.tup [x, .lit (.bool true)]) := by
 simp [vtypeAssert, Tryz.underlying124]
theorem RA {H : Nat → Option VObj} {x y : Operand} {a b : Bool} : binV Tryz.prog H .eql 4 x y (.lit (.bool a)) (.lit (.bool b)) = some (.lit (.bool (a == b))) := yW Tryz.underlying4
theorem RB {H : Nat → Option VObj} {x y : Operand} {a b : Bool} : binV Tryz.prog H .neq 4 x y (.lit (.bool a)) (.lit (.bool b)) = some (.lit (.bool (a != b))) := yX Tryz.underlying4
theorem Ie {H : Nat → Option VObj} {x y : Operand} {a0 b0 : Int} {a1 b1 : Int} : binV Tryz.prog H .eql 35 x y (.agg [.lit (.int .i64 a0), .lit (.int .i64 a1)]) (.agg [.lit (.int .i64 b0), .lit (.int .i64 b1)]) = some (.lit (.bool (a0 == b0 && (a1 == b1)))) ∧ binV Tryz.prog H .neq 35 x y (.agg [.lit (.int .i64 a0), .lit (.int .i64 a1)]) (.agg [.lit (.int .i64 b0), .lit (.int .i64 b1)]) = some (.lit (.bool (!(a0 == b0 && (a1 == b1))))) := by
 refine binS (xs := [.int .i64 a0, .int .i64 a1]) (ys := [.int .i64 b0, .int .i64 b1]) (by simp [VV.val?, valL?]) (by simp [VV.val?, valL?]) Tryz.underlying35 (by kernel_rfl) (by kernel_rfl) ?_
 simp [eqF, kc, eq1, Tryz.underlying3]
theorem Ig {H : Nat → Option VObj} {x y : Operand} {a0 b0 : Int} {a1 b1 : Int} : binV Tryz.prog H .neq 35 x y (.agg [.lit (.int .i64 a0), .lit (.int .i64 a1)]) (.agg [.lit (.int .i64 b0), .lit (.int .i64 b1)]) = some (.lit (.bool (!(a0 == b0 && (a1 == b1))))) := Ie.2
theorem Ih : (VV.lit Value.nilFunc).leaf = true := rfl
theorem Ii : (VV.lit Value.nilIface).leaf = true := rfl
def tyf := (And.intro (And.intro (And.intro (And.intro (And.intro (And.intro @qt (And.intro @rG @lR)) (And.intro @R4 (And.intro @R5 @R6))) (And.intro (And.intro @R7 (And.intro @R8 @R9)) (And.intro (And.intro @GZ @He) (And.intro @Hf @v8)))) (And.intro (And.intro (And.intro @lenN22 (And.intro @lenR22 @dI)) (And.intro @Hg (And.intro @Hh @Hi))) (And.intro (And.intro @Hj (And.intro @Hk @v9)) (And.intro (And.intro @lenN23 @lenR23) (And.intro @Hl @Hm))))) (And.intro (And.intro (And.intro (And.intro @Ho (And.intro @vA @Hp)) (And.intro @Hq (And.intro @Hr @Hs))) (And.intro (And.intro @Ht (And.intro @vB @lenN31)) (And.intro (And.intro @lenR31 @mD) (And.intro @Hu @Hv)))) (And.intro (And.intro (And.intro @Hw (And.intro @Hx @l5)) (And.intro (And.intro @Hy @Hz) (And.intro @H6 @HA))) (And.intro (And.intro @HB (And.intro @HC @vC)) (And.intro (And.intro @HD @HE) (And.intro @HF @HG)))))) (And.intro (And.intro (And.intro (And.intro (And.intro @HI (And.intro @HJ @HK)) (And.intro @HL (And.intro @vD @lenN51))) (And.intro (And.intro @lenR51 (And.intro @HM @HN)) (And.intro (And.intro @HO @vE) (And.intro @lenN71 @lenR71)))) (And.intro (And.intro (And.intro @HP (And.intro @HQ @nR)) (And.intro (And.intro @HR @HS) (And.intro @HT @HU))) (And.intro (And.intro @HV (And.intro @vF @vG)) (And.intro (And.intro @l6 @bH) (And.intro @bI @bj))))) (And.intro (And.intro (And.intro (And.intro @bJ (And.intro @nD @de)) (And.intro @vH (And.intro @vI @l9))) (And.intro (And.intro @HW (And.intro @HX @HY)) (And.intro (And.intro @HZ @Ia) (And.intro @Ib @Ic)))) (And.intro (And.intro (And.intro @vJ (And.intro @vL @vM)) (And.intro (And.intro @RA @RB) (And.intro @Ig @Ih))) (And.intro (And.intro @Ii (And.intro @IM @eI_eq)) (And.intro (And.intro @m7 @eB_eq) (And.intro @eS_eq @m8)))))))
def tynrm := (And.intro @ig.normL (And.intro @ig.showL @j6.normL))
def tytre := (And.intro @ig.tree (And.intro @ig.treeL @j6.treeL))
end Go.V
namespace Go.V
open Go Go.Proofs IntKind
theorem ktA {P : Program} {G : Glob} {d : Option Tmp} {γ : Nat} {tm : Nat → VV} {H : Nat → Option VObj} {nx : Nat} {df : List VDef} {K : St → Prop} {Qp : VV → St → Prop} {f : FuncId} {args args0 : List VV} {x : VV} (hp : aj P G f args0 (.tree x)) (h : fin d γ tm H nx df K x .none) (hn : normL args = args0 := by first | (simp only [nrm, tynrm] <;> rfl) | rfl) (ht : treeL args = true := by simp only [tre, tytre, Bool.and_self]) : callK P G f args ⟨tm, H, nx, df⟩ d γ K Qp := ktree hn ht hp h
theorem dktA {P : Program} {G : Glob} {d : Option Tmp} {γ : Nat} {tm : Nat → VV} {H : Nat → Option VObj} {nx : Nat} {df : List VDef} {K : List Nat → List Nat → St → Prop} {f : FuncId} {args args0 : List VV} {x : VV} (hp : aj P G f args0 (.tree x)) (h : fin d γ tm H nx df (K [] []) x .none) (hn : normL args = args0 := by first | (simp only [nrm, tynrm] <;> rfl) | rfl) (ht : treeL args = true := by simp only [tre, tytre, Bool.and_self]) : dcallK P G f args tm H nx df d γ K := dktree hn ht hp h
theorem optI {α β : Type} {K : Option β → Prop} {X : Option α} {F : α → Option β} (h : K (Option.bind X F)) (kN : ¬ K none) : ∃ r, X = some r ∧ K (F r) := by
  cases X with
  | none => exact absurd h kN
  | some r => exact ⟨r, rfl, h⟩
end Go.V
end
section
namespace Go.V
open Go Go.Proofs IntKind
def Dec (P : Program) (n : Nat) (t : TypeId) {α : Type} (enc : α → List VV) (R : α → Prop) : Prop := ∀ xs, ShapeT P n t xs → ∃ x : α, R x ∧ normL xs = enc x
theorem Ij {P : Program} {n : Nat} {t : TypeId} (hu : P.underlying t = some (.int .i64)) : Dec P (n + 1) t eI (fun _ => True) := by
 intro xs h
 simp only [ShapeT, hu] at h
 obtain ⟨i, _, rfl⟩ := h
 exact ⟨i, trivial, by simp only [pD, pC, KN, eI]⟩
theorem Ik {P : Program} {n : Nat} {t : TypeId} (hu : P.underlying t = some .bool) : Dec P (n + 1) t eB (fun _ => True) := by
 intro xs h
 simp only [ShapeT, hu] at h
 obtain ⟨b, rfl⟩ := h
 exact ⟨b, trivial, by simp only [pD, pC, CS, eB]⟩
theorem LQ {P : Program} {n : Nat} {t : TypeId} {α : Type} {enc : α → List VV} {R : α → Prop} (h : Dec P n t enc R) : ∀ yss : List (List VV), (∀ ys ∈ yss, ShapeT P n t ys) → ∃ l : List α, l.length = yss.length ∧ (∀ x ∈ l, R x) ∧ normL yss.flatten = ae enc l
 | [], _ => ⟨[], rfl, fun _ hx => (by cases hx), rfl⟩
 | ys :: yss, hs => by
  obtain ⟨x, hx, e⟩ := h ys (hs ys (List.mem_cons_self ..))
  obtain ⟨l, h1, h2, h3⟩ := LQ h yss (fun y hy => hs y (List.mem_cons_of_mem _ hy))
  refine ⟨x :: l, by simp [h1], fun y hy => ?_, by rw [List.flatten_cons, rA, e, h3, iX]⟩
  rcases List.mem_cons.1 hy with rfl | hy
  ·exact hx
  ·exact h2 y hy
theorem LS {P : Program} {n : Nat} {t e : TypeId} {α : Type} {enc : α → List VV} {R : α → Prop} (hu : P.underlying t = some (.slice e)) (h : Dec P n e enc R) : Dec P (n + 1) t (fun l : List α => [.sl (ae enc l) l.length false]) (fun l => aM l = true ∧ ∀ x ∈ l, R x) := by
 intro xs hs
 simp only [ShapeT, hu] at hs
 rcases hs with rfl | ⟨yss, hl, hall, rfl⟩
 ·exact ⟨[], ⟨rfl, fun _ hx => (by cases hx)⟩, by simp only [pD, pC, KL]; rfl⟩
 ·obtain ⟨l, h1, h2, h3⟩ := LQ h yss hall
  refine ⟨l, ⟨?_, h2⟩, by simp only [pD, pC, KK, h3, h1]⟩
  have : maxLen = 9223372036854775807 := by decide
  unfold aM
  exact decide_eq_true (by omega)
theorem Il {P : Program} {n : Nat} {t : TypeId} {fs : Array Field} {xs : List VV} (hu : P.underlying t = some (.struct fs)) (h : ShapeT P (n + 1) t xs) : ∃ yss, FieldsS (ShapeT P n) fs.toList yss ∧ xs = yss.flatten := by
 simp only [ShapeT, hu] at h
 exact h
def TypesS (S : TypeId → List VV → Prop) : List TypeId → List (List VV) → Prop
 | [], [] => True
 | t :: ts, ys :: yss => S t ys ∧ TypesS S ts yss
 | _, _ => False
theorem vN {S : TypeId → List VV → Prop} : ∀ (fs : List Field) (yss : List (List VV)), FieldsS S fs yss → TypesS S (fs.map Field.type) yss
 | [], [], _ => trivial
 | f :: fs, ys :: yss, ⟨h1, h2⟩ => ⟨h1, vN fs yss h2⟩
 | [], _ :: _, h => h
 | _ :: _, [], h => h
theorem Im {P : Program} {n : Nat} {t : TypeId} {fs : Array Field} {ts : List TypeId} {xs : List VV} (hu : P.underlying t = some (.struct fs)) (ht : fs.toList.map Field.type = ts) (h : ShapeT P (n + 1) t xs) : ∃ yss, TypesS (ShapeT P n) ts yss ∧ xs = yss.flatten := by
 obtain ⟨yss, h1, h2⟩ := Il hu h
 exact ⟨yss, ht ▸ vN _ _ h1, h2⟩
theorem vu {P : Program} {n : Nat} {t : TypeId} {ts : List TypeId} {xs : List VV} (h : ArgsS P n (t :: ts) xs) : ∃ x xs', xs = x :: xs' ∧ ArgS P n t x ∧ ArgsS P n ts xs' := by
 match xs, h with
 | x :: xs', h => exact ⟨x, xs', rfl, h.1, h.2⟩
theorem FZ {P : Program} {n : Nat} {xs : List VV} (h : ArgsS P n [] xs) : xs = [] := by
 match xs, h with
 | [], _ => rfl
theorem FW {P : Program} {n : Nat} {t : TypeId} {fs : Array Field} {x : VV} {α : Type} {enc : α → List VV} {R : α → Prop} (hu : P.underlying t = some (.struct fs)) (hd : Dec P n t enc R) (h : ArgS P n t x) : ∃ s, R s ∧ normV x = .agg (enc s) := by
 obtain ⟨ys, h1, h2⟩ := h
 rw [hu] at h2
 obtain rfl : x = .agg ys := h2
 obtain ⟨s, hs, e⟩ := hd ys h1
 exact ⟨s, hs, by rw [KM, e]⟩
theorem xw {P : Program} {n : Nat} {t : TypeId} {d : TypeDesc} {x : VV} {α : Type} {enc : α → List VV} {R : α → Prop} (hu : P.underlying t = some d) (hn : (∀ fs, d ≠ .struct fs) ∧ ∀ m e, d ≠ .array m e) (hd : Dec P n t enc R) (h : ArgS P n t x) : ∃ s, R s ∧ [normV x] = enc s := by
 obtain ⟨ys, h1, h2⟩ := h
 rw [hu] at h2
 have h3 : ys = [x] := by
  cases d <;> first | exact h2 | exact absurd rfl (hn.1 _) | exact absurd rfl (hn.2 _ _)
 subst h3
 obtain ⟨s, hs, e⟩ := hd _ h1
 exact ⟨s, hs, by rw [← e, pD, pC]⟩
end Go.V
end
section
set_option maxRecDepth 100000
namespace Go.V
open Go Go.Proofs IntKind
def Io (x : GBs) : Prop := aM x.Needs = true
def LU (x : GBk) : Prop := aM x.Boards = true ∧ aM x.Strokes = true ∧ ∀ y ∈ x.Strokes, Io y
section
variable {P : Program} (gB : P.underlying 3 = some (.int .i64)) (dr : P.underlying 22 = some (.slice 3)) (jI : P.underlying 4 = some (.bool)) {LV : Array Field} (dt : P.underlying 35 = some (.struct LV)) (du : LV.toList.map Field.type = [3, 3]) {LW : Array Field} (dv : P.underlying 49 = some (.struct LW)) (dw : LW.toList.map Field.type = [3, 4, 35, 22]) (dx : P.underlying 23 = some (.slice 49)) {LY : Array Field} (dy : P.underlying 25 = some (.struct LY)) (dz : LY.toList.map Field.type = [3, 22, 23])
include gB dr jI dt du dv dw dx dy dz
theorem gd_3 {n : Nat} : Dec P (n + 1) 3 eI (fun _ => True) := Ij gB
theorem gd_22 {n : Nat} : Dec P (n + 2) 22 (eSl eI) (fun l => aM l = true ∧ ∀ x ∈ l, True) := LS dr (gd_3 gB dr jI dt du dv dw dx dy dz (n := n))
theorem gd_4 {n : Nat} : Dec P (n + 1) 4 eB (fun _ => True) := Ik jI
theorem gd_35 {n : Nat} : Dec P (n + 2) 35 cGSpan (fun _ => True) := by
 intro xs h
 obtain ⟨yss, hf, rfl⟩ := Im (n := n + 1) (ts := [3, 3]) dt du h
 match yss, hf with
 | [y0, y1], ⟨h0, h1, _⟩ =>
  obtain ⟨x0, r0, e0⟩ := gd_3 gB dr jI dt du dv dw dx dy dz (n := n + 0) _ h0
  obtain ⟨x1, r1, e1⟩ := gd_3 gB dr jI dt du dv dw dx dy dz (n := n + 0) _ h1
  exact ⟨⟨x0, x1⟩, trivial, by simp only [List.flatten_cons, List.flatten_nil, List.append_nil, rA, e0, e1, eI, m6, eB, eS, eSl, qt, List.cons_append, List.nil_append]⟩
theorem gd_49 {n : Nat} : Dec P (n + 3) 49 cGBs (Io) := by
 intro xs h
 obtain ⟨yss, hf, rfl⟩ := Im (n := n + 2) (ts := [3, 4, 35, 22]) dv dw h
 match yss, hf with
 | [y0, y1, y2, y3], ⟨h0, h1, h2, h3, _⟩ =>
  obtain ⟨x0, r0, e0⟩ := gd_3 gB dr jI dt du dv dw dx dy dz (n := n + 1) _ h0
  obtain ⟨x1, r1, e1⟩ := gd_4 gB dr jI dt du dv dw dx dy dz (n := n + 1) _ h1
  obtain ⟨x2, r2, e2⟩ := gd_35 gB dr jI dt du dv dw dx dy dz (n := n + 0) _ h2
  obtain ⟨x3, r3, e3⟩ := gd_22 gB dr jI dt du dv dw dx dy dz (n := n + 0) _ h3
  exact ⟨⟨x0, x1, x2, x3⟩, r3.1, by simp only [List.flatten_cons, List.flatten_nil, List.append_nil, rA, e0, e1, e2, e3, eI, m6, eB, eS, eSl, rG, qt, List.cons_append, List.nil_append]⟩
theorem gd_23 {n : Nat} : Dec P (n + 4) 23 (eSl cGBs) (fun l => aM l = true ∧ ∀ x ∈ l, Io x) := LS dx (gd_49 gB dr jI dt du dv dw dx dy dz (n := n))
theorem gd_25 {n : Nat} : Dec P (n + 5) 25 cGBk (LU) := by
 intro xs h
 obtain ⟨yss, hf, rfl⟩ := Im (n := n + 4) (ts := [3, 22, 23]) dy dz h
 match yss, hf with
 | [y0, y1, y2], ⟨h0, h1, h2, _⟩ =>
  obtain ⟨x0, r0, e0⟩ := gd_3 gB dr jI dt du dv dw dx dy dz (n := n + 3) _ h0
  obtain ⟨x1, r1, e1⟩ := gd_22 gB dr jI dt du dv dw dx dy dz (n := n + 2) _ h1
  obtain ⟨x2, r2, e2⟩ := gd_23 gB dr jI dt du dv dw dx dy dz (n := n + 0) _ h2
  exact ⟨⟨x0, x1, x2⟩, ⟨r1.1, r2.1, r2.2⟩, by simp only [List.flatten_cons, List.flatten_nil, List.append_nil, rA, e0, e1, e2, eI, m6, eB, eS, eSl, lR, List.cons_append, List.nil_append]⟩
end
theorem dec_3 {n : Nat} : Dec Tryz.prog (n + 1) 3 eI (fun _ => True) := gd_3 Tryz.underlying3 Tryz.underlying22 Tryz.underlying4 Tryz.underlying35 (by kernel_rfl) Tryz.underlying49 (by kernel_rfl) Tryz.underlying23 Tryz.underlying25 (by kernel_rfl)
theorem FY {n : Nat} : Dec Tryz.prog (n + 2) 22 (eSl eI) (fun l => aM l = true ∧ ∀ x ∈ l, True) := gd_22 Tryz.underlying3 Tryz.underlying22 Tryz.underlying4 Tryz.underlying35 (by kernel_rfl) Tryz.underlying49 (by kernel_rfl) Tryz.underlying23 Tryz.underlying25 (by kernel_rfl)
theorem FX {n : Nat} : Dec Tryz.prog (n + 5) 25 cGBk (LU) := gd_25 Tryz.underlying3 Tryz.underlying22 Tryz.underlying4 Tryz.underlying35 (by kernel_rfl) Tryz.underlying49 (by kernel_rfl) Tryz.underlying23 Tryz.underlying25 (by kernel_rfl)
end Go.V
end
section
namespace Go.V
open Go Go.Proofs IntKind
def xB (xs : List Int) : Option (List Int) := cond (neB xs) (cond (roomOk 8 xs.length) (some xs) none) none
theorem RE (xs R : List Int) (h : xB xs = some R) : aj Tryz.prog G0 124 [.sl (ae eI xs) xs.length false] (.own (ae eI R) R.length 1) := by
 unfold xB at h
 cases hn : neB xs with
 | false => rw [hn] at h; cases h
 | true =>
 cases hr : roomOk 8 xs.length with
 | false => rw [hn, hr] at h; cases h
 | true =>
 rw [hn, hr] at h
 simp only [cond_true, Option.some.injEq] at h
 subst h
 have hc : ae eI xs ≠ [] := by
  cases xs with
  | nil => cases hn
  | cons a l => intro hh; cases hh
 have hnil : ∀ (H : Nat → Option VObj) (x y : Operand), binV Tryz.prog H .eql 22 x y (.sl (ae eI xs) xs.length false) (.lit (.slice none 0 0)) = some (.lit (.bool false)) := fun H x y => Gb Tryz.underlying22 hc
 have hb : aO Tryz.prog 22 0 [] = some ([], 1) := by kernel_rfl
 refine aj.run mixed Tryz.call124 Tryz.func124 rfl (by simp [Tryz.ntmps124]; kernel_rfl) ?_
 simp only [vz, tyf, hnil, hb, List.map_nil, seval]
 refine Ga (w := 1) (enc := eI) (xs := ([] : List Int)) (ys := xs) (el := some 3) (fun _ => rfl) im iq Tryz.underlying22 rfl hn (by rw [List.nil_append]; exact hr) ?_
 simp only [vz, tyf, List.nil_append, seval]
 refine ⟨rfl, .ref 5 0 xs.length 1 xs.length, by simp [Tryz.results124, resV, resL, resV1, upd], (ae eI xs).length + 1, 5, _, ae eI xs, ⟨_, rfl⟩, by simp only [aU, bg, seval] <;> rfl, qH _ _ (eI_ok.treeL xs) (Nat.lt_succ_self _)⟩
def ExtOk (β y e : Nat) (mc : List VV) (mf : Nat) (ln lim : Nat) (may : List Int → Int → Option Bool) (I : Inv) (d : Nat) : Prop :=
  ∀ (p : List Int) (rest : List VV) (L : List (List Int)) (Fr : Nat → Prop) (H : Nat → Option VObj) (nx : Nat), p.length + d = ln → listsO may lim d p = some L → (∀ γ, Fr γ → γ < nx) → Fr y → Fr e → H y = some (.cells (some 27) [.yl β]) →
    H e = some (.cells (some 27) [.fn (.func 138) [] [.tp [.lit (.int .i64 ln)], .ptr y 0, .tp [.lit (.int .i64 lim)], .tp [.fn (.func mf) [] mc], .ptr e 0]]) →
    I (some (L.map (vx eI) ++ rest)) Fr H nx →
    an Tryz.prog G0 138 [vx eI p, .tp [.lit (.int .i64 ln)], .ptr y 0, .tp [.lit (.int .i64 lim)], .tp [.fn (.func mf) [] mc], .ptr e 0] H nx
      (fun v H' nx' => ∃ b, v = .lit (.bool b) ∧ nx ≤ nx' ∧ (∀ γ, Fr γ → H' γ = H γ) ∧ I (if b then some rest else none) Fr H' nx') (fun _ _ _ => False)
theorem vO {P : Program} {t e : Nat} {H : Nat → Option VObj} (hu : P.underlying t = some (.slice e)) : ∀ {p : List Int}, vlen P H t (vx eI p) = some (.lit (.int .i64 p.length))
  | [] => by simp [vlen, vx, hu, sls]
  | _ :: _ => by simp [vlen, vx, hu, sls]
theorem Ip : aj Tryz.prog G0 124 [.lit (.slice none 0 0)] (.tree (.lit (.slice none 0 0))) := by
  have hnil : ∀ (H : Nat → Option VObj) (x y : Operand), binV Tryz.prog H .eql 22 x y (.lit (.slice none 0 0)) (.lit (.slice none 0 0)) = some (.lit (.bool true)) := fun H x y => by kernel_rfl
  refine aj.run mixed Tryz.call124 Tryz.func124 rfl (by simp [Tryz.ntmps124]; kernel_rfl) ?_
  simp only [vz, tyf, @bJ, @bI, @bH, @bj, hnil, seval, ua]
  exact ⟨rfl, .lit (.slice none 0 0), by simp [Tryz.results124, resV, resL, resV1, upd], 1, rfl⟩
theorem Iq {β y e : Nat} {mc : List VV} {mf ln lim : Nat} {may : List Int → Int → Option Bool} {I : Inv} (hst : Stable I) (hr : Rounds Tryz.prog G0 β I) (htm : treeL mc = true) (vP : 0 < ln) (hln : ln < 1000) (hlim : lim < 1000000)
    (hm : ∀ (p : List Int) (j : Int) (b : Bool), may p j = some b → aj Tryz.prog G0 mf (.sl (ae eI p) p.length false :: .lit (.int .i64 j) :: mc) (.tree (.lit (.bool b)))) : ∀ d, ExtOk β y e mc mf ln lim may I d := by
  intro d
  induction d with
  | zero =>
    intro p rest L Fr H nx hd hL hF hFy hFe hy he hI
    simp only [listsO, Option.some.injEq] at hL
    subst hL
    refine an.run mixed Tryz.call138 Tryz.func138 rfl (by simp [Tryz.ntmps138]; kernel_rfl) ?_
    have hl := fun H => vO (P := Tryz.prog) (H := H) Tryz.underlying22 (p := p)
    have hq : ((p.length : Int) == (ln : Int)) = true := by rw [show p.length = ln from hd]; simp
    simp only [argsTm6, vz, tyf, @bJ, @bI, @bH, @bj, seval, ua, hl, hq, hy, rg]
    have RF : I (some (vx eI p :: rest)) Fr H (nx + 9) := hst _ _ _ _ _ _ _ hI (fun _ _ _ => rfl) (by omega) (fun γ h => .inl h)
    refine (hr (vx eI p) rest Fr H (nx + 9) (fun γ h => by have := hF γ h; omega) RF) (some none) _ _ _ rfl rfl ?_
    rintro b H' nx' ⟨h1, h2, h3⟩
    simp only [vz, tyf, @bJ, @bI, @bH, @bj, seval, ua]
    exact cH (x := .lit (.bool b)) (by simp [Tryz.results138, resV, resL, resV1, upd]) ⟨b, rfl, by omega, h2, h3⟩
  | succ d ih =>
    intro p rest L Fr H nx hd hL hF hFy hFe hy he hI
    rw [listsO] at hL
    refine an.run mixed Tryz.call138 Tryz.func138 rfl (by simp [Tryz.ntmps138]; kernel_rfl) ?_
    have hl := fun H => vO (P := Tryz.prog) (H := H) Tryz.underlying22 (p := p)
    have hq : ((p.length : Int) == (ln : Int)) = false := by rw [← hd]; simp; omega
    simp only [argsTm6, vz, tyf, @bJ, @bI, @bH, @bj, seval, ua, hl, hq, hy, rg]
    obtain ⟨J, hJ⟩ : ∃ J : Nat → St → Prop, J = (fun m st => ∃ j : Nat, j + m = lim ∧ st.df = [] ∧ nx ≤ st.nx ∧ (∀ γ, Fr γ → st.H γ = H γ) ∧
      (∃ L, goL (listsO may lim d) may p (List.range' j m) = some L ∧ I (some (L.map (vx eI) ++ rest)) Fr st.H st.nx) ∧
      st.tm 0 = vx eI p ∧ st.tm 4 = .tp [.fn (.func mf) [] mc] ∧ st.tm 5 = .ptr e 0 ∧ st.tm 16 = .lit (.int .i64 lim) ∧ st.tm 17 = .lit (.int .i64 j)) := ⟨_, rfl⟩
    refine loopK mixed (by kernel_rfl) J lim (by rw [hJ]; refine ⟨0, by omega, rfl, ?_, fun _ _ => rfl, ⟨L, hL, hst _ _ _ _ _ _ _ hI (fun _ _ _ => rfl) ?_ (fun γ h => .inl h)⟩, ?_, ?_, ?_, ?_, ?_⟩ <;> first | rfl | (simp only; omega)) ?_
    rintro m ⟨tm, H1, bp, df⟩ hinv
    rw [hJ] at hinv
    obtain ⟨j, hj, hdf, hn, qv, ⟨L1, gY, rH⟩, e0, e4, e5, bC, b6⟩ := hinv
    simp only at hdf hn qv rH e0 e4 e5 bC b6
    subst hdf
    cases m with
    | zero =>
      have Ir : decide ((j : Int) < (lim : Int)) = false := by simp; omega
      simp only [vz, tyf, @bJ, @bI, @bH, @bj, seval, ua, bC, b6, Ir]
      refine cH (x := .lit (.bool true)) (by simp [Tryz.results138, resV, resL, resV1, upd]) ⟨true, rfl, by omega, qv, ?_⟩
      simp only [List.range'_zero, goL, Option.some.injEq] at gY
      subst gY
      exact hst _ _ _ _ _ _ _ rH (fun _ _ _ => rfl) (by omega) (fun γ h => .inl h)
    | succ m =>
      have Ir : decide ((j : Int) < (lim : Int)) = true := by simp; omega
      simp only [vz, tyf, @bJ, @bI, @bH, @bj, seval, ua, bC, b6, Ir, e0, e4, e5]
      refine vW (fun tm => tm 0 = vx eI p ∧ tm 4 = .tp [.fn (.func mf) [] mc] ∧ tm 5 = .ptr e 0 ∧ tm 8 = .lit (.int .i64 j) ∧ tm 16 = .lit (.int .i64 lim) ∧ tm 17 = .lit (.int .i64 j)) (by refine ⟨?_, ?_, ?_, ?_, ?_, ?_⟩ <;> simp only [ua, seval, e0, e4, e5, bC, b6]) ?_
      clear e0 e4 e5 bC b6 tm
      rintro tm ⟨e0, e4, e5, e8, bC, b6⟩
      refine ye mixed 11 rfl rfl rfl (by kernel_rfl) ?_
      rw [List.range'_succ] at gY
      unfold goL at gY
      rcases hmb : may p (j : Int) with _ | mb
      · rw [hmb] at gY; cases gY
      rw [hmb, Option.bind_some] at gY
      have hmay' : aj Tryz.prog G0 mf (vx eI p :: .lit (.int .i64 j) :: mc) (.tree (.lit (.bool mb))) := aj.weaken (by
        rintro c W vs ⟨u, us, rfl, h1, h2⟩
        exact ⟨u, us, rfl, Gh h1, h2⟩) (hm p j mb hmb)
      simp only [vz, tyf, @bJ, @bI, @bH, @bj, seval, ua, e0, e4, e5, e8, bC, b6, rg]
      refine .inl ⟨by simp only [Dq, Gj eI_ok, Dr, htm, Bool.and_self], .tree _, hmay', ?_⟩
      have hw : i64.wrap ((j : Int) + 1) = ((j + 1 : Nat) : Int) := by rw [IntWalk.i64_in _ (by omega)]; simp
      have lC : H1 e = _ := (qv e hFe).trans he
      have xA : H1 y = _ := (qv y hFy).trans hy
      have hen : e < bp := Nat.lt_of_lt_of_le (hF e hFe) hn
      have hyn : y < bp := Nat.lt_of_lt_of_le (hF y hFy) hn
      cases mb with
      | false =>
        rw [cond_false] at gY
        simp only [vz, tyf, @bJ, @bI, @bH, @bj, seval, ua, e0, e4, e5, e8, bC, b6, rg, hw]
        rw [hJ]
        exact ⟨m, Nat.lt_succ_self _, j + 1, by omega, rfl, (by show nx ≤ bp + 19; omega), qv, ⟨L1, gY, hst _ _ _ _ _ _ _ rH (fun _ _ _ => rfl) (by show bp ≤ bp + 19; omega) (fun γ h => .inl h)⟩, by simp only [ua, seval, e0], by simp only [ua, seval, e4], by simp only [ua, seval, e5], by simp only [ua, seval, bC], by simp only [ua, seval]⟩
      | true =>
        rw [cond_true] at gY
        rcases hLa : listsO may lim d (p ++ [(j : Int)]) with _ | La
        · rw [hLa] at gY; cases gY
        rw [hLa, Option.bind_some] at gY
        rcases hLr : goL (listsO may lim d) may p (List.range' (j + 1) m) with _ | Lr
        · rw [hLr] at gY; cases gY
        rw [hLr, Option.bind_some, Option.some.injEq] at gY
        subst gY
        rw [List.map_append, List.append_assoc] at rH
        have hv : vx eI (p ++ [(j : Int)]) = .sl (ae eI (p ++ [(j : Int)])) (p ++ [(j : Int)]).length false := Gi (by simp)
        have hroom : roomOk 8 (p ++ [(j : Int)]).length = true := by
          unfold roomOk
          simp only [List.length_append, List.length_cons, List.length_nil, decide_eq_true_eq]
          omega
        simp only [vz, tyf, @bJ, @bI, @bH, @bj, seval, ua, e0, e4, e5, e8, bC, b6, rg, lC]
        rcases hpc : p with _ | ⟨p0, pt⟩
        · subst hpc
          refine .inl ⟨rfl, .tree _, Ip, ?_⟩
          simp only [vz, tyf, @bJ, @bI, @bH, @bj, seval, ua, e0, e4, e5, e8, bC, b6, rg, lC]
          have hroom1 : roomOk 8 ([] ++ [(j : Int)]).length = true := rfl
          refine me (w := 1) (enc := eI) (ys := [(j : Int)]) (jN := some 3) (fun _ => rfl) im iq Tryz.underlying22 (by simp only [ua, nm, seval]; rfl) (Nat.zero_lt_succ _) hroom1 ?_
          simp only [vz, tyf, @bJ, @bI, @bH, @bj, seval, ua, nm, e0, e4, e5, e8, bC, b6, rg, lC]
          refine jQ ⟨?_, ?_⟩
          · simp only [jR, jS, dQ, jT, and_true, true_and]
            repeat' (first | exact trivial | refine And.intro ?_ ?_ | rw [dQ] | rw [jU] | exact Or.inl (by decide +kernel) | exact Or.inl (by dsimp only; decide +kernel) | (refine Or.inr ⟨?_, ?_⟩ <;> simp; done) | (refine Or.inr ⟨?_, ?_⟩ <;> simp <;> omega) | (refine Or.inr ⟨?_, ?_⟩ <;> simp [VEff.wr] <;> omega))
          simp only [vz, tyf, @bJ, @bI, @bH, @bj, seval, ua, e0, e4, e5, e8, bC, b6, rg, lC]
          refine kopen ?_
          rw [pH]
          have hcell : (updH (updH H1 (bp + 12) (VObj.cells (some 3) [VV.lit (Value.int IntKind.i64 ↑j)])) (bp + 13) (VObj.cells (some 3) (ae eI ([] ++ [(j : Int)])))) (bp + 13) = some (.cells (some 3) (ae eI ([] ++ [(j : Int)]))) := by simp only [ua, seval]
          have hbig : ∀ γ, γ < bp → without (updH (updH H1 (bp + 12) (VObj.cells (some 3) [VV.lit (Value.int IntKind.i64 ↑j)])) (bp + 13) (VObj.cells (some 3) (ae eI ([] ++ [(j : Int)])))) (bp + 13) γ = H1 γ := by
            intro γ h
            simp only [updH, without]
            repeat rw [if_neg (by omega)]
          refine an.mono (an.freeze1 (γ := bp + 13) hcell (args' := [vx eI ([] ++ [(j : Int)]), .tp [.lit (.int .i64 ln)], .ptr y 0, .tp [.lit (.int .i64 lim)], .tp [.fn (.func mf) [] mc], .ptr e 0]) ⟨by rw [hv]; exact Frozen.own hcell (eI_ok.treeL _) (by rw [dH (w := 1) (fun _ => rfl)]), FrozenL.same⟩ (ih ([] ++ [(j : Int)]) _ La Fr _ _ (by simp at hd ⊢; omega) hLa (fun γ h => by have := hF γ h; omega) hFy hFe ((hbig y hyn).trans xA) ((hbig e hen).trans lC) (hst _ _ _ _ _ _ _ rH (fun γ h _ => hbig γ h) (by omega) (fun γ h => .inl h)))) ?_ (fun _ _ _ h => h.elim)
          rintro v H2 fv ⟨b, rfl, h1, h2, h3⟩
          have vQ : ∀ γ, Fr γ → H2 γ = H γ := fun γ h => by rw [h2 γ h, hbig γ (Nat.lt_of_lt_of_le (hF γ h) hn), qv γ h]
          simp only [vz, tyf, @bJ, @bI, @bH, @bj, seval, ua, e0, e4, e5, e8, bC, b6, rg, lC]
          cases b with
          | false =>
            simp only [vz, tyf, @bJ, @bI, @bH, @bj, seval, ua, Bool.not_false]
            refine cH (x := .lit (.bool false)) (by simp [Tryz.results138, resV, resL, resV1, upd]) ⟨false, rfl, by omega, vQ, ?_⟩
            exact hst _ _ _ _ _ _ _ h3 (fun _ _ _ => rfl) (by omega) (fun γ h => .inl h)
          | true =>
            simp only [vz, tyf, @bJ, @bI, @bH, @bj, seval, ua, Bool.not_true, hw]
            simp only [if_true] at h3
            rw [hJ]
            exact ⟨m, Nat.lt_succ_self _, j + 1, by omega, rfl, (by show nx ≤ fv + 2; omega), vQ, ⟨Lr, hLr, hst _ _ _ _ _ _ _ h3 (fun _ _ _ => rfl) (by show fv ≤ fv + 2; omega) (fun γ h => .inl h)⟩, by simp only [ua, seval, e0], by simp only [ua, seval, e4], by simp only [ua, seval, e5], by simp only [ua, seval, bC], by simp only [ua, seval]⟩
        rw [← hpc]
        have hne : p ≠ [] := by rw [hpc]; simp
        have hvp : vx eI p = .sl (ae eI p) p.length false := Gi hne
        rw [hvp]
        have hcl : xB p = some p := by
          unfold xB
          have h1 : neB p = true := by rw [hpc]; rfl
          have h2 : roomOk 8 p.length = true := by
            unfold roomOk at hroom ⊢
            simp only [List.length_append, List.length_cons, List.length_nil, decide_eq_true_eq] at hroom ⊢
            omega
          rw [h1, h2]; rfl
        refine dkown (args0 := [.sl (ae eI p) p.length false]) (by first | (simp only [nrm, tynrm]; done) | (simp only [nrm, tynrm]; rfl) | rfl) (by simp only [tre, tytre, Bool.and_self]) (RE _ _ hcl) ?_
        simp only [vz, tyf, @bJ, @bI, @bH, @bj, seval, ua, e0, e4, e5, e8, bC, b6, rg, lC]
        refine k_app (w := 1) (enc := eI) (xs := p) (ys := [(j : Int)]) (el := none) (jN := some 3) (fun _ => rfl) im iq Tryz.underlying22 (by simp only [ua, nm, seval]) (by simp only [ua, nm, seval]; rfl) (Nat.zero_lt_succ _) hroom ?_
        simp only [vz, tyf, @bJ, @bI, @bH, @bj, seval, ua, nm, e0, e4, e5, e8, bC, b6, rg, lC]
        refine jQ ⟨?_, ?_⟩
        · simp only [jR, jS, dQ, jT, and_true, true_and]
          repeat' (first | exact trivial | refine And.intro ?_ ?_ | rw [dQ] | rw [jU] | exact Or.inl (by decide +kernel) | exact Or.inl (by dsimp only; decide +kernel) | (refine Or.inr ⟨?_, ?_⟩ <;> simp; done) | (refine Or.inr ⟨?_, ?_⟩ <;> simp <;> omega) | (refine Or.inr ⟨?_, ?_⟩ <;> simp [VEff.wr] <;> omega))
        simp only [vz, tyf, @bJ, @bI, @bH, @bj, seval, ua, e0, e4, e5, e8, bC, b6, rg, lC]
        refine kopen ?_
        rw [pH]
        have hcell : (updH (without (updH (updH H1 (bp + 10) (VObj.cells none (ae eI p))) (bp + 12) (VObj.cells (some 3) [VV.lit (Value.int IntKind.i64 ↑j)])) (bp + 10)) (bp + 13) (VObj.cells (sameEl none 3) (ae eI (p ++ [(j : Int)])))) (bp + 13) = some (.cells (sameEl none 3) (ae eI (p ++ [(j : Int)]))) := by simp only [ua, seval]
        have hbig : ∀ γ, γ < bp → without (updH (without (updH (updH H1 (bp + 10) (VObj.cells none (ae eI p))) (bp + 12) (VObj.cells (some 3) [VV.lit (Value.int IntKind.i64 ↑j)])) (bp + 10)) (bp + 13) (VObj.cells (sameEl none 3) (ae eI (p ++ [(j : Int)])))) (bp + 13) γ = H1 γ := by
          intro γ h
          simp only [updH, without]
          repeat rw [if_neg (by omega)]
        refine an.mono (an.freeze1 (γ := bp + 13) hcell (args' := [vx eI (p ++ [(j : Int)]), .tp [.lit (.int .i64 ln)], .ptr y 0, .tp [.lit (.int .i64 lim)], .tp [.fn (.func mf) [] mc], .ptr e 0]) ⟨by rw [hv]; exact Frozen.own hcell (eI_ok.treeL _) (by rw [dH (w := 1) (fun _ => rfl)]), FrozenL.same⟩ (ih (p ++ [(j : Int)]) _ La Fr _ _ (by simp; omega) hLa (fun γ h => by have := hF γ h; omega) hFy hFe ((hbig y hyn).trans xA) ((hbig e hen).trans lC) (hst _ _ _ _ _ _ _ rH (fun γ h _ => hbig γ h) (by omega) (fun γ h => .inl h)))) ?_ (fun _ _ _ h => h.elim)
        rintro v H2 fv ⟨b, rfl, h1, h2, h3⟩
        have vQ : ∀ γ, Fr γ → H2 γ = H γ := fun γ h => by rw [h2 γ h, hbig γ (Nat.lt_of_lt_of_le (hF γ h) hn), qv γ h]
        simp only [vz, tyf, @bJ, @bI, @bH, @bj, seval, ua, e0, e4, e5, e8, bC, b6, rg, lC]
        cases b with
        | false =>
          simp only [vz, tyf, @bJ, @bI, @bH, @bj, seval, ua, Bool.not_false]
          refine cH (x := .lit (.bool false)) (by simp [Tryz.results138, resV, resL, resV1, upd]) ⟨false, rfl, by omega, vQ, ?_⟩
          exact hst _ _ _ _ _ _ _ h3 (fun _ _ _ => rfl) (by omega) (fun γ h => .inl h)
        | true =>
          simp only [vz, tyf, @bJ, @bI, @bH, @bj, seval, ua, Bool.not_true, hw]
          simp only [if_true] at h3
          rw [hJ]
          exact ⟨m, Nat.lt_succ_self _, j + 1, by omega, rfl, (by show nx ≤ fv + 2; omega), vQ, ⟨Lr, hLr, hst _ _ _ _ _ _ _ h3 (fun _ _ _ => rfl) (by show fv ≤ fv + 2; omega) (fun γ h => .inl h)⟩, by simp only [ua, seval, e0], by simp only [ua, seval, e4], by simp only [ua, seval, e5], by simp only [ua, seval, bC], by simp only [ua, seval]⟩
theorem RG {mc : List VV} {mf ln lim : Nat} {may : List Int → Int → Option Bool} {L : List (List Int)} (htm : treeL mc = true) (vP : 0 < ln) (hln : ln < 1000) (hlim : lim < 1000000)
    (hL : listsO may lim ln [] = some L) (hm : ∀ (p : List Int) (j : Int) (b : Bool), may p j = some b → aj Tryz.prog G0 mf (.sl (ae eI p) p.length false :: .lit (.int .i64 j) :: mc) (.tree (.lit (.bool b)))) :
    Iter Tryz.prog G0 (.fn (.func 137) [] [.tp [.lit (.int .i64 ln)], .tp [.lit (.int .i64 lim)], .tp [.fn (.func mf) [] mc]]) (L.map sI) := by
  rw [← Gk (fun q hq hn => by have := EH _ _ _ hL q hq; rw [hn] at this; simp at this; omega)]
  refine ⟨137, [], _, rfl, fun β I hst hr H nx hβ hI => ?_⟩
  refine an.run mixed Tryz.call137 Tryz.func137 rfl (by simp [Tryz.ntmps137]; kernel_rfl) ?_
  simp only [List.nil_append, List.cons_append, argsTm4, vz, tyf, @bJ, @bI, @bH, @bj, seval, ua, rg]
  refine kopen ?_
  rw [pH]
  refine an.mono (Iq hst hr htm vP hln hlim hm ln [] [] L (fun γ => γ = nx + 0 ∨ γ = nx + 1) _ _ (by simp) hL (by rintro γ (rfl | rfl) <;> omega) (.inl rfl) (.inr rfl) (by simp [updH]) (by simp [updH]) ?_) ?_ (fun _ _ _ h => h.elim)
  · rw [List.append_nil]
    refine hst _ _ _ _ _ _ _ hI ?_ (by omega) (by rintro γ (rfl | rfl) <;> right <;> omega)
    intro γ h _
    simp only [updH]
    repeat rw [if_neg (by omega)]
  rintro v H2 fv ⟨b, rfl, h1, h2, h3⟩
  simp only [vz, tyf, @bJ, @bI, @bH, @bj, seval, ua]
  refine IE (x := .tup []) (by simp [Tryz.results137, resV, resL]) ?_
  replace h3 := hst _ _ noFr _ _ _ _ h3 (fun _ _ _ => rfl) (Nat.le_refl _) (fun γ h => h.elim)
  cases b with
  | true => exact .inl h3
  | false => exact .inr h3
def aN (k : Gbe) : Value := .agg ⟨[.int .i64 k.stroke, .int .i64 k.hours]⟩
def cw (a b : Gbe) : Bool := ((a.stroke == b.stroke) && ((a.hours == b.hours) && true))
def bM (n : Int) : VV := .lit (.int .i64 n)
theorem nS (a b : Gbe) : aD Tryz.prog (Op.equal 152 (aN a) (aN b)) = some (cw a b) := by
 unfold Op.equal
 exact za 5 152 _ _ _ (by kernel_rfl) 9995
theorem nT (b : Bool) (k : Gbe) : aD Tryz.prog (Instr.checkKey b 10000 152 (aN k)) = some () := by
 cases b <;> kernel_rfl
theorem kJ (a b : Gbe) (h : cw a b = true) : a = b := by
 obtain ⟨astroke, ahours⟩ := a
 obtain ⟨bstroke, bhours⟩ := b
 simp only [cw, Bool.and_true, Bool.and_eq_true, beq_iff_eq] at h
 simp only [h]
theorem vR (a : Gbe) : Instr.sameBits 10000 (aN a) (aN a) = true := by
 simp [aN, Instr.sameBits]
theorem RH : ((Tryz.prog.info? 3).bind (·.zero)).map ofVal2 = some (bM 0) := by kernel_rfl
theorem nU (k : Gbe) : VV.val? (.agg [.lit (.int .i64 k.stroke), .lit (.int .i64 k.hours)]) = some (aN k) := rfl
theorem sM {β : Nat} (l : List (Gbe × Int)) (k : Gbe) (H : Nat → Option VObj) (hb : H β = some (.map (encM aN bM l))) : vlookup Tryz.prog H 90 (.mp β) (.agg [.lit (.int .i64 k.stroke), .lit (.int .i64 k.hours)]) true = some (.tup [.lit (.int .i64 (mapGet cw 0 l k)), .lit (.bool (mapHas cw l k))]) :=
 Rq Tryz.underlying90 Tryz.underlying152 nS nT RH (nU k) hb
theorem sO {β : Nat} (l : List (Gbe × Int)) (k : Gbe) (n : Int) (H : Nat → Option VObj) (hb : H β = some (.map (encM aN bM l))) : vmapUpdate Tryz.prog H 90 (.mp β) (.agg [.lit (.int .i64 k.stroke), .lit (.int .i64 k.hours)]) (.lit (.int .i64 n)) = some (.upd β (.map (encM aN bM (mapSet cw l k n)))) :=
 Re Tryz.underlying90 Tryz.underlying152 nS nT kJ vR (nU k) hb
theorem Is {c : VV} {cs : List VV} : vload Tryz.prog 90 (c :: cs) = some c := by
 have h1 : aggT Tryz.prog 90 = some false := by kernel_rfl
 simp [vload, vpart, h1]
theorem It : szT Tryz.prog 90 = some 1 := by kernel_rfl
theorem vS : vzl Tryz.prog 90 = some [.lit (.map none)] := by kernel_rfl
def mqr := (And.intro @Gw (And.intro @Gx True.intro))
def mqt := (And.intro @Is (And.intro @It @vS))
def RoundsM (P : Program) (G : Glob) (β : Nat) (I : Inv) : Prop := ∀ x rest (Fr : Nat → Prop) (H : Nat → Option VObj) (nx δ : Nat), (∀ γ, Fr γ → γ < nx) → δ < nx → ¬ Fr δ → H δ = some (.map []) → I (some (.agg x :: rest)) (fun γ => Fr γ ∨ γ = δ) H nx →
  Yields P G β (.agg (x ++ [.mp δ])) H nx (fun b H' nx' => nx ≤ nx' ∧ (∀ γ, Fr γ → H' γ = H γ) ∧ I (if b then some rest else none) Fr H' nx')
def IterM (P : Program) (G : Glob) (g : VV) (L : List VV) : Prop := ∃ f first captured, g = .fn (.func f) first captured ∧ ∀ (β : Nat) (I : Inv), Stable I → RoundsM P G β I → ∀ (H : Nat → Option VObj) (nx : Nat), β < nx → I (some L) noFr H nx →
  an P G f (first ++ [.yl β] ++ captured) H nx (fun _ H' nx' => I (some []) noFr H' nx' ∨ I none noFr H' nx') (fun _ _ _ => False)
theorem Qa {P : Program} {G : Glob} {n : Nat} {Q : VExit → St → Prop} {tm : Nat → VV} {H : Nat → Option VObj} {nx : Nat} {df : List VDef} {g : Operand} {ps : Array Tmp} {az bo : Code} {itv : VV} {L : List VV} (hit : IterM P G itv L) (hg : ev (G.at (some none)) tm g = itv)
    (h : ∀ LO, LO = VObj.loop .ready none (tmL n tm) ps az bo nx → ∃ I : Inv, Stable I ∧ RoundsM P G (nx + 1) I ∧ I (some L) noFr (updH (updH H nx (.deferred (some []))) (nx + 1) LO) (nx + 2) ∧
      ∀ H' nx', I (some []) noFr H' nx' ∨ I none noFr H' nx' → RangeEnd P (G.at (some none)) n Q ⟨tm, H, nx, df⟩ H' nx') : CWp P (G.at (some none)) n (.rangeFunc g ps az bo) Q ⟨tm, H, nx, df⟩ := by
  obtain ⟨f, first, captured, rfl, hv⟩ := hit
  refine L6 hg fun LO hL => ?_
  obtain ⟨I, hs, hr, h0, he⟩ := h LO hL
  exact an.mono (hv (nx + 1) I hs hr _ _ (Nat.lt_succ_self _) h0) (fun _ H' nx' hh => he H' nx' hh) (fun _ _ _ hh => hh.elim)
def ri (ak : GBk) (ah : Int) (dg : Int) : Option (Bool) := cond (dg == 0) (some true) (Option.bind (getI ak.Strokes ah) (fun x1 => some (!x1.Round)))
theorem Kk (ak : GBk) (ah : Int) (dg : Int) (R : Bool) (h : ri ak ah dg = some R) : aj Tryz.prog G0 104 [.agg (cGBk ak), .lit (.int .i64 ah), .lit (.int .i64 dg)] (.tree (.lit (.bool R))) := by
 refine aj.runR mixed Tryz.call104 Tryz.func104 rfl (by simp [Tryz.ntmps104]; kernel_rfl) ?_
 obtain ⟨KF, h, kF, kN⟩ := cJ h
 simp only [ri] at h
 cases d2 : (dg == 0)
 ·simp only [d2, hs] at h
  obtain ⟨x3, o4, h⟩ := optI h kN
  try simp only [hs] at h
  try simp only [vz, tyf, d2, (aL o4), nm, seval]
  obtain rfl := kF _ h
  exact bd Tryz.results104 rfl
 simp only [d2, hs] at h
 try simp only [vz, tyf, d2, nm, seval]
 obtain rfl := kF _ h
 exact bd Tryz.results104 rfl
def xg (cb : List Int) (dS : Int) (aE : GBk) : Option (Bool) := Option.bind (ri aE (List.length cb : Int) dS) (fun r1 => some r1)
theorem RI (cb : List Int) (dS : Int) (aE : GBk) (R : Bool) (h : xg cb dS aE = some R) : aj Tryz.prog G0 117 [.sl (ae eI cb) (List.length cb) false, .lit (.int .i64 dS), .tp (cGBk aE)] (.tree (.lit (.bool R))) := by
 refine aj.runR mixed Tryz.call117 Tryz.func117 rfl (by simp [Tryz.ntmps117]; kernel_rfl) ?_
 obtain ⟨KF, h, kF, kN⟩ := cJ h
 simp only [xg] at h
 obtain ⟨r2, o3, h⟩ := optI h kN
 try simp only [hs] at h
 simp only [vz, tyf, nm, seval]
 refine ktA (Kk _ _ _ _ o3) ?_
 refine bL (fun tm => tm 10 = .lit (.bool r2) ∧ True) (by refine ⟨?_, trivial⟩ <;> first | (simp only [ua, nm, seval] <;> rfl) | rfl) ?_
 rintro tm ⟨e4, _⟩
 try simp only [vz, tyf, e4, nm, seval]
 obtain rfl := kF _ h
 exact bd Tryz.results117 rfl
def planC (b : GBk) (pl : List Int) : List VV := cGBk b ++ [sI pl]
theorem RJ {b : GBk} {pl : List Int} : treeL (planC b pl) = true := by
  have h1 : treeL (ae eI b.Boards) = true := eI_ok.treeL _
  have h2 : treeL (ae cGBs b.Strokes) = true := j6.treeL _
  have h3 : treeL (ae eI pl) = true := eI_ok.treeL _
  simp [planC, cGBk, treeL, VV.tree, h1, h2, h3]
theorem Iu (b : GBk) (pl : List Int) : NewC Tryz.prog G0 69 [.agg (cGBk b), sI pl] (planC b pl) := by
  refine NewC.of_open RJ ?_
  refine an.run mixed Tryz.call69 Tryz.func69 rfl (by simp [Tryz.ntmps69]; kernel_rfl) ?_
  simp only [vz, mq, mqm, vsi, tyf, mqt, seval, ua]
  refine cH (x := .agg (planC b pl ++ [.mp 4])) (by first | (simp only [Tryz.results69, resV, resL, resV1, dh, di, uw, cr, tyf, mqt, nm, seval] <;> rfl) | rfl) ?_
  exact ⟨4, rfl, by simp [updH]⟩
theorem Iv {mc : List VV} {mf : Nat} {ln lim : Int} (htm : treeL mc = true) : aj Tryz.prog G0 116 [.lit (.int .i64 ln), .lit (.int .i64 lim), .fn (.func mf) [] mc] (.tree (.fn (.func 137) [] [.tp [.lit (.int .i64 ln)], .tp [.lit (.int .i64 lim)], .tp [.fn (.func mf) [] mc]])) := by
  refine aj.run mixed Tryz.call116 Tryz.func116 rfl (by simp [Tryz.ntmps116]; kernel_rfl) ?_
  simp only [vz, tyf, seval, ua, rg]
  refine ⟨rfl, .fn (.func 137) [] [.ptr 0 0, .ptr 1 0, .ptr 2 0], by simp [Tryz.results116, resV, resL, resV1, upd], 20, ?_⟩
  simp [sealV, sealL, VV.tree, treeL, updH, htm]
theorem xe {b : GBk} : treeL (cGBk b) = true := R3.tree b
def plansO (b : GBk) : Option (List (List Int)) := cond (decide (0 < b.Strokes.length) && (decide (b.Strokes.length < 1000) && (decide (0 ≤ b.Apprentices) && decide (b.Apprentices < 1000)))) (listsO (fun p j => xg p j b) (b.Apprentices.toNat + 1) b.Strokes.length []) none
def plV (b : GBk) (p : List Int) : VV := .agg (planC b p)
theorem Qm {b : GBk} {L : List (List Int)} (h : plansO b = some L) : IterM Tryz.prog G0 (.fn (.func 115) [] [.tp (cGBk b)]) (L.map (plV b)) := by
  unfold plansO at h
  cases hs : (decide (0 < b.Strokes.length) && (decide (b.Strokes.length < 1000) && (decide (0 ≤ b.Apprentices) && decide (b.Apprentices < 1000)))) with
  | false => rw [hs] at h; cases h
  | true =>
  rw [hs, cond_true] at h
  simp only [Bool.and_eq_true, decide_eq_true_eq] at hs
  obtain ⟨oe, fm, sk, wh⟩ := hs
  have hmc : treeL [VV.tp (cGBk b)] = true := by simp [treeL, VV.tree, xe]
  have hit := RG (mc := [.tp (cGBk b)]) (mf := 117) (ln := b.Strokes.length) (lim := b.Apprentices.toNat + 1) hmc oe fm (by omega) h (fun p j t hp => RI p j b t hp)
  have eA : b.Apprentices + 1 = ((b.Apprentices.toNat + 1 : Nat) : Int) := by omega
  have wA : i64.wrap (b.Apprentices + 1) = ((b.Apprentices.toNat + 1 : Nat) : Int) := by rw [IntWalk.i64_in _ (by omega)]; exact eA
  refine ⟨115, [], _, rfl, fun β I hst hr H nx hβ hI => ?_⟩
  refine an.run mixed Tryz.call115 Tryz.func115 rfl (by simp [Tryz.ntmps115]; kernel_rfl) ?_
  simp only [List.nil_append, List.cons_append, vz, tyf, seval, ua, rg, wA]
  refine ktree (args0 := [.lit (.int .i64 b.Strokes.length), .lit (.int .i64 ((b.Apprentices.toNat + 1 : Nat) : Int)), .fn (.func 117) [] [.tp (cGBk b)]]) ?_ ?_ (Iv hmc) ?_
  · first | (simp only [nrm, tynrm, lR] <;> rfl) | (simp only [nrm, tynrm]; done) | rfl
  · have h1 : treeL (cGBk b) = true := xe
    simp only [lR] at h1
    simp [treeL, VV.tree] at h1 ⊢
    exact h1
  simp only [vz, tyf, seval, ua, rg]
  refine vW (fun tm => tm 13 = .fn (.func 137) [] [.tp [.lit (.int .i64 b.Strokes.length)], .tp [.lit (.int .i64 ((b.Apprentices.toNat + 1 : Nat) : Int))], .tp [.fn (.func 117) [] [.tp (cGBk b)]]] ∧ tm 1 = .tp (cGBk b) ∧ tm 2 = .ptr nx 0) (by refine ⟨?_, ?_, ?_⟩ <;> simp only [ua, seval, Nat.add_zero, lR]) ?_
  rintro tm ⟨bN, e1, e2⟩
  refine Rd hit (by first | (simp only [kn, sN, bN, qO, seval] <;> rfl) | rfl) ?_
  intro LO hLO
  obtain ⟨J, hJ⟩ : ∃ J : Option (List VV) → Option (List VV) → List (Nat × VObj) → Prop, J = (fun o o' hp => match o with
    | some l => ∃ (p : List (List Int)), l = p.map sI ∧ o' = some (p.map (plV b)) ∧ hp = [(nx, .cells (some 130) [.yl β]), (nx + 11, .deferred (some [])), (nx + 12, LO)]
    | none => ∃ LD : Code → VObj, (∃ tml ps az bo d, LD = fun c => VObj.loop .done (some c) tml ps az bo d) ∧ o' = none ∧ hp = [(nx, .cells (some 130) [.yl β]), (nx + 11, .deferred (some [])), (nx + 12, LD .ret)]) := ⟨_, rfl⟩
  refine ⟨ownI2 I J, Rc hst, ?_, ?_, ?_⟩
  · rintro v rest Fr H1 bp hFr ⟨hp, o', hown, hj, hi⟩
    rw [hJ] at hj
    obtain ⟨p, hl, rfl, rfl⟩ := hj
    cases p with
    | nil => cases hl
    | cons e p =>
    simp only [List.map_cons, List.cons.injEq] at hl
    obtain ⟨rfl, rfl⟩ := hl
    obtain ⟨la, na, Ha⟩ := hown.head
    obtain ⟨lb, nb, Hb⟩ := hown.tail.head
    obtain ⟨lc, nc, Hc⟩ := hown.tail.tail.head
    have hfr : ∀ γ, (∃ q ∈ [(nx, .cells (some 130) [.yl β]), (nx + 11, .deferred (some [])), (nx + 12, LO)], (q : Nat × VObj).1 = γ) ↔ γ = nx ∨ γ = nx + 11 ∨ γ = nx + 12 := by
      intro γ
      simp [eq_comm]
    simp only [hfr] at hi
    refine E2 mixed (psl := [14]) hLO Hc E3 rfl (by kernel_rfl) (by kernel_rfl) ?_
    intro LB LD hLB hLD
    refine E4 (fun tm => tm 14 = sI e ∧ tm 1 = .tp (cGBk b) ∧ tm 2 = .ptr nx 0) (by refine ⟨?_, ?_, ?_⟩ <;> simp only [E5, E6, Tryz.ntmps115, e1, e2, seval]) ?_
    clear bN e1 e2
    rintro tm ⟨cB, e1, e2⟩
    have hne : (nx = nx + 12) = False := by simp
    simp only [vz, tyf, @de, seval, ua, nm, rg, RStart, cB, e1, e2, Ha, Hc, hne]
    refine vW (fun tm => tm 4 = sI e ∧ tm 1 = .tp (cGBk b) ∧ tm 2 = .ptr nx 0) (by refine ⟨?_, ?_, ?_⟩ <;> simp only [ua, seval, e1, e2, cB]) ?_
    clear cB e1 e2 tm
    rintro tm ⟨e4, e1, e2⟩
    refine yZ mixed [4] (by kernel_rfl) ?_
    refine yY (k := 4) (by decide) rfl rfl ?_
    simp only [vz, tyf, @de, seval, ua, nm, rg, e4, e1, e2, Ha, Hc, hne]
    refine dknew ?_ (Iu b e) ?_
    · have h1 : treeL (cGBk b) = true := xe
      have h2 : treeL (ae eI e) = true := eI_ok.treeL _
      simp only [lR] at h1
      simp [treeL, VV.tree, h2] at h1 ⊢
      exact h1
    simp only [vz, tyf, @de, seval, ua, nm, rg, e4, e1, e2, Ha, Hc, hne]
    refine jQ ⟨?_, ?_⟩
    · simp only [jR, jS, dQ, jT, and_true, true_and]
      repeat' (first | exact trivial | refine And.intro ?_ ?_ | rw [dQ] | rw [jU] | exact Or.inl (by decide +kernel) | exact Or.inl (by dsimp only; decide +kernel) | (refine Or.inr ⟨?_, ?_⟩ <;> simp; done) | (refine Or.inr ⟨?_, ?_⟩ <;> simp <;> omega) | (refine Or.inr ⟨?_, ?_⟩ <;> simp [VEff.wr] <;> omega))
    simp only [vz, tyf, @de, seval, ua, nm, rg, IM, e4, e1, e2, Ha, Hc, hne]
    have qm : I (some (VV.agg (planC b e) :: p.map (plV b))) (fun γ => (Fr γ ∨ γ = nx ∨ γ = nx + 11 ∨ γ = nx + 12) ∨ γ = bp + 4) (updH (updH H1 (nx + 12) LB) (bp + 4) (.map [])) (bp + 7) := by
      refine hst _ _ _ _ _ _ _ hi ?_ (by omega) ?_
      · intro γ hlt hn
        have g3 : γ ≠ nx + 12 := fun e => hn (.inr (.inr (.inr e)))
        rw [aU, if_neg (by omega), aU, if_neg g3]
      · rintro γ (h | rfl)
        · exact .inl h
        · exact .inr ⟨by omega, by omega⟩
    refine (hr (planC b e) (p.map (plV b)) (fun γ => Fr γ ∨ γ = nx ∨ γ = nx + 11 ∨ γ = nx + 12) _ _ (bp + 4) ?_ (by omega) ?_ (by rw [aU, if_pos rfl]) qm) (some (some (nx + 12))) _ _ _ rfl rfl ?_
    · rintro γ (hγ | rfl | rfl | rfl)
      · have := hFr γ hγ; omega
      · omega
      · omega
      · omega
    · rintro (hγ | h | h | h)
      · have := hFr _ hγ; omega
      · omega
      · omega
      · omega
    rintro bb H2 fv ⟨q1, q2, q3⟩
    have Ka : H2 nx = some (.cells (some 130) [.yl β]) := by rw [q2 nx (.inr (.inl rfl))]; rw [aU, if_neg (by omega)]; simp only [aU, seval, hne, Ha]
    have Kb : H2 (nx + 11) = some (.deferred (some [])) := by rw [q2 _ (.inr (.inr (.inl rfl))), aU, if_neg (by omega), aU, if_neg (by omega)]; exact Hb
    have Kc : H2 (nx + 12) = some LB := by rw [q2 _ (.inr (.inr (.inr rfl))), aU, if_neg (by omega), aU, if_pos rfl]
    have KF : ∀ γ, Fr γ → H2 γ = H1 γ := by
      intro γ hγ
      have g3 : γ ≠ nx + 12 := fun e => nc (e ▸ hγ)
      have := hFr γ hγ
      rw [q2 γ (.inl hγ), aU, if_neg (by omega), aU, if_neg g3]
    cases bb with
    | true =>
      refine IN ?_
      simp only [vz, tyf, @de, seval, ua, nm, rg, Bool.not_true]
      refine ⟨Kc, (show bp ≤ fv by omega), fun γ hγ => ?_, ?_⟩
      · have g3 : γ ≠ nx + 12 := fun e => nc (e ▸ hγ)
        simp only [updH]
        rw [if_neg g3]
        exact KF γ hγ
      · simp only [if_true] at q3 ⊢
        refine ⟨[(nx, .cells (some 130) [.yl β]), (nx + 11, .deferred (some [])), (nx + 12, LO)], some (p.map (plV b)), Own.cons (show nx < fv by omega) na ?_ (Own.cons (show nx + 11 < fv by omega) nb ?_ (Own.cons (show nx + 12 < fv by omega) nc ?_ Own.nil)), ?_, ?_⟩
        · simp only [aU, seval, hne, Ka]
        · simp only [aU, nm, seval, Kb]
        · simp only [aU, seval]
        · rw [hJ]
          exact ⟨p, rfl, rfl, rfl⟩
        · simp only [hfr]
          refine hst _ _ _ _ _ _ _ q3 ?_ (by omega) (fun γ h => .inl h)
          intro γ _ hn
          have g3 : γ ≠ nx + 12 := fun e => hn (.inr (.inr (.inr e)))
          simp only [updH]
          rw [if_neg g3]
    | false =>
      refine IN ?_
      simp only [vz, tyf, @de, seval, ua, nm, rg, Bool.not_false]
      refine ⟨Kc, (show bp ≤ fv by omega), fun γ hγ => ?_, ?_⟩
      · have g3 : γ ≠ nx + 12 := fun e => nc (e ▸ hγ)
        simp only [updH]
        rw [if_neg g3]
        exact KF γ hγ
      · simp only [Bool.false_eq_true, if_false] at q3 ⊢
        have Iw : ∀ γ, (∃ q ∈ [(nx, .cells (some 130) [.yl β]), (nx + 11, .deferred (some [])), (nx + 12, LD .ret)], (q : Nat × VObj).1 = γ) ↔ γ = nx ∨ γ = nx + 11 ∨ γ = nx + 12 := by
          intro γ
          simp [eq_comm]
        refine ⟨[(nx, .cells (some 130) [.yl β]), (nx + 11, .deferred (some [])), (nx + 12, LD .ret)], none, Own.cons (show nx < fv by omega) na ?_ (Own.cons (show nx + 11 < fv by omega) nb ?_ (Own.cons (show nx + 12 < fv by omega) nc ?_ Own.nil)), ?_, ?_⟩
        · simp only [aU, seval, hne, Ka]
        · simp only [aU, nm, seval, Kb]
        · simp only [aU, seval]
        · rw [hJ]
          exact ⟨LD, ⟨_, _, _, _, _, hLD⟩, rfl, rfl⟩
        · simp only [Iw]
          refine hst _ _ _ _ _ _ _ q3 ?_ (by omega) (fun γ h => .inl h)
          intro γ _ hn
          have g3 : γ ≠ nx + 12 := fun e => hn (.inr (.inr (.inr e)))
          simp only [updH]
          rw [if_neg g3]
  · have hfr : ∀ γ, (∃ q ∈ [(nx, .cells (some 130) [.yl β]), (nx + 11, .deferred (some [])), (nx + 12, LO)], (q : Nat × VObj).1 = γ) ↔ γ = nx ∨ γ = nx + 11 ∨ γ = nx + 12 := by
      intro γ
      simp [eq_comm]
    refine ⟨[(nx, .cells (some 130) [.yl β]), (nx + 11, .deferred (some [])), (nx + 12, LO)], some (L.map (plV b)), Own.cons (show nx < nx + 13 by omega) (fun h => h) ?_ (Own.cons (show nx + 11 < nx + 13 by omega) (fun h => h) ?_ (Own.cons (show nx + 12 < nx + 13 by omega) (fun h => h) ?_ Own.nil)), ?_, ?_⟩
    · simp only [updH]
      rw [if_neg (by omega), if_neg (by omega), if_pos (by omega)]
    · simp only [updH]
      simp
    · simp only [updH]
      simp
    · rw [hJ]
      exact ⟨L, rfl, rfl, rfl⟩
    · simp only [hfr]
      refine hst _ _ _ _ _ _ _ hI ?_ (by omega) ?_
      · intro γ hγ _
        simp only [updH]
        repeat rw [if_neg (by omega)]
      · rintro γ (h | rfl | rfl | rfl)
        · exact h.elim
        · right; omega
        · right; omega
        · right; omega
  · rintro H' nx' (⟨hp, o', hown, hj, hi⟩ | ⟨hp, o', hown, hj, hi⟩)
    · rw [hJ] at hj
      obtain ⟨p, hl, rfl, rfl⟩ := hj
      cases p with
      | cons e p => cases hl
      | nil =>
      obtain ⟨la, na, Ha⟩ := hown.head
      obtain ⟨lb, nb, Hb⟩ := hown.tail.head
      obtain ⟨lc, nc, Hc⟩ := hown.tail.tail.head
      have hfr : ∀ γ, (∃ q ∈ [(nx, .cells (some 130) [.yl β]), (nx + 11, .deferred (some [])), (nx + 12, LO)], (q : Nat × VObj).1 = γ) ↔ γ = nx ∨ γ = nx + 11 ∨ γ = nx + 12 := by
        intro γ
        simp [eq_comm]
      simp only [hfr] at hi
      refine KW hLO Hc ?_
      intro LX
      simp only [vz, tyf, @de, seval, ua, nm, rg]
      refine Gf (by simp only [aU, nm, seval, Hb]) ?_
      refine IE (x := .tup []) (by simp [Tryz.results115, resV, resL]) (.inl ?_)
      refine hst _ _ _ _ _ _ _ hi ?_ (Nat.le_refl _) (fun γ h => h.elim)
      intro γ _ hn
      have g2 : γ ≠ nx + 11 := fun e => hn (.inr (.inr (.inl e)))
      have g3 : γ ≠ nx + 12 := fun e => hn (.inr (.inr (.inr e)))
      simp only [updH]
      repeat rw [if_neg (by first | assumption | omega)]
    · rw [hJ] at hj
      obtain ⟨LD, ⟨tml, ps, az, bo, d, hLD⟩, rfl, rfl⟩ := hj
      obtain ⟨la, na, Ha⟩ := hown.head
      obtain ⟨lb, nb, Hb⟩ := hown.tail.head
      obtain ⟨lc, nc, Hc⟩ := hown.tail.tail.head
      have hfr : ∀ γ, (∃ q ∈ [(nx, .cells (some 130) [.yl β]), (nx + 11, .deferred (some [])), (nx + 12, LD .ret)], (q : Nat × VObj).1 = γ) ↔ γ = nx ∨ γ = nx + 11 ∨ γ = nx + 12 := by
        intro γ
        simp [eq_comm]
      simp only [hfr] at hi
      refine QZ hLD Hc ?_
      intro LX
      simp only [vz, tyf, @de, seval, ua, nm, rg]
      refine tQ (by simp only [aU, nm, seval, Hb]) ?_
      refine cH (x := .tup []) (by simp [Tryz.results115, resV, resL]) (.inr ?_)
      refine hst _ _ _ _ _ _ _ hi ?_ (Nat.le_refl _) (fun γ h => h.elim)
      intro γ _ hn
      have g2 : γ ≠ nx + 11 := fun e => hn (.inr (.inr (.inl e)))
      have g3 : γ ≠ nx + 12 := fun e => hn (.inr (.inr (.inr e)))
      simp only [updH]
      repeat rw [if_neg (by first | assumption | omega)]
end Go.V
end
