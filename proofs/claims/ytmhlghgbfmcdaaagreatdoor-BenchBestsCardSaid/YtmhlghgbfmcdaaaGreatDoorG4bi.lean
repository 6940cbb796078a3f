/- Part of a proof. -/
import Derived.Test.YtmhlghgbfmcdaaaGreatDoorG4bh
import Derived.Test.YtmhlghgbfmcdaaaGreatDoorG4az
import Derived.Test.YtmhlghgbfmcdaaaGreatDoorProg
set_option linter.all false
set_option maxRecDepth 4000
set_option maxHeartbeats 40000000
section
namespace Go.V
open Go Go.Proofs IntKind
theorem mixed : Tryz.prog.follows .mixedOrders = true := by kernel_rfl
structure GSpan where
 Low : Int
 High : Int
 deriving Inhabited, DecidableEq
def cGSpan (x : GSpan) : List VV := [.lit (.int .i64 x.Low), .lit (.int .i64 x.High)]
theorem qF {x : GSpan} : cGSpan x = [.lit (.int .i64 x.Low), .lit (.int .i64 x.High)] := rfl
theorem dx : EncOk cGSpan := EncOk.of (fun x => by simp only [qF, tre, Bool.and_self]) (fun x => by simp only [qF, nrm]) (fun x H d => by simp only [qF, nrm, List.map_cons, List.map_nil])
structure GBs where
 Board : Int
 Round : Bool
 Hours : GSpan
 Needs : List Int
 deriving Inhabited, DecidableEq
def cGBs (x : GBs) : List VV := [.lit (.int .i64 x.Board), .lit (.bool x.Round), .lit (.int .i64 x.Hours.Low), .lit (.int .i64 x.Hours.High), .sl (ae eI x.Needs) (List.length x.Needs) false]
theorem ui {x : GBs} : cGBs x = [.lit (.int .i64 x.Board), .lit (.bool x.Round), .lit (.int .i64 x.Hours.Low), .lit (.int .i64 x.Hours.High), .sl (ae eI x.Needs) (List.length x.Needs) false] := rfl
theorem eO : EncOk cGBs := EncOk.of (fun x => by simp only [ui, tre, dx.tree, dx.treeL, Bool.and_self]) (fun x => by simp only [ui, nrm, dx.norm, dx.normL, dx.shown, dx.showL]) (fun x H d => by simp only [ui, nrm, List.map_cons, List.map_nil])
structure GBk where
 Apprentices : Int
 Boards : List Int
 Strokes : List GBs
 deriving Inhabited, DecidableEq
def cGBk (x : GBk) : List VV := [.lit (.int .i64 x.Apprentices), .sl (ae eI x.Boards) (List.length x.Boards) false, .sl (ae cGBs x.Strokes) (List.length x.Strokes) false]
theorem k8 {x : GBk} : cGBk x = [.lit (.int .i64 x.Apprentices), .sl (ae eI x.Boards) (List.length x.Boards) false, .sl (ae cGBs x.Strokes) (List.length x.Strokes) false] := rfl
theorem gu : EncOk cGBk := EncOk.of (fun x => by simp only [k8, tre, dx.tree, dx.treeL, eO.tree, eO.treeL, Bool.and_self]) (fun x => by simp only [k8, nrm, dx.norm, dx.normL, dx.shown, dx.showL, eO.norm, eO.normL, eO.shown, eO.showL]) (fun x H d => by simp only [k8, nrm, List.map_cons, List.map_nil])
structure Gbf where
 chain : List Int
 deriving Inhabited, DecidableEq
def cGbf (x : Gbf) : List VV := [.sl (ae eI x.chain) (List.length x.chain) false]
theorem xd {x : Gbf} : cGbf x = [.sl (ae eI x.chain) (List.length x.chain) false] := rfl
theorem jv : EncOk cGbf := EncOk.of (fun x => by simp only [xd, tre, dx.tree, dx.treeL, eO.tree, eO.treeL, gu.tree, gu.treeL, Bool.and_self]) (fun x => by simp only [xd, nrm, dx.norm, dx.normL, dx.shown, dx.showL, eO.norm, eO.normL, eO.shown, eO.showL, gu.norm, gu.normL, gu.shown, gu.showL]) (fun x H d => by simp only [xd, nrm, List.map_cons, List.map_nil])
structure Gbe where
 stroke : Int
 hours : Int
 deriving Inhabited, DecidableEq
def cGbe (x : Gbe) : List VV := [.lit (.int .i64 x.stroke), .lit (.int .i64 x.hours)]
theorem xe {x : Gbe} : cGbe x = [.lit (.int .i64 x.stroke), .lit (.int .i64 x.hours)] := rfl
theorem qG : EncOk cGbe := EncOk.of (fun x => by simp only [xe, tre, dx.tree, dx.treeL, eO.tree, eO.treeL, gu.tree, gu.treeL, jv.tree, jv.treeL, Bool.and_self]) (fun x => by simp only [xe, nrm, dx.norm, dx.normL, dx.shown, dx.showL, eO.norm, eO.normL, eO.shown, eO.showL, gu.norm, gu.normL, gu.shown, gu.showL, jv.norm, jv.normL, jv.shown, jv.showL]) (fun x H d => by simp only [xe, nrm, List.map_cons, List.map_nil])
theorem qH : EncOk (eSl eI) := EncOk.sl eI_ok
theorem Q4 {c : VV} {cs : List VV} : aD Tryz.prog 2 (c :: cs) = some c := by
 have h1 : aggT Tryz.prog 2 = some false := by kernel_rfl
 simp [aD, aO, h1]
theorem Q5 : szT Tryz.prog 2 = some 1 := by kernel_rfl
theorem Cz : vzl Tryz.prog 2 = some [.lit (.int .i64 0)] := by kernel_rfl
theorem Q6 {c : VV} {cs : List VV} : aD Tryz.prog 3 (c :: cs) = some c := by
 have h1 : aggT Tryz.prog 3 = some false := by kernel_rfl
 simp [aD, aO, h1]
theorem Q7 : szT Tryz.prog 3 = some 1 := by kernel_rfl
theorem C0 : vzl Tryz.prog 3 = some [.lit (.int .i64 0)] := by kernel_rfl
theorem Q8 {c : VV} {cs : List VV} : aD Tryz.prog 4 (c :: cs) = some c := by
 have h1 : aggT Tryz.prog 4 = some false := by kernel_rfl
 simp [aD, aO, h1]
theorem Q9 : szT Tryz.prog 4 = some 1 := by kernel_rfl
theorem C1 : vzl Tryz.prog 4 = some [.lit (.bool false)] := by kernel_rfl
theorem QA {c : VV} {cs : List VV} : aD Tryz.prog 9 (c :: cs) = some c := by
 have h1 : aggT Tryz.prog 9 = some false := by kernel_rfl
 simp [aD, aO, h1]
theorem QB : szT Tryz.prog 9 = some 1 := by kernel_rfl
theorem C2 : vzl Tryz.prog 9 = some [.lit (.string ⟨#[]⟩)] := by kernel_rfl
theorem C3 {c : VV} {cs : List VV} : aD Tryz.prog 22 (c :: cs) = some c := by
 have h1 : aggT Tryz.prog 22 = some false := by kernel_rfl
 simp [aD, aO, h1]
theorem C4 : szT Tryz.prog 22 = some 1 := by kernel_rfl
theorem uj : vzl Tryz.prog 22 = some [.lit (.slice none 0 0)] := by kernel_rfl
theorem uk {H : Nat → Option VObj} {cs : List VV} {n : Nat} {f : Bool} : vlen Tryz.prog H 22 (.sl cs n f) = some (.lit (.int .i64 n)) := by simp [vlen, Tryz.underlying22, sls]
theorem lenN22 {H : Nat → Option VObj} : vlen Tryz.prog H 22 (.lit (.slice none 0 0)) = some (.lit (.int .i64 0)) := by simp [vlen, Tryz.underlying22, sls]
theorem lenR22 {H : Nat → Option VObj} {β off n w c : Nat} : vlen Tryz.prog H 22 (.ref β off n w c) = (match H β with | some (.cells _ cs) => if off ≤ cs.length then some (.lit (.int .i64 n)) else none | _ => none) := lenR Tryz.underlying22
theorem cL : elemT Tryz.prog 22 = some 3 := by simp [elemT, Tryz.underlying22]
theorem cU : appOk Tryz.prog 22 = some (3, 1, 8) := by kernel_rfl
theorem C5 {xs : List Int} : (ae eI xs).take (xs.length * 1) = ae eI xs := um (fun _ => rfl)
theorem d5 : ∀ x : Int, leafL (eI x) = true := fun x => by simp only [eI_eq, ph, eB_eq, eS_eq, pj, gg, gh, C6, C7, C8, C9, pk, Bool.and_self]
theorem bm {xs : List Int} {x : Int} {i : Int} (h : getI xs i = some x) : (∀ (H : Nat → Option VObj) (β c : Nat) (k : IntKind), aA Tryz.prog H 22 (.ref β 0 xs.length 1 c) (.lit (.int k i)) = if (H β).isSome = true then some (.ptr β (i.toNat * 1)) else none) ∧ (ae eI xs).drop (i.toNat * 1) = eI x ++ ae eI (xs.drop (i.toNat + 1)) ∧ (i.toNat * 1 ≤ (ae eI xs).length) = True := ixO Tryz.underlying22 (by kernel_rfl : szT Tryz.prog 3 = some 1) (fun _ => rfl) h
theorem CA {a0 : VV} (h : leafL [a0] = true) : av Tryz.prog 22 1 [(0, a0)] = some ([a0], 1) := by
 have h2 : szT Tryz.prog 3 = some 1 := by kernel_rfl
 have h3 : vzero Tryz.prog 3 = some #[.int .i64 0] := by kernel_rfl
 simp only [gh, gg, Bool.and_true, Bool.and_eq_true] at h
 simp [av, Tryz.underlying22, h2, h3, vfill, vcells1, h, overwrite, vzeros, List.range_succ]
theorem CB {a0 a1 : VV} (h : leafL [a0, a1] = true) : av Tryz.prog 22 2 [(0, a0), (1, a1)] = some ([a0, a1], 1) := by
 have h2 : szT Tryz.prog 3 = some 1 := by kernel_rfl
 have h3 : vzero Tryz.prog 3 = some #[.int .i64 0] := by kernel_rfl
 simp only [gh, gg, Bool.and_true, Bool.and_eq_true] at h
 simp [av, Tryz.underlying22, h2, h3, vfill, vcells1, h, overwrite, vzeros, List.range_succ]
theorem CD {a0 a1 a2 : VV} (h : leafL [a0, a1, a2] = true) : av Tryz.prog 22 3 [(0, a0), (1, a1), (2, a2)] = some ([a0, a1, a2], 1) := by
 have h2 : szT Tryz.prog 3 = some 1 := by kernel_rfl
 have h3 : vzero Tryz.prog 3 = some #[.int .i64 0] := by kernel_rfl
 simp only [gh, gg, Bool.and_true, Bool.and_eq_true] at h
 simp [av, Tryz.underlying22, h2, h3, vfill, vcells1, h, overwrite, vzeros, List.range_succ]
theorem aR {H : Nat → Option VObj} {xs : List Int} {x : Int} {f : Bool} {k : IntKind} {i : Int} (h : getI xs i = some x) : aA Tryz.prog H 22 (.sl (ae eI xs) xs.length f) (.lit (.int k i)) = some (.tp (eI x ++ ae eI (xs.drop (i.toNat + 1)))) :=
 ixG Tryz.underlying22 (by kernel_rfl : szT Tryz.prog 3 = some 1) (by decide) (fun _ => rfl) h
theorem CE {c : VV} {cs : List VV} : aD Tryz.prog 23 (c :: cs) = some c := by
 have h1 : aggT Tryz.prog 23 = some false := by kernel_rfl
 simp [aD, aO, h1]
theorem CF : szT Tryz.prog 23 = some 1 := by kernel_rfl
theorem uo : vzl Tryz.prog 23 = some [.lit (.slice none 0 0)] := by kernel_rfl
theorem uq {H : Nat → Option VObj} {cs : List VV} {n : Nat} {f : Bool} : vlen Tryz.prog H 23 (.sl cs n f) = some (.lit (.int .i64 n)) := by simp [vlen, Tryz.underlying23, sls]
theorem lenN23 {H : Nat → Option VObj} : vlen Tryz.prog H 23 (.lit (.slice none 0 0)) = some (.lit (.int .i64 0)) := by simp [vlen, Tryz.underlying23, sls]
theorem lenR23 {H : Nat → Option VObj} {β off n w c : Nat} : vlen Tryz.prog H 23 (.ref β off n w c) = (match H β with | some (.cells _ cs) => if off ≤ cs.length then some (.lit (.int .i64 n)) else none | _ => none) := lenR Tryz.underlying23
theorem CG : elemT Tryz.prog 23 = some 49 := by simp [elemT, Tryz.underlying23]
theorem CH {xs : List GBs} : (ae cGBs xs).take (xs.length * 5) = ae cGBs xs := um (fun _ => rfl)
theorem ml {xs : List GBs} {x : GBs} {i : Int} (h : getI xs i = some x) : (∀ (H : Nat → Option VObj) (β c : Nat) (k : IntKind), aA Tryz.prog H 23 (.ref β 0 xs.length 5 c) (.lit (.int k i)) = if (H β).isSome = true then some (.ptr β (i.toNat * 5)) else none) ∧ (ae cGBs xs).drop (i.toNat * 5) = cGBs x ++ ae cGBs (xs.drop (i.toNat + 1)) ∧ (i.toNat * 5 ≤ (ae cGBs xs).length) = True := ixO Tryz.underlying23 (by kernel_rfl : szT Tryz.prog 49 = some 5) (fun _ => rfl) h
theorem CI {c0 c1 c2 c3 c4 : VV} (h : leafL [c0, c1, c2, c3, c4] = true) : av Tryz.prog 23 1 [(0, .agg [c0, c1, c2, c3, c4])] = some ([c0, c1, c2, c3, c4], 5) := by
 have h2 : szT Tryz.prog 49 = some 5 := by kernel_rfl
 have h3 : vzero Tryz.prog 49 = some #[.int .i64 0, .bool false, .int .i64 0, .int .i64 0, .slice none 0 0] := by kernel_rfl
 simp only [gh, gg, Bool.and_true, Bool.and_eq_true] at h
 simp [av, Tryz.underlying23, h2, h3, vfill, aT, h, overwrite, vzeros]
theorem aZ {H : Nat → Option VObj} {xs : List GBs} {x : GBs} {f : Bool} {k : IntKind} {i : Int} (h : getI xs i = some x) : aA Tryz.prog H 23 (.sl (ae cGBs xs) xs.length f) (.lit (.int k i)) = some (.tp (cGBs x ++ ae cGBs (xs.drop (i.toNat + 1)))) :=
 ixG Tryz.underlying23 (by kernel_rfl : szT Tryz.prog 49 = some 5) (by decide) (fun _ => rfl) h
theorem CJ {c0 c1 c2 : VV} {cs : List VV} : aD Tryz.prog 25 (c0 :: c1 :: c2 :: cs) = some (.agg [c0, c1, c2]) := by
 have h1 : aggT Tryz.prog 25 = some true := by kernel_rfl
 have h2 : szT Tryz.prog 25 = some 3 := by kernel_rfl
 simp [aD, aO, h1, h2]
theorem CK : szT Tryz.prog 25 = some 3 := by kernel_rfl
theorem ur : vzl Tryz.prog 25 = some [.lit (.int .i64 0), .lit (.slice none 0 0), .lit (.slice none 0 0)] := by kernel_rfl
theorem CL {H : Nat → Option VObj} {cs : List VV} : ak Tryz.prog H 25 (.tp cs) 0 = some (.tp (cs.drop 0)) := by
 have h2 : szT Tryz.prog 3 = some 1 := by kernel_rfl
 simp [ak, Tryz.underlying25, h2]
theorem CM {H : Nat → Option VObj} {β o : Nat} : ak Tryz.prog H 25 (.ptr β o) 0 = if (H β).isSome = true then some (.ptr β (o + 0)) else none := by
 have h2 : szT Tryz.prog 3 = some 1 := by kernel_rfl
 simp [ak, Tryz.underlying25, h2]
theorem CN {c0 c1 c2 : VV} : aV Tryz.prog 25 (.agg [c0, c1, c2]) 0 = some (c0) := by
 have h1 : aggT Tryz.prog 3 = some false := by kernel_rfl
 have h2 : szT Tryz.prog 3 = some 1 := by kernel_rfl
 simp [aV, Tryz.underlying25, aO, h1, h2]
theorem CP {H : Nat → Option VObj} {cs : List VV} : ak Tryz.prog H 25 (.tp cs) 1 = some (.tp (cs.drop 1)) := by
 have h2 : szT Tryz.prog 22 = some 1 := by kernel_rfl
 simp [ak, Tryz.underlying25, h2]
theorem CQ {H : Nat → Option VObj} {β o : Nat} : ak Tryz.prog H 25 (.ptr β o) 1 = if (H β).isSome = true then some (.ptr β (o + 1)) else none := by
 have h2 : szT Tryz.prog 22 = some 1 := by kernel_rfl
 simp [ak, Tryz.underlying25, h2]
theorem CS {c0 c1 c2 : VV} : aV Tryz.prog 25 (.agg [c0, c1, c2]) 1 = some (c1) := by
 have h1 : aggT Tryz.prog 22 = some false := by kernel_rfl
 have h2 : szT Tryz.prog 22 = some 1 := by kernel_rfl
 simp [aV, Tryz.underlying25, aO, h1, h2]
theorem CT {H : Nat → Option VObj} {cs : List VV} : ak Tryz.prog H 25 (.tp cs) 2 = some (.tp (cs.drop 2)) := by
 have h2 : szT Tryz.prog 23 = some 1 := by kernel_rfl
 simp [ak, Tryz.underlying25, h2]
theorem CU {H : Nat → Option VObj} {β o : Nat} : ak Tryz.prog H 25 (.ptr β o) 2 = if (H β).isSome = true then some (.ptr β (o + 2)) else none := by
 have h2 : szT Tryz.prog 23 = some 1 := by kernel_rfl
 simp [ak, Tryz.underlying25, h2]
theorem CV {c0 c1 c2 : VV} : aV Tryz.prog 25 (.agg [c0, c1, c2]) 2 = some (c2) := by
 have h1 : aggT Tryz.prog 23 = some false := by kernel_rfl
 have h2 : szT Tryz.prog 23 = some 1 := by kernel_rfl
 simp [aV, Tryz.underlying25, aO, h1, h2]
theorem CW {c : VV} {cs : List VV} : aD Tryz.prog 29 (c :: cs) = some c := by
 have h1 : aggT Tryz.prog 29 = some false := by kernel_rfl
 simp [aD, aO, h1]
theorem CX : szT Tryz.prog 29 = some 1 := by kernel_rfl
theorem uu : vzl Tryz.prog 29 = some [.lit (.int .i64 0)] := by kernel_rfl
theorem CY {c : VV} {cs : List VV} : aD Tryz.prog 31 (c :: cs) = some c := by
 have h1 : aggT Tryz.prog 31 = some false := by kernel_rfl
 simp [aD, aO, h1]
theorem CZ : szT Tryz.prog 31 = some 1 := by kernel_rfl
theorem uv : vzl Tryz.prog 31 = some [.lit (.slice none 0 0)] := by kernel_rfl
theorem ux {H : Nat → Option VObj} {cs : List VV} {n : Nat} {f : Bool} : vlen Tryz.prog H 31 (.sl cs n f) = some (.lit (.int .i64 n)) := by simp [vlen, Tryz.underlying31, sls]
theorem lenN31 {H : Nat → Option VObj} : vlen Tryz.prog H 31 (.lit (.slice none 0 0)) = some (.lit (.int .i64 0)) := by simp [vlen, Tryz.underlying31, sls]
theorem lenR31 {H : Nat → Option VObj} {β off n w c : Nat} : vlen Tryz.prog H 31 (.ref β off n w c) = (match H β with | some (.cells _ cs) => if off ≤ cs.length then some (.lit (.int .i64 n)) else none | _ => none) := lenR Tryz.underlying31
theorem Da : elemT Tryz.prog 31 = some 35 := by simp [elemT, Tryz.underlying31]
theorem Db {xs : List GSpan} : (ae cGSpan xs).take (xs.length * 2) = ae cGSpan xs := um (fun _ => rfl)
theorem Dc {c0 c1 : VV} (h : leafL [c0, c1] = true) : av Tryz.prog 31 1 [(0, .agg [c0, c1])] = some ([c0, c1], 2) := by
 have h2 : szT Tryz.prog 35 = some 2 := by kernel_rfl
 have h3 : vzero Tryz.prog 35 = some #[.int .i64 0, .int .i64 0] := by kernel_rfl
 simp only [gh, gg, Bool.and_true, Bool.and_eq_true] at h
 simp [av, Tryz.underlying31, h2, h3, vfill, aT, h, overwrite, vzeros]
theorem Dd {c0 c1 : VV} {cs : List VV} : aD Tryz.prog 35 (c0 :: c1 :: cs) = some (.agg [c0, c1]) := by
 have h1 : aggT Tryz.prog 35 = some true := by kernel_rfl
 have h2 : szT Tryz.prog 35 = some 2 := by kernel_rfl
 simp [aD, aO, h1, h2]
theorem De : szT Tryz.prog 35 = some 2 := by kernel_rfl
theorem ka : vzl Tryz.prog 35 = some [.lit (.int .i64 0), .lit (.int .i64 0)] := by kernel_rfl
theorem Df {H : Nat → Option VObj} {cs : List VV} : ak Tryz.prog H 35 (.tp cs) 0 = some (.tp (cs.drop 0)) := by
 have h2 : szT Tryz.prog 3 = some 1 := by kernel_rfl
 simp [ak, Tryz.underlying35, h2]
theorem Dg {H : Nat → Option VObj} {β o : Nat} : ak Tryz.prog H 35 (.ptr β o) 0 = if (H β).isSome = true then some (.ptr β (o + 0)) else none := by
 have h2 : szT Tryz.prog 3 = some 1 := by kernel_rfl
 simp [ak, Tryz.underlying35, h2]
theorem Dh {c0 c1 : VV} : aV Tryz.prog 35 (.agg [c0, c1]) 0 = some (c0) := by
 have h1 : aggT Tryz.prog 3 = some false := by kernel_rfl
 have h2 : szT Tryz.prog 3 = some 1 := by kernel_rfl
 simp [aV, Tryz.underlying35, aO, h1, h2]
theorem Di {H : Nat → Option VObj} {cs : List VV} : ak Tryz.prog H 35 (.tp cs) 1 = some (.tp (cs.drop 1)) := by
 have h2 : szT Tryz.prog 3 = some 1 := by kernel_rfl
 simp [ak, Tryz.underlying35, h2]
theorem Dj {H : Nat → Option VObj} {β o : Nat} : ak Tryz.prog H 35 (.ptr β o) 1 = if (H β).isSome = true then some (.ptr β (o + 1)) else none := by
 have h2 : szT Tryz.prog 3 = some 1 := by kernel_rfl
 simp [ak, Tryz.underlying35, h2]
theorem Dk {c0 c1 : VV} : aV Tryz.prog 35 (.agg [c0, c1]) 1 = some (c1) := by
 have h1 : aggT Tryz.prog 3 = some false := by kernel_rfl
 have h2 : szT Tryz.prog 3 = some 1 := by kernel_rfl
 simp [aV, Tryz.underlying35, aO, h1, h2]
theorem Dl {c0 c1 c2 c3 c4 : VV} {cs : List VV} : aD Tryz.prog 49 (c0 :: c1 :: c2 :: c3 :: c4 :: cs) = some (.agg [c0, c1, c2, c3, c4]) := by
 have h1 : aggT Tryz.prog 49 = some true := by kernel_rfl
 have h2 : szT Tryz.prog 49 = some 5 := by kernel_rfl
 simp [aD, aO, h1, h2]
theorem Dm : szT Tryz.prog 49 = some 5 := by kernel_rfl
theorem uy : vzl Tryz.prog 49 = some [.lit (.int .i64 0), .lit (.bool false), .lit (.int .i64 0), .lit (.int .i64 0), .lit (.slice none 0 0)] := by kernel_rfl
theorem Dn {H : Nat → Option VObj} {cs : List VV} : ak Tryz.prog H 49 (.tp cs) 0 = some (.tp (cs.drop 0)) := by
 have h2 : szT Tryz.prog 3 = some 1 := by kernel_rfl
 simp [ak, Tryz.underlying49, h2]
theorem Dp {H : Nat → Option VObj} {β o : Nat} : ak Tryz.prog H 49 (.ptr β o) 0 = if (H β).isSome = true then some (.ptr β (o + 0)) else none := by
 have h2 : szT Tryz.prog 3 = some 1 := by kernel_rfl
 simp [ak, Tryz.underlying49, h2]
theorem Dq {c0 c1 c2 c3 c4 : VV} : aV Tryz.prog 49 (.agg [c0, c1, c2, c3, c4]) 0 = some (c0) := by
 have h1 : aggT Tryz.prog 3 = some false := by kernel_rfl
 have h2 : szT Tryz.prog 3 = some 1 := by kernel_rfl
 simp [aV, Tryz.underlying49, aO, h1, h2]
theorem Dr {H : Nat → Option VObj} {cs : List VV} : ak Tryz.prog H 49 (.tp cs) 1 = some (.tp (cs.drop 1)) := by
 have h2 : szT Tryz.prog 4 = some 1 := by kernel_rfl
 simp [ak, Tryz.underlying49, h2]
theorem Ds {H : Nat → Option VObj} {β o : Nat} : ak Tryz.prog H 49 (.ptr β o) 1 = if (H β).isSome = true then some (.ptr β (o + 1)) else none := by
 have h2 : szT Tryz.prog 4 = some 1 := by kernel_rfl
 simp [ak, Tryz.underlying49, h2]
theorem Dt {c0 c1 c2 c3 c4 : VV} : aV Tryz.prog 49 (.agg [c0, c1, c2, c3, c4]) 1 = some (c1) := by
 have h1 : aggT Tryz.prog 4 = some false := by kernel_rfl
 have h2 : szT Tryz.prog 4 = some 1 := by kernel_rfl
 simp [aV, Tryz.underlying49, aO, h1, h2]
theorem Du {H : Nat → Option VObj} {cs : List VV} : ak Tryz.prog H 49 (.tp cs) 2 = some (.tp (cs.drop 2)) := by
 have h2 : szT Tryz.prog 35 = some 2 := by kernel_rfl
 simp [ak, Tryz.underlying49, h2]
theorem Dv {H : Nat → Option VObj} {β o : Nat} : ak Tryz.prog H 49 (.ptr β o) 2 = if (H β).isSome = true then some (.ptr β (o + 2)) else none := by
 have h2 : szT Tryz.prog 35 = some 2 := by kernel_rfl
 simp [ak, Tryz.underlying49, h2]
theorem Dw {c0 c1 c2 c3 c4 : VV} : aV Tryz.prog 49 (.agg [c0, c1, c2, c3, c4]) 2 = some (.agg [c2, c3]) := by
 have h1 : aggT Tryz.prog 35 = some true := by kernel_rfl
 have h2 : szT Tryz.prog 35 = some 2 := by kernel_rfl
 simp [aV, Tryz.underlying49, aO, h1, h2]
theorem Dx {H : Nat → Option VObj} {cs : List VV} : ak Tryz.prog H 49 (.tp cs) 3 = some (.tp (cs.drop 4)) := by
 have h2 : szT Tryz.prog 22 = some 1 := by kernel_rfl
 simp [ak, Tryz.underlying49, h2]
theorem Dy {H : Nat → Option VObj} {β o : Nat} : ak Tryz.prog H 49 (.ptr β o) 3 = if (H β).isSome = true then some (.ptr β (o + 4)) else none := by
 have h2 : szT Tryz.prog 22 = some 1 := by kernel_rfl
 simp [ak, Tryz.underlying49, h2]
theorem Dz {c0 c1 c2 c3 c4 : VV} : aV Tryz.prog 49 (.agg [c0, c1, c2, c3, c4]) 3 = some (c4) := by
 have h1 : aggT Tryz.prog 22 = some false := by kernel_rfl
 have h2 : szT Tryz.prog 22 = some 1 := by kernel_rfl
 simp [aV, Tryz.underlying49, aO, h1, h2]
theorem D0 {c : VV} {cs : List VV} : aD Tryz.prog 51 (c :: cs) = some c := by
 have h1 : aggT Tryz.prog 51 = some false := by kernel_rfl
 simp [aD, aO, h1]
theorem D1 : szT Tryz.prog 51 = some 1 := by kernel_rfl
theorem uz : vzl Tryz.prog 51 = some [.lit (.slice none 0 0)] := by kernel_rfl
theorem u3 {H : Nat → Option VObj} {cs : List VV} {n : Nat} {f : Bool} : vlen Tryz.prog H 51 (.sl cs n f) = some (.lit (.int .i64 n)) := by simp [vlen, Tryz.underlying51, sls]
theorem lenN51 {H : Nat → Option VObj} : vlen Tryz.prog H 51 (.lit (.slice none 0 0)) = some (.lit (.int .i64 0)) := by simp [vlen, Tryz.underlying51, sls]
theorem lenR51 {H : Nat → Option VObj} {β off n w c : Nat} : vlen Tryz.prog H 51 (.ref β off n w c) = (match H β with | some (.cells _ cs) => if off ≤ cs.length then some (.lit (.int .i64 n)) else none | _ => none) := lenR Tryz.underlying51
theorem D2 : elemT Tryz.prog 51 = some 60 := by simp [elemT, Tryz.underlying51]
theorem D3 {xs : List Int} : (ae eI xs).take (xs.length * 1) = ae eI xs := um (fun _ => rfl)
theorem D4 {a0 : VV} (h : leafL [a0] = true) : av Tryz.prog 51 1 [(0, a0)] = some ([a0], 1) := by
 have h2 : szT Tryz.prog 60 = some 1 := by kernel_rfl
 have h3 : vzero Tryz.prog 60 = some #[.int .i64 0] := by kernel_rfl
 simp only [gh, gg, Bool.and_true, Bool.and_eq_true] at h
 simp [av, Tryz.underlying51, h2, h3, vfill, vcells1, h, overwrite, vzeros, List.range_succ]
theorem D5 {a0 a1 : VV} (h : leafL [a0, a1] = true) : av Tryz.prog 51 2 [(0, a0), (1, a1)] = some ([a0, a1], 1) := by
 have h2 : szT Tryz.prog 60 = some 1 := by kernel_rfl
 have h3 : vzero Tryz.prog 60 = some #[.int .i64 0] := by kernel_rfl
 simp only [gh, gg, Bool.and_true, Bool.and_eq_true] at h
 simp [av, Tryz.underlying51, h2, h3, vfill, vcells1, h, overwrite, vzeros, List.range_succ]
theorem D6 {a0 a1 a2 : VV} (h : leafL [a0, a1, a2] = true) : av Tryz.prog 51 3 [(0, a0), (1, a1), (2, a2)] = some ([a0, a1, a2], 1) := by
 have h2 : szT Tryz.prog 60 = some 1 := by kernel_rfl
 have h3 : vzero Tryz.prog 60 = some #[.int .i64 0] := by kernel_rfl
 simp only [gh, gg, Bool.and_true, Bool.and_eq_true] at h
 simp [av, Tryz.underlying51, h2, h3, vfill, vcells1, h, overwrite, vzeros, List.range_succ]
theorem D7 {c : VV} {cs : List VV} : aD Tryz.prog 60 (c :: cs) = some c := by
 have h1 : aggT Tryz.prog 60 = some false := by kernel_rfl
 simp [aD, aO, h1]
theorem D8 : szT Tryz.prog 60 = some 1 := by kernel_rfl
theorem u4 : vzl Tryz.prog 60 = some [.lit (.int .i64 0)] := by kernel_rfl
theorem D9 {c : VV} {cs : List VV} : aD Tryz.prog 71 (c :: cs) = some c := by
 have h1 : aggT Tryz.prog 71 = some false := by kernel_rfl
 simp [aD, aO, h1]
theorem DA : szT Tryz.prog 71 = some 1 := by kernel_rfl
theorem u5 : vzl Tryz.prog 71 = some [.lit (.slice none 0 0)] := by kernel_rfl
theorem u6 {H : Nat → Option VObj} {cs : List VV} {n : Nat} {f : Bool} : vlen Tryz.prog H 71 (.sl cs n f) = some (.lit (.int .i64 n)) := by simp [vlen, Tryz.underlying71, sls]
theorem lenN71 {H : Nat → Option VObj} : vlen Tryz.prog H 71 (.lit (.slice none 0 0)) = some (.lit (.int .i64 0)) := by simp [vlen, Tryz.underlying71, sls]
theorem lenR71 {H : Nat → Option VObj} {β off n w c : Nat} : vlen Tryz.prog H 71 (.ref β off n w c) = (match H β with | some (.cells _ cs) => if off ≤ cs.length then some (.lit (.int .i64 n)) else none | _ => none) := lenR Tryz.underlying71
theorem bp : elemT Tryz.prog 71 = some 22 := by simp [elemT, Tryz.underlying71]
theorem fc : appOk Tryz.prog 71 = some (22, 1, 24) := by kernel_rfl
theorem DB {xs : List (List Int)} : (ae (eSl eI) xs).take (xs.length * 1) = ae (eSl eI) xs := um (fun _ => rfl)
theorem iN : ∀ x : (List Int), leafL ((eSl eI) x) = true := fun x => by simp only [eI_eq, ph, eB_eq, eS_eq, pj, gg, gh, C6, C7, C8, C9, pk, Bool.and_self]
theorem b4 {xs : List (List Int)} {x : (List Int)} {i : Int} (h : getI xs i = some x) : (∀ (H : Nat → Option VObj) (β c : Nat) (k : IntKind), aA Tryz.prog H 71 (.ref β 0 xs.length 1 c) (.lit (.int k i)) = if (H β).isSome = true then some (.ptr β (i.toNat * 1)) else none) ∧ (ae (eSl eI) xs).drop (i.toNat * 1) = (eSl eI) x ++ ae (eSl eI) (xs.drop (i.toNat + 1)) ∧ (i.toNat * 1 ≤ (ae (eSl eI) xs).length) = True := ixO Tryz.underlying71 (by kernel_rfl : szT Tryz.prog 22 = some 1) (fun _ => rfl) h
theorem DC {a0 : VV} (h : leafL [a0] = true) : av Tryz.prog 71 1 [(0, a0)] = some ([a0], 1) := by
 have h2 : szT Tryz.prog 22 = some 1 := by kernel_rfl
 have h3 : vzero Tryz.prog 22 = some #[.slice none 0 0] := by kernel_rfl
 simp only [gh, gg, Bool.and_true, Bool.and_eq_true] at h
 simp [av, Tryz.underlying71, h2, h3, vfill, vcells1, h, overwrite, vzeros, List.range_succ]
theorem DD {a0 a1 : VV} (h : leafL [a0, a1] = true) : av Tryz.prog 71 2 [(0, a0), (1, a1)] = some ([a0, a1], 1) := by
 have h2 : szT Tryz.prog 22 = some 1 := by kernel_rfl
 have h3 : vzero Tryz.prog 22 = some #[.slice none 0 0] := by kernel_rfl
 simp only [gh, gg, Bool.and_true, Bool.and_eq_true] at h
 simp [av, Tryz.underlying71, h2, h3, vfill, vcells1, h, overwrite, vzeros, List.range_succ]
theorem DE {a0 a1 a2 : VV} (h : leafL [a0, a1, a2] = true) : av Tryz.prog 71 3 [(0, a0), (1, a1), (2, a2)] = some ([a0, a1, a2], 1) := by
 have h2 : szT Tryz.prog 22 = some 1 := by kernel_rfl
 have h3 : vzero Tryz.prog 22 = some #[.slice none 0 0] := by kernel_rfl
 simp only [gh, gg, Bool.and_true, Bool.and_eq_true] at h
 simp [av, Tryz.underlying71, h2, h3, vfill, vcells1, h, overwrite, vzeros, List.range_succ]
theorem bj {H : Nat → Option VObj} {xs : List (List Int)} {x : (List Int)} {f : Bool} {k : IntKind} {i : Int} (h : getI xs i = some x) : aA Tryz.prog H 71 (.sl (ae (eSl eI) xs) xs.length f) (.lit (.int k i)) = some (.tp ((eSl eI) x ++ ae (eSl eI) (xs.drop (i.toNat + 1)))) :=
 ixG Tryz.underlying71 (by kernel_rfl : szT Tryz.prog 22 = some 1) (by decide) (fun _ => rfl) h
theorem DF {c0 c1 c2 c3 c4 : VV} {cs : List VV} : aD Tryz.prog 92 (c0 :: c1 :: c2 :: c3 :: c4 :: cs) = some (.agg [c0, c1, c2, c3, c4]) := by
 have h1 : aggT Tryz.prog 92 = some true := by kernel_rfl
 have h2 : szT Tryz.prog 92 = some 5 := by kernel_rfl
 simp [aD, aO, h1, h2]
theorem DG : szT Tryz.prog 92 = some 5 := by kernel_rfl
theorem nh : vzl Tryz.prog 92 = some [.lit (.int .i64 0), .lit (.slice none 0 0), .lit (.slice none 0 0), .lit (.slice none 0 0), .lit (.map none)] := by kernel_rfl
theorem DH {H : Nat → Option VObj} {cs : List VV} : ak Tryz.prog H 92 (.tp cs) 0 = some (.tp (cs.drop 0)) := by
 have h2 : szT Tryz.prog 25 = some 3 := by kernel_rfl
 simp [ak, Tryz.underlying92, h2]
theorem DI {H : Nat → Option VObj} {β o : Nat} : ak Tryz.prog H 92 (.ptr β o) 0 = if (H β).isSome = true then some (.ptr β (o + 0)) else none := by
 have h2 : szT Tryz.prog 25 = some 3 := by kernel_rfl
 simp [ak, Tryz.underlying92, h2]
theorem DJ {c0 c1 c2 c3 c4 : VV} : aV Tryz.prog 92 (.agg [c0, c1, c2, c3, c4]) 0 = some (.agg [c0, c1, c2]) := by
 have h1 : aggT Tryz.prog 25 = some true := by kernel_rfl
 have h2 : szT Tryz.prog 25 = some 3 := by kernel_rfl
 simp [aV, Tryz.underlying92, aO, h1, h2]
theorem DK {H : Nat → Option VObj} {cs : List VV} : ak Tryz.prog H 92 (.tp cs) 1 = some (.tp (cs.drop 3)) := by
 have h2 : szT Tryz.prog 22 = some 1 := by kernel_rfl
 simp [ak, Tryz.underlying92, h2]
theorem DL {H : Nat → Option VObj} {β o : Nat} : ak Tryz.prog H 92 (.ptr β o) 1 = if (H β).isSome = true then some (.ptr β (o + 3)) else none := by
 have h2 : szT Tryz.prog 22 = some 1 := by kernel_rfl
 simp [ak, Tryz.underlying92, h2]
theorem DM {c0 c1 c2 c3 c4 : VV} : aV Tryz.prog 92 (.agg [c0, c1, c2, c3, c4]) 1 = some (c3) := by
 have h1 : aggT Tryz.prog 22 = some false := by kernel_rfl
 have h2 : szT Tryz.prog 22 = some 1 := by kernel_rfl
 simp [aV, Tryz.underlying92, aO, h1, h2]
theorem DN {H : Nat → Option VObj} {cs : List VV} : ak Tryz.prog H 92 (.tp cs) 2 = some (.tp (cs.drop 4)) := by
 have h2 : szT Tryz.prog 90 = some 1 := by kernel_rfl
 simp [ak, Tryz.underlying92, h2]
theorem DO {H : Nat → Option VObj} {β o : Nat} : ak Tryz.prog H 92 (.ptr β o) 2 = if (H β).isSome = true then some (.ptr β (o + 4)) else none := by
 have h2 : szT Tryz.prog 90 = some 1 := by kernel_rfl
 simp [ak, Tryz.underlying92, h2]
theorem DP {c0 c1 c2 c3 c4 : VV} : aV Tryz.prog 92 (.agg [c0, c1, c2, c3, c4]) 2 = some (c4) := by
 have h1 : aggT Tryz.prog 90 = some false := by kernel_rfl
 have h2 : szT Tryz.prog 90 = some 1 := by kernel_rfl
 simp [aV, Tryz.underlying92, aO, h1, h2]
theorem u7 {c0 : VV} {cs : List VV} : aD Tryz.prog 124 (c0 :: cs) = some (.agg [c0]) := by
 have h1 : aggT Tryz.prog 124 = some true := by kernel_rfl
 have h2 : szT Tryz.prog 124 = some 1 := by kernel_rfl
 simp [aD, aO, h1, h2]
theorem u9 : szT Tryz.prog 124 = some 1 := by kernel_rfl
theorem kc : vzl Tryz.prog 124 = some [.lit (.slice none 0 0)] := by kernel_rfl
theorem DQ {H : Nat → Option VObj} {cs : List VV} : ak Tryz.prog H 124 (.tp cs) 0 = some (.tp (cs.drop 0)) := by
 have h2 : szT Tryz.prog 22 = some 1 := by kernel_rfl
 simp [ak, Tryz.underlying124, h2]
theorem DS {H : Nat → Option VObj} {β o : Nat} : ak Tryz.prog H 124 (.ptr β o) 0 = if (H β).isSome = true then some (.ptr β (o + 0)) else none := by
 have h2 : szT Tryz.prog 22 = some 1 := by kernel_rfl
 simp [ak, Tryz.underlying124, h2]
theorem DT {c0 : VV} : aV Tryz.prog 124 (.agg [c0]) 0 = some (c0) := by
 have h1 : aggT Tryz.prog 22 = some false := by kernel_rfl
 have h2 : szT Tryz.prog 22 = some 1 := by kernel_rfl
 simp [aV, Tryz.underlying124, aO, h1, h2]
theorem uA {c0 c1 : VV} {cs : List VV} : aD Tryz.prog 152 (c0 :: c1 :: cs) = some (.agg [c0, c1]) := by
 have h1 : aggT Tryz.prog 152 = some true := by kernel_rfl
 have h2 : szT Tryz.prog 152 = some 2 := by kernel_rfl
 simp [aD, aO, h1, h2]
theorem uB : szT Tryz.prog 152 = some 2 := by kernel_rfl
theorem kd : vzl Tryz.prog 152 = some [.lit (.int .i64 0), .lit (.int .i64 0)] := by kernel_rfl
theorem DU {H : Nat → Option VObj} {cs : List VV} : ak Tryz.prog H 152 (.tp cs) 0 = some (.tp (cs.drop 0)) := by
 have h2 : szT Tryz.prog 3 = some 1 := by kernel_rfl
 simp [ak, Tryz.underlying152, h2]
theorem DV {H : Nat → Option VObj} {β o : Nat} : ak Tryz.prog H 152 (.ptr β o) 0 = if (H β).isSome = true then some (.ptr β (o + 0)) else none := by
 have h2 : szT Tryz.prog 3 = some 1 := by kernel_rfl
 simp [ak, Tryz.underlying152, h2]
theorem DW {c0 c1 : VV} : aV Tryz.prog 152 (.agg [c0, c1]) 0 = some (c0) := by
 have h1 : aggT Tryz.prog 3 = some false := by kernel_rfl
 have h2 : szT Tryz.prog 3 = some 1 := by kernel_rfl
 simp [aV, Tryz.underlying152, aO, h1, h2]
theorem DX {H : Nat → Option VObj} {cs : List VV} : ak Tryz.prog H 152 (.tp cs) 1 = some (.tp (cs.drop 1)) := by
 have h2 : szT Tryz.prog 3 = some 1 := by kernel_rfl
 simp [ak, Tryz.underlying152, h2]
theorem DY {H : Nat → Option VObj} {β o : Nat} : ak Tryz.prog H 152 (.ptr β o) 1 = if (H β).isSome = true then some (.ptr β (o + 1)) else none := by
 have h2 : szT Tryz.prog 3 = some 1 := by kernel_rfl
 simp [ak, Tryz.underlying152, h2]
theorem DZ {c0 c1 : VV} : aV Tryz.prog 152 (.agg [c0, c1]) 1 = some (c1) := by
 have h1 : aggT Tryz.prog 3 = some false := by kernel_rfl
 have h2 : szT Tryz.prog 3 = some 1 := by kernel_rfl
 simp [aV, Tryz.underlying152, aO, h1, h2]
theorem uC {c : VV} {cs : List VV} : aD Tryz.prog 156 (c :: cs) = some c := by
 have h1 : aggT Tryz.prog 156 = some false := by kernel_rfl
 simp [aD, aO, h1]
theorem uD : szT Tryz.prog 156 = some 1 := by kernel_rfl
theorem pn : vzl Tryz.prog 156 = some [.lit (.int .i64 0)] := by kernel_rfl
theorem QC : szT Tryz.prog 1 = some 1 := by kernel_rfl
theorem QD {c : VV} {cs : List VV} : aD Tryz.prog 1 (c :: cs) = some c := by
 have h1 : aggT Tryz.prog 1 = some false := by kernel_rfl
 simp [aD, aO, h1]
theorem Ea : vzl Tryz.prog 1 = some [.lit .nilFunc] := by kernel_rfl
theorem bN : szT Tryz.prog 27 = some 1 := by kernel_rfl
theorem bO {c : VV} {cs : List VV} : aD Tryz.prog 27 (c :: cs) = some c := by
 have h1 : aggT Tryz.prog 27 = some false := by kernel_rfl
 simp [aD, aO, h1]
theorem bn : vzl Tryz.prog 27 = some [.lit .nilFunc] := by kernel_rfl
theorem Eb : szT Tryz.prog 47 = some 1 := by kernel_rfl
theorem bP {c : VV} {cs : List VV} : aD Tryz.prog 47 (c :: cs) = some c := by
 have h1 : aggT Tryz.prog 47 = some false := by kernel_rfl
 simp [aD, aO, h1]
theorem uE : vzl Tryz.prog 47 = some [.lit .nilFunc] := by kernel_rfl
theorem uF : szT Tryz.prog 104 = some 1 := by kernel_rfl
theorem uG {c : VV} {cs : List VV} : aD Tryz.prog 104 (c :: cs) = some c := by
 have h1 : aggT Tryz.prog 104 = some false := by kernel_rfl
 simp [aD, aO, h1]
theorem po : vzl Tryz.prog 104 = some [.lit .nilFunc] := by kernel_rfl
theorem uH : szT Tryz.prog 105 = some 1 := by kernel_rfl
theorem uI {c : VV} {cs : List VV} : aD Tryz.prog 105 (c :: cs) = some c := by
 have h1 : aggT Tryz.prog 105 = some false := by kernel_rfl
 simp [aD, aO, h1]
theorem pq : vzl Tryz.prog 105 = some [.lit .nilFunc] := by kernel_rfl
theorem uJ : szT Tryz.prog 129 = some 1 := by kernel_rfl
theorem mr {c : VV} {cs : List VV} : aD Tryz.prog 129 (c :: cs) = some c := by
 have h1 : aggT Tryz.prog 129 = some false := by kernel_rfl
 simp [aD, aO, h1]
theorem pr : vzl Tryz.prog 129 = some [.lit .nilFunc] := by kernel_rfl
theorem uK : szT Tryz.prog 130 = some 1 := by kernel_rfl
theorem dE {c : VV} {cs : List VV} : aD Tryz.prog 130 (c :: cs) = some c := by
 have h1 : aggT Tryz.prog 130 = some false := by kernel_rfl
 simp [aD, aO, h1]
theorem pv : vzl Tryz.prog 130 = some [.lit .nilFunc] := by kernel_rfl
theorem uL : szT Tryz.prog 131 = some 1 := by kernel_rfl
theorem uM {c : VV} {cs : List VV} : aD Tryz.prog 131 (c :: cs) = some c := by
 have h1 : aggT Tryz.prog 131 = some false := by kernel_rfl
 simp [aD, aO, h1]
theorem pw : vzl Tryz.prog 131 = some [.lit .nilFunc] := by kernel_rfl
theorem uN : szT Tryz.prog 132 = some 1 := by kernel_rfl
theorem uO {c : VV} {cs : List VV} : aD Tryz.prog 132 (c :: cs) = some c := by
 have h1 : aggT Tryz.prog 132 = some false := by kernel_rfl
 simp [aD, aO, h1]
theorem px : vzl Tryz.prog 132 = some [.lit .nilFunc] := by kernel_rfl
theorem uP : szT Tryz.prog 153 = some 1 := by kernel_rfl
theorem uQ {c : VV} {cs : List VV} : aD Tryz.prog 153 (c :: cs) = some c := by
 have h1 : aggT Tryz.prog 153 = some false := by kernel_rfl
 simp [aD, aO, h1]
theorem py : vzl Tryz.prog 153 = some [.lit .nilFunc] := by kernel_rfl
theorem uR : szT Tryz.prog 154 = some 2 := by kernel_rfl
theorem ke : vzl Tryz.prog 154 = some [.lit .nilFunc, .lit .nilFunc] := by kernel_rfl
theorem uS {c0 c1 : VV} {cs : List VV} : aD Tryz.prog 154 (c0 :: c1 :: cs) = some (.agg [c0, c1]) := by
 have h1 : aggT Tryz.prog 154 = some true := by kernel_rfl
 have h2 : szT Tryz.prog 154 = some 2 := by kernel_rfl
 simp [aD, aO, h1, h2]
theorem Ec {c0 c1 : VV} {k : IntKind} : vindex Tryz.prog 154 (.agg [c0, c1]) (.lit (.int k 0)) = some c0 := by
 have h1 : aggT Tryz.prog 153 = some false := by kernel_rfl
 have h2 : szT Tryz.prog 153 = some 1 := by kernel_rfl
 simp [vindex, Tryz.underlying154, aO, h1, h2]
theorem Ee {H : Nat → Option VObj} {β o : Nat} {k : IntKind} : aA Tryz.prog H 154 (.ptr β o) (.lit (.int k 0)) = if (H β).isSome = true then some (.ptr β (o + 0)) else none := by
 have h2 : szT Tryz.prog 153 = some 1 := by kernel_rfl
 simp [aA, Tryz.underlying154, h2]
theorem Ef {c0 c1 : VV} {k : IntKind} : vindex Tryz.prog 154 (.agg [c0, c1]) (.lit (.int k 1)) = some c1 := by
 have h1 : aggT Tryz.prog 153 = some false := by kernel_rfl
 have h2 : szT Tryz.prog 153 = some 1 := by kernel_rfl
 simp [vindex, Tryz.underlying154, aO, h1, h2]
theorem Eg {H : Nat → Option VObj} {β o : Nat} {k : IntKind} : aA Tryz.prog H 154 (.ptr β o) (.lit (.int k 1)) = if (H β).isSome = true then some (.ptr β (o + 1)) else none := by
 have h2 : szT Tryz.prog 153 = some 1 := by kernel_rfl
 simp [aA, Tryz.underlying154, h2]
theorem Eh : vbuild Tryz.prog 35 [] = some (.agg [.lit (.int .i64 0), .lit (.int .i64 0)]) := by
 rw [qI ka (by kernel_rfl)]
 rfl
theorem Ei {cm dq : VV} (h : leafL [cm, dq] = true) : vbuild Tryz.prog 35 [(0, cm), (1, dq)] = some (.agg [cm, dq]) := by
 have p0 : placeT Tryz.prog 35 0 = some (0, 1) := by kernel_rfl
 have p1 : placeT Tryz.prog 35 1 = some (1, 1) := by kernel_rfl
 simp only [gh, gg, Bool.and_true, Bool.and_eq_true] at h
 rw [qI ka (by kernel_rfl)]
 simp [vfill, p0, p1, vcells1, h, overwrite]
theorem Ej {cm kf kh dq pz : VV} (h : leafL [cm, kf, kh, dq, pz] = true) : vbuild Tryz.prog 92 [(0, .agg [cm, kf, kh]), (1, dq), (2, pz)] = some (.agg [cm, kf, kh, dq, pz]) := by
 have p0 : placeT Tryz.prog 92 0 = some (0, 3) := by kernel_rfl
 have p1 : placeT Tryz.prog 92 1 = some (3, 1) := by kernel_rfl
 have p2 : placeT Tryz.prog 92 2 = some (4, 1) := by kernel_rfl
 simp only [gh, gg, Bool.and_true, Bool.and_eq_true] at h
 have q0 : aT (.agg [cm, kf, kh]) = some [cm, kf, kh] := by rw [LG]; simp [gh, gg, h]
 rw [qI nh (by kernel_rfl)]
 simp [vfill, p0, p1, p2, vcells1, h, overwrite, q0]
theorem Ek {cm : VV} (h : leafL [cm] = true) : vbuild Tryz.prog 124 [(0, cm)] = some (.agg [cm]) := by
 have p0 : placeT Tryz.prog 124 0 = some (0, 1) := by kernel_rfl
 simp only [gh, gg, Bool.and_true, Bool.and_eq_true] at h
 rw [qI kc (by kernel_rfl)]
 simp [vfill, p0, vcells1, h, overwrite]
theorem El {cm dq : VV} (h : leafL [cm, dq] = true) : vbuild Tryz.prog 152 [(0, cm), (1, dq)] = some (.agg [cm, dq]) := by
 have p0 : placeT Tryz.prog 152 0 = some (0, 1) := by kernel_rfl
 have p1 : placeT Tryz.prog 152 1 = some (1, 1) := by kernel_rfl
 simp only [gh, gg, Bool.and_true, Bool.and_eq_true] at h
 rw [qI kd (by kernel_rfl)]
 simp [vfill, p0, p1, vcells1, h, overwrite]
theorem Em {cm dq : VV} (h : leafL [cm, dq] = true) : vbuild Tryz.prog 154 [(0, cm), (1, dq)] = some (.agg [cm, dq]) := by
 have p0 : placeT Tryz.prog 154 0 = some (0, 1) := by kernel_rfl
 have p1 : placeT Tryz.prog 154 1 = some (1, 1) := by kernel_rfl
 simp only [gh, gg, Bool.and_true, Bool.and_eq_true] at h
 rw [qI ke (by kernel_rfl)]
 simp [vfill, p0, p1, vcells1, h, overwrite]
theorem uT {x : VV} : mkIfcV Tryz.prog 124 x = some (.ifc 124 x) := by simp [mkIfcV, Tryz.underlying124]
theorem uU : ((Tryz.prog.info? 124).bind (·.zero)).map (fun z => VV.tup [ofVal2 z, .lit (.bool false)]) = some (.tup [.agg [.lit (.slice none 0 0)], .lit (.bool false)]) := by kernel_rfl
theorem uW : vtypeAssert Tryz.prog (.lit .nilIface) 124 true = some (.tup [.agg [.lit (.slice none 0 0)], .lit (.bool false)]) := by
 simp only [vtypeAssert, Tryz.underlying124, if_true]
 exact uU
theorem uX {x : VV} : vtypeAssert Tryz.prog (.ifc 124 x) 124 true = some (.tup [x, .lit (.bool true)]) := by
 simp [vtypeAssert, Tryz.underlying124]
theorem QE {H : Nat → Option VObj} {x y : Operand} {a b : Bool} : binV Tryz.prog H .eql 4 x y (.lit (.bool a)) (.lit (.bool b)) = some (.lit (.bool (a == b))) := Eo Tryz.underlying4
theorem QF {H : Nat → Option VObj} {x y : Operand} {a b : Bool} : binV Tryz.prog H .neq 4 x y (.lit (.bool a)) (.lit (.bool b)) = some (.lit (.bool (a != b))) := Ep Tryz.underlying4
theorem uY {H : Nat → Option VObj} {x y : Operand} {a0 b0 : Int} {a1 b1 : Int} : binV Tryz.prog H .eql 35 x y (.agg [.lit (.int .i64 a0), .lit (.int .i64 a1)]) (.agg [.lit (.int .i64 b0), .lit (.int .i64 b1)]) = some (.lit (.bool (a0 == b0 && (a1 == b1)))) ∧ binV Tryz.prog H .neq 35 x y (.agg [.lit (.int .i64 a0), .lit (.int .i64 a1)]) (.agg [.lit (.int .i64 b0), .lit (.int .i64 b1)]) = some (.lit (.bool (!(a0 == b0 && (a1 == b1))))) := by
 refine binS (xs := [.int .i64 a0, .int .i64 a1]) (ys := [.int .i64 b0, .int .i64 b1]) (by simp [VV.val?, valL?]) (by simp [VV.val?, valL?]) Tryz.underlying35 (by kernel_rfl) (by kernel_rfl) ?_
 simp [eqF, ki, eq1, Tryz.underlying3]
theorem Er {H : Nat → Option VObj} {x y : Operand} {a0 b0 : Int} {a1 b1 : Int} : binV Tryz.prog H .eql 35 x y (.agg [.lit (.int .i64 a0), .lit (.int .i64 a1)]) (.agg [.lit (.int .i64 b0), .lit (.int .i64 b1)]) = some (.lit (.bool (a0 == b0 && (a1 == b1)))) := uY.1
theorem Es {H : Nat → Option VObj} {x y : Operand} {a0 b0 : Int} {a1 b1 : Int} : binV Tryz.prog H .neq 35 x y (.agg [.lit (.int .i64 a0), .lit (.int .i64 a1)]) (.agg [.lit (.int .i64 b0), .lit (.int .i64 b1)]) = some (.lit (.bool (!(a0 == b0 && (a1 == b1))))) := uY.2
theorem Et : (VV.lit Value.nilFunc).leaf = true := rfl
theorem Eu : (VV.lit Value.nilIface).leaf = true := rfl
def tyf := (And.intro (And.intro (And.intro (And.intro (And.intro (And.intro (And.intro @qF (And.intro @ui @k8)) (And.intro @xd (And.intro @xe @Q4))) (And.intro (And.intro @Q5 (And.intro @Cz @Q6)) (And.intro @Q7 (And.intro @C0 @Q8)))) (And.intro (And.intro (And.intro @Q9 (And.intro @C1 @QA)) (And.intro @QB (And.intro @C2 @C3))) (And.intro (And.intro @C4 (And.intro @uj @uk)) (And.intro @lenN22 (And.intro @lenR22 @cL))))) (And.intro (And.intro (And.intro (And.intro @C5 (And.intro @CA @CB)) (And.intro @CD (And.intro @CE @CF))) (And.intro (And.intro @uo (And.intro @uq @lenN23)) (And.intro @lenR23 (And.intro @CG @CH)))) (And.intro (And.intro (And.intro @CI (And.intro @CJ @CK)) (And.intro @ur (And.intro @CL @CM))) (And.intro (And.intro @CN (And.intro @CP @CQ)) (And.intro (And.intro @CS @CT) (And.intro @CU @CV)))))) (And.intro (And.intro (And.intro (And.intro (And.intro @CW (And.intro @CX @uu)) (And.intro @CY (And.intro @CZ @uv))) (And.intro (And.intro @ux (And.intro @lenN31 @lenR31)) (And.intro @Da (And.intro @Db @Dc)))) (And.intro (And.intro (And.intro @Dd (And.intro @De @ka)) (And.intro @Df (And.intro @Dg @Dh))) (And.intro (And.intro @Di (And.intro @Dj @Dk)) (And.intro (And.intro @Dl @Dm) (And.intro @uy @Dn))))) (And.intro (And.intro (And.intro (And.intro @Dp (And.intro @Dq @Dr)) (And.intro @Ds (And.intro @Dt @Du))) (And.intro (And.intro @Dv (And.intro @Dw @Dx)) (And.intro @Dy (And.intro @Dz @D0)))) (And.intro (And.intro (And.intro @D1 (And.intro @uz @u3)) (And.intro @lenN51 (And.intro @lenR51 @D2))) (And.intro (And.intro @D3 (And.intro @D4 @D5)) (And.intro (And.intro @D6 @D7) (And.intro @D8 @u4))))))) (And.intro (And.intro (And.intro (And.intro (And.intro (And.intro @D9 (And.intro @DA @u5)) (And.intro @u6 (And.intro @lenN71 @lenR71))) (And.intro (And.intro @bp (And.intro @DB @DC)) (And.intro @DD (And.intro @DE @DF)))) (And.intro (And.intro (And.intro @DG (And.intro @nh @DH)) (And.intro @DI (And.intro @DJ @DK))) (And.intro (And.intro @DL (And.intro @DM @DN)) (And.intro @DO (And.intro @DP @u7))))) (And.intro (And.intro (And.intro (And.intro @u9 (And.intro @kc @DQ)) (And.intro @DS (And.intro @DT @uA))) (And.intro (And.intro @uB (And.intro @kd @DU)) (And.intro @DV (And.intro @DW @DX)))) (And.intro (And.intro (And.intro @DY (And.intro @DZ @uC)) (And.intro @uD (And.intro @pn @QC))) (And.intro (And.intro @QD (And.intro @Ea @bN)) (And.intro (And.intro @bO @bn) (And.intro @Eb @bP)))))) (And.intro (And.intro (And.intro (And.intro (And.intro @uE (And.intro @uF @uG)) (And.intro @po (And.intro @uH @uI))) (And.intro (And.intro @pq (And.intro @uJ @mr)) (And.intro @pr (And.intro @uK @dE)))) (And.intro (And.intro (And.intro @pv (And.intro @uL @uM)) (And.intro @pw (And.intro @uN @uO))) (And.intro (And.intro @px (And.intro @uP @uQ)) (And.intro (And.intro @py @uR) (And.intro @ke @uS))))) (And.intro (And.intro (And.intro (And.intro @Ec (And.intro @Ee @Ef)) (And.intro @Eg (And.intro @Eh @Ei))) (And.intro (And.intro @Ej (And.intro @Ek @El)) (And.intro @Em (And.intro @uT @uW)))) (And.intro (And.intro (And.intro @uX (And.intro @QE @QF)) (And.intro @Er (And.intro @Es @Et))) (And.intro (And.intro @Eu (And.intro @KG @eI_eq)) (And.intro (And.intro @ph @eB_eq) (And.intro @eS_eq @pj))))))))
def aW := (And.intro (And.intro (And.intro (And.intro @dx.norm (And.intro @dx.normL @dx.shown)) (And.intro @dx.showL (And.intro @eO.norm @eO.normL))) (And.intro (And.intro @eO.shown (And.intro @eO.showL @gu.norm)) (And.intro @gu.normL (And.intro @gu.shown @gu.showL)))) (And.intro (And.intro (And.intro @jv.norm (And.intro @jv.normL @jv.shown)) (And.intro @jv.showL (And.intro @qG.norm @qG.normL))) (And.intro (And.intro @qG.shown (And.intro @qG.showL @qH.norm)) (And.intro @qH.normL (And.intro @qH.shown @qH.showL)))))
def tytre := (And.intro (And.intro (And.intro @dx.tree (And.intro @dx.treeL @eO.tree)) (And.intro @eO.treeL (And.intro @gu.tree @gu.treeL))) (And.intro (And.intro @jv.tree (And.intro @jv.treeL @qG.tree)) (And.intro @qG.treeL (And.intro @qH.tree @qH.treeL))))
end Go.V
namespace Go.V
open Go Go.Proofs IntKind
theorem ktA {P : Program} {G : Glob} {d : Option Tmp} {γ : Nat} {tm : Nat → VV} {H : Nat → Option VObj} {nx : Nat} {df : List VDef} {K : St → Prop} {Qp : VV → St → Prop} {f : FuncId} {args args0 : List VV} {x : VV} (hp : aj P G f args0 (.tree x)) (h : fin d γ tm H nx df K x .none) (hn : normL args = args0 := by first | (simp only [nrm, aW] <;> rfl) | rfl) (ht : treeL args = true := by simp only [tre, tytre, Bool.and_self]) : callK P G f args ⟨tm, H, nx, df⟩ d γ K Qp := ktree hn ht hp h
theorem dktA {P : Program} {G : Glob} {d : Option Tmp} {γ : Nat} {tm : Nat → VV} {H : Nat → Option VObj} {nx : Nat} {df : List VDef} {K : List Nat → List Nat → St → Prop} {f : FuncId} {args args0 : List VV} {x : VV} (hp : aj P G f args0 (.tree x)) (h : fin d γ tm H nx df (K [] []) x .none) (hn : normL args = args0 := by first | (simp only [nrm, aW] <;> rfl) | rfl) (ht : treeL args = true := by simp only [tre, tytre, Bool.and_self]) : dcallK P G f args tm H nx df d γ K := dktree hn ht hp h
theorem optI {α β : Type} {K : Option β → Prop} {X : Option α} {F : α → Option β} (h : K (Option.bind X F)) (kN : ¬ K none) : ∃ r, X = some r ∧ K (F r) := by
  cases X with
  | none => exact absurd h kN
  | some r => exact ⟨r, rfl, h⟩
end Go.V
end
section
namespace Go.V
open Go Go.Proofs IntKind
def Dec (P : Program) (n : Nat) (t : TypeId) {α : Type} (enc : α → List VV) (R : α → Prop) : Prop := ∀ xs, ShapeT P n t xs → ∃ x : α, R x ∧ normL xs = enc x
theorem Ev {P : Program} {n : Nat} {t : TypeId} (hu : P.underlying t = some (.int .i64)) : Dec P (n + 1) t eI (fun _ => True) := by
 intro xs h
 simp only [ShapeT, hu] at h
 obtain ⟨i, _, rfl⟩ := h
 exact ⟨i, trivial, by simp only [oV, qJ, LH, eI]⟩
theorem Ew {P : Program} {n : Nat} {t : TypeId} (hu : P.underlying t = some .bool) : Dec P (n + 1) t eB (fun _ => True) := by
 intro xs h
 simp only [ShapeT, hu] at h
 obtain ⟨b, rfl⟩ := h
 exact ⟨b, trivial, by simp only [oV, qJ, Ex, eB]⟩
theorem uZ {P : Program} {n : Nat} {t : TypeId} {α : Type} {enc : α → List VV} {R : α → Prop} (h : Dec P n t enc R) : ∀ yss : List (List VV), (∀ ys ∈ yss, ShapeT P n t ys) → ∃ l : List α, l.length = yss.length ∧ (∀ x ∈ l, R x) ∧ normL yss.flatten = ae enc l
 | [], _ => ⟨[], rfl, fun _ hx => (by cases hx), rfl⟩
 | ys :: yss, hs => by
  obtain ⟨x, hx, e⟩ := h ys (hs ys (List.mem_cons_self ..))
  obtain ⟨l, h1, h2, h3⟩ := uZ h yss (fun y hy => hs y (List.mem_cons_of_mem _ hy))
  refine ⟨x :: l, by simp [h1], fun y hy => ?_, by rw [List.flatten_cons, qK, e, h3, fx]⟩
  rcases List.mem_cons.1 hy with rfl | hy
  ·exact hx
  ·exact h2 y hy
theorem LI {P : Program} {n : Nat} {t e : TypeId} {α : Type} {enc : α → List VV} {R : α → Prop} (hu : P.underlying t = some (.slice e)) (h : Dec P n e enc R) : Dec P (n + 1) t (fun l : List α => [.sl (ae enc l) l.length false]) (fun l => aK l = true ∧ ∀ x ∈ l, R x) := by
 intro xs hs
 simp only [ShapeT, hu] at hs
 rcases hs with rfl | ⟨yss, hl, hall, rfl⟩
 ·exact ⟨[], ⟨rfl, fun _ hx => (by cases hx)⟩, by simp only [oV, qJ, LJ]; rfl⟩
 ·obtain ⟨l, h1, h2, h3⟩ := uZ h yss hall
  refine ⟨l, ⟨?_, h2⟩, by simp only [oV, qJ, va, h3, h1]⟩
  have : maxLen = 9223372036854775807 := by decide
  unfold aK
  exact decide_eq_true (by omega)
theorem Ey {P : Program} {n : Nat} {t : TypeId} {fs : Array Field} {xs : List VV} (hu : P.underlying t = some (.struct fs)) (h : ShapeT P (n + 1) t xs) : ∃ yss, FieldsS (ShapeT P n) fs.toList yss ∧ xs = yss.flatten := by
 simp only [ShapeT, hu] at h
 exact h
def TypesS (S : TypeId → List VV → Prop) : List TypeId → List (List VV) → Prop
 | [], [] => True
 | t :: ts, ys :: yss => S t ys ∧ TypesS S ts yss
 | _, _ => False
theorem LK {S : TypeId → List VV → Prop} : ∀ (fs : List Field) (yss : List (List VV)), FieldsS S fs yss → TypesS S (fs.map Field.type) yss
 | [], [], _ => trivial
 | f :: fs, ys :: yss, ⟨h1, h2⟩ => ⟨h1, LK fs yss h2⟩
 | [], _ :: _, h => h
 | _ :: _, [], h => h
theorem Ez {P : Program} {n : Nat} {t : TypeId} {fs : Array Field} {ts : List TypeId} {xs : List VV} (hu : P.underlying t = some (.struct fs)) (ht : fs.toList.map Field.type = ts) (h : ShapeT P (n + 1) t xs) : ∃ yss, TypesS (ShapeT P n) ts yss ∧ xs = yss.flatten := by
 obtain ⟨yss, h1, h2⟩ := Ey hu h
 exact ⟨yss, ht ▸ LK _ _ h1, h2⟩
theorem E0 {P : Program} {n : Nat} {t : TypeId} {ts : List TypeId} {xs : List VV} (h : ArgsS P n (t :: ts) xs) : ∃ x xs', xs = x :: xs' ∧ ArgS P n t x ∧ ArgsS P n ts xs' := by
 match xs, h with
 | x :: xs', h => exact ⟨x, xs', rfl, h.1, h.2⟩
theorem E1 {P : Program} {n : Nat} {xs : List VV} (h : ArgsS P n [] xs) : xs = [] := by
 match xs, h with
 | [], _ => rfl
theorem E2 {P : Program} {n : Nat} {t : TypeId} {fs : Array Field} {x : VV} {α : Type} {enc : α → List VV} {R : α → Prop} (hu : P.underlying t = some (.struct fs)) (hd : Dec P n t enc R) (h : ArgS P n t x) : ∃ s, R s ∧ normV x = .agg (enc s) := by
 obtain ⟨ys, h1, h2⟩ := h
 rw [hu] at h2
 obtain rfl : x = .agg ys := h2
 obtain ⟨s, hs, e⟩ := hd ys h1
 exact ⟨s, hs, by rw [LL, e]⟩
end Go.V
end
section
set_option maxRecDepth 100000
namespace Go.V
open Go Go.Proofs IntKind
def E3 (x : GBs) : Prop := aK x.Needs = true
def LM (x : GBk) : Prop := aK x.Boards = true ∧ aK x.Strokes = true ∧ ∀ y ∈ x.Strokes, E3 y
section
variable {P : Program} (gT : P.underlying 3 = some (.int .i64)) (dU : P.underlying 22 = some (.slice 3)) (jd : P.underlying 4 = some (.bool)) {LN : Array Field} (dV : P.underlying 35 = some (.struct LN)) (dW : LN.toList.map Field.type = [3, 3]) {LP : Array Field} (dX : P.underlying 49 = some (.struct LP)) (dY : LP.toList.map Field.type = [3, 4, 35, 22]) (dZ : P.underlying 23 = some (.slice 49)) {LQ : Array Field} (ed : P.underlying 25 = some (.struct LQ)) (eg : LQ.toList.map Field.type = [3, 22, 23])
include gT dU jd dV dW dX dY dZ ed eg
theorem gd_3 {n : Nat} : Dec P (n + 1) 3 eI (fun _ => True) := Ev gT
theorem gd_22 {n : Nat} : Dec P (n + 2) 22 (eSl eI) (fun l => aK l = true ∧ ∀ x ∈ l, True) := LI dU (gd_3 gT dU jd dV dW dX dY dZ ed eg (n := n))
theorem gd_4 {n : Nat} : Dec P (n + 1) 4 eB (fun _ => True) := Ew jd
theorem gd_35 {n : Nat} : Dec P (n + 2) 35 cGSpan (fun _ => True) := by
 intro xs h
 obtain ⟨yss, hf, rfl⟩ := Ez (n := n + 1) (ts := [3, 3]) dV dW h
 match yss, hf with
 | [y0, y1], ⟨h0, h1, _⟩ =>
  obtain ⟨x0, r0, e0⟩ := gd_3 gT dU jd dV dW dX dY dZ ed eg (n := n + 0) _ h0
  obtain ⟨x1, r1, e1⟩ := gd_3 gT dU jd dV dW dX dY dZ ed eg (n := n + 0) _ h1
  exact ⟨⟨x0, x1⟩, trivial, by simp only [List.flatten_cons, List.flatten_nil, List.append_nil, qK, e0, e1, eI, vb, eB, eS, eSl, qF, List.cons_append, List.nil_append]⟩
theorem gd_49 {n : Nat} : Dec P (n + 3) 49 cGBs (E3) := by
 intro xs h
 obtain ⟨yss, hf, rfl⟩ := Ez (n := n + 2) (ts := [3, 4, 35, 22]) dX dY h
 match yss, hf with
 | [y0, y1, y2, y3], ⟨h0, h1, h2, h3, _⟩ =>
  obtain ⟨x0, r0, e0⟩ := gd_3 gT dU jd dV dW dX dY dZ ed eg (n := n + 1) _ h0
  obtain ⟨x1, r1, e1⟩ := gd_4 gT dU jd dV dW dX dY dZ ed eg (n := n + 1) _ h1
  obtain ⟨x2, r2, e2⟩ := gd_35 gT dU jd dV dW dX dY dZ ed eg (n := n + 0) _ h2
  obtain ⟨x3, r3, e3⟩ := gd_22 gT dU jd dV dW dX dY dZ ed eg (n := n + 0) _ h3
  exact ⟨⟨x0, x1, x2, x3⟩, r3.1, by simp only [List.flatten_cons, List.flatten_nil, List.append_nil, qK, e0, e1, e2, e3, eI, vb, eB, eS, eSl, ui, qF, List.cons_append, List.nil_append]⟩
theorem gd_23 {n : Nat} : Dec P (n + 4) 23 (eSl cGBs) (fun l => aK l = true ∧ ∀ x ∈ l, E3 x) := LI dZ (gd_49 gT dU jd dV dW dX dY dZ ed eg (n := n))
theorem gd_25 {n : Nat} : Dec P (n + 5) 25 cGBk (LM) := by
 intro xs h
 obtain ⟨yss, hf, rfl⟩ := Ez (n := n + 4) (ts := [3, 22, 23]) ed eg h
 match yss, hf with
 | [y0, y1, y2], ⟨h0, h1, h2, _⟩ =>
  obtain ⟨x0, r0, e0⟩ := gd_3 gT dU jd dV dW dX dY dZ ed eg (n := n + 3) _ h0
  obtain ⟨x1, r1, e1⟩ := gd_22 gT dU jd dV dW dX dY dZ ed eg (n := n + 2) _ h1
  obtain ⟨x2, r2, e2⟩ := gd_23 gT dU jd dV dW dX dY dZ ed eg (n := n + 0) _ h2
  exact ⟨⟨x0, x1, x2⟩, ⟨r1.1, r2.1, r2.2⟩, by simp only [List.flatten_cons, List.flatten_nil, List.append_nil, qK, e0, e1, e2, eI, vb, eB, eS, eSl, k8, List.cons_append, List.nil_append]⟩
end
theorem E4 {n : Nat} : Dec Tryz.prog (n + 5) 25 cGBk (LM) := gd_25 Tryz.underlying3 Tryz.underlying22 Tryz.underlying4 Tryz.underlying35 (by kernel_rfl) Tryz.underlying49 (by kernel_rfl) Tryz.underlying23 Tryz.underlying25 (by kernel_rfl)
end Go.V
end
section
namespace Go.V
open Go Go.Proofs IntKind
def xf (xs : List Int) : Option (List Int) := cond (neB xs) (cond (aE 8 xs.length) (some xs) none) none
theorem QG (xs R : List Int) (h : xf xs = some R) : aj Tryz.prog G0 124 [.sl (ae eI xs) xs.length false] (.own (ae eI R) R.length 1) := by
 unfold xf at h
 cases hn : neB xs with
 | false => rw [hn] at h; cases h
 | true =>
 cases hr : aE 8 xs.length with
 | false => rw [hn, hr] at h; cases h
 | true =>
 rw [hn, hr] at h
 simp only [cond_true, Option.some.injEq] at h
 subst h
 have hc : ae eI xs ≠ [] := by
  cases xs with
  | nil => cases hn
  | cons a l => intro hh; cases hh
 have hnil : ∀ (H : Nat → Option VObj) (x y : Operand), binV Tryz.prog H .eql 22 x y (.sl (ae eI xs) xs.length false) (.lit (.slice none 0 0)) = some (.lit (.bool false)) := fun H x y => E5 Tryz.underlying22 hc
 have hb : av Tryz.prog 22 0 [] = some ([], 1) := by kernel_rfl
 refine aj.run mixed Tryz.call124 Tryz.func124 rfl (by simp [Tryz.ntmps124]; kernel_rfl) ?_
 simp only [vz, tyf, hnil, hb, List.map_nil, seval]
 refine E6 (w := 1) (enc := eI) (xs := ([] : List Int)) (ys := xs) (el := some 3) (fun _ => rfl) d5 cU Tryz.underlying22 rfl hn (by rw [List.nil_append]; exact hr) ?_
 simp only [vz, tyf, List.nil_append, seval]
 refine ⟨rfl, .ref 5 0 xs.length 1 xs.length, by simp [Tryz.results124, resV, resL, resV1, upd], (ae eI xs).length + 1, 5, _, ae eI xs, ⟨_, rfl⟩, by simp only [aF, ba, seval] <;> rfl, lx _ _ (eI_ok.treeL xs) (Nat.lt_succ_self _)⟩
def ExtOk (β y e : Nat) (mc : List VV) (mf : Nat) (ln lim : Nat) (may : List Int → Int → Option Bool) (I : Inv) (d : Nat) : Prop :=
  ∀ (p : List Int) (rest : List VV) (L : List (List Int)) (Fr : Nat → Prop) (H : Nat → Option VObj) (nx : Nat), p.length + d = ln → listsO may lim d p = some L → (∀ γ, Fr γ → γ < nx) → Fr y → Fr e → H y = some (.cells (some 27) [.yl β]) →
    H e = some (.cells (some 27) [.fn (.func 138) [] [.tp [.lit (.int .i64 ln)], .ptr y 0, .tp [.lit (.int .i64 lim)], .tp [.fn (.func mf) [] mc], .ptr e 0]]) →
    I (some (L.map (vx eI) ++ rest)) Fr H nx →
    aq Tryz.prog G0 138 [vx eI p, .tp [.lit (.int .i64 ln)], .ptr y 0, .tp [.lit (.int .i64 lim)], .tp [.fn (.func mf) [] mc], .ptr e 0] H nx
      (fun v H' nx' => ∃ b, v = .lit (.bool b) ∧ nx ≤ nx' ∧ (∀ γ, Fr γ → H' γ = H γ) ∧ I (if b then some rest else none) Fr H' nx') (fun _ _ _ => False)
theorem vc {P : Program} {t e : Nat} {H : Nat → Option VObj} (hu : P.underlying t = some (.slice e)) : ∀ {p : List Int}, vlen P H t (vx eI p) = some (.lit (.int .i64 p.length))
  | [] => by simp [vlen, vx, hu, sls]
  | _ :: _ => by simp [vlen, vx, hu, sls]
theorem E7 : aj Tryz.prog G0 124 [.lit (.slice none 0 0)] (.tree (.lit (.slice none 0 0))) := by
  have hnil : ∀ (H : Nat → Option VObj) (x y : Operand), binV Tryz.prog H .eql 22 x y (.lit (.slice none 0 0)) (.lit (.slice none 0 0)) = some (.lit (.bool true)) := fun H x y => by kernel_rfl
  refine aj.run mixed Tryz.call124 Tryz.func124 rfl (by simp [Tryz.ntmps124]; kernel_rfl) ?_
  simp only [vz, tyf, @bP, @bO, @bN, @bn, hnil, seval, ua]
  exact ⟨rfl, .lit (.slice none 0 0), by simp [Tryz.results124, resV, resL, resV1, upd], 1, rfl⟩
theorem E8 {β y e : Nat} {mc : List VV} {mf ln lim : Nat} {may : List Int → Int → Option Bool} {I : Inv} (hst : Stable I) (hr : Rounds Tryz.prog G0 β I) (htm : treeL mc = true) (vd : 0 < ln) (hln : ln < 1000) (hlim : lim < 1000000)
    (hm : ∀ (p : List Int) (j : Int) (b : Bool), may p j = some b → aj Tryz.prog G0 mf (.sl (ae eI p) p.length false :: .lit (.int .i64 j) :: mc) (.tree (.lit (.bool b)))) : ∀ d, ExtOk β y e mc mf ln lim may I d := by
  intro d
  induction d with
  | zero =>
    intro p rest L Fr H nx hd hL hF hFy hFe hy he hI
    simp only [listsO, Option.some.injEq] at hL
    subst hL
    refine aq.run mixed Tryz.call138 Tryz.func138 rfl (by simp [Tryz.ntmps138]; kernel_rfl) ?_
    have hl := fun H => vc (P := Tryz.prog) (H := H) Tryz.underlying22 (p := p)
    have hq : ((p.length : Int) == (ln : Int)) = true := by rw [show p.length = ln from hd]; simp
    simp only [argsTm6, vz, tyf, @bP, @bO, @bN, @bn, seval, ua, hl, hq, hy, rg]
    have fU : I (some (vx eI p :: rest)) Fr H (nx + 9) := hst _ _ _ _ _ _ _ hI (fun _ _ _ => rfl) (by omega) (fun γ h => .inl h)
    refine (hr (vx eI p) rest Fr H (nx + 9) (fun γ h => by have := hF γ h; omega) fU) (some none) _ _ _ rfl rfl ?_
    rintro b H' nx' ⟨h1, h2, h3⟩
    simp only [vz, tyf, @bP, @bO, @bN, @bn, seval, ua]
    exact c9 (x := .lit (.bool b)) (by simp [Tryz.results138, resV, resL, resV1, upd]) ⟨b, rfl, by omega, h2, h3⟩
  | succ d ih =>
    intro p rest L Fr H nx hd hL hF hFy hFe hy he hI
    rw [listsO] at hL
    refine aq.run mixed Tryz.call138 Tryz.func138 rfl (by simp [Tryz.ntmps138]; kernel_rfl) ?_
    have hl := fun H => vc (P := Tryz.prog) (H := H) Tryz.underlying22 (p := p)
    have hq : ((p.length : Int) == (ln : Int)) = false := by rw [← hd]; simp; omega
    simp only [argsTm6, vz, tyf, @bP, @bO, @bN, @bn, seval, ua, hl, hq, hy, rg]
    obtain ⟨J, hJ⟩ : ∃ J : Nat → St → Prop, J = (fun m st => ∃ j : Nat, j + m = lim ∧ st.df = [] ∧ nx ≤ st.nx ∧ (∀ γ, Fr γ → st.H γ = H γ) ∧
      (∃ L, goL (listsO may lim d) may p (List.range' j m) = some L ∧ I (some (L.map (vx eI) ++ rest)) Fr st.H st.nx) ∧
      st.tm 0 = vx eI p ∧ st.tm 4 = .tp [.fn (.func mf) [] mc] ∧ st.tm 5 = .ptr e 0 ∧ st.tm 16 = .lit (.int .i64 lim) ∧ st.tm 17 = .lit (.int .i64 j)) := ⟨_, rfl⟩
    refine loopK mixed (by kernel_rfl) J lim (by rw [hJ]; refine ⟨0, by omega, rfl, ?_, fun _ _ => rfl, ⟨L, hL, hst _ _ _ _ _ _ _ hI (fun _ _ _ => rfl) ?_ (fun γ h => .inl h)⟩, ?_, ?_, ?_, ?_, ?_⟩ <;> first | rfl | (simp only; omega)) ?_
    rintro m ⟨tm, H1, bk, df⟩ hinv
    rw [hJ] at hinv
    obtain ⟨j, hj, hdf, hn, p8, ⟨L1, gU, k6⟩, e0, e4, e5, bz, bT⟩ := hinv
    simp only at hdf hn p8 k6 e0 e4 e5 bz bT
    subst hdf
    cases m with
    | zero =>
      have E9 : decide ((j : Int) < (lim : Int)) = false := by simp; omega
      simp only [vz, tyf, @bP, @bO, @bN, @bn, seval, ua, bz, bT, E9]
      refine c9 (x := .lit (.bool true)) (by simp [Tryz.results138, resV, resL, resV1, upd]) ⟨true, rfl, by omega, p8, ?_⟩
      simp only [List.range'_zero, goL, Option.some.injEq] at gU
      subst gU
      exact hst _ _ _ _ _ _ _ k6 (fun _ _ _ => rfl) (by omega) (fun γ h => .inl h)
    | succ m =>
      have E9 : decide ((j : Int) < (lim : Int)) = true := by simp; omega
      simp only [vz, tyf, @bP, @bO, @bN, @bn, seval, ua, bz, bT, E9, e0, e4, e5]
      refine sq (fun tm => tm 0 = vx eI p ∧ tm 4 = .tp [.fn (.func mf) [] mc] ∧ tm 5 = .ptr e 0 ∧ tm 8 = .lit (.int .i64 j) ∧ tm 16 = .lit (.int .i64 lim) ∧ tm 17 = .lit (.int .i64 j)) (by refine ⟨?_, ?_, ?_, ?_, ?_, ?_⟩ <;> simp only [ua, seval, e0, e4, e5, bz, bT]) ?_
      clear e0 e4 e5 bz bT tm
      rintro tm ⟨e0, e4, e5, e8, bz, bT⟩
      refine EA mixed 11 rfl rfl rfl (by kernel_rfl) ?_
      rw [List.range'_succ] at gU
      unfold goL at gU
      rcases hmb : may p (j : Int) with _ | mb
      · rw [hmb] at gU; cases gU
      rw [hmb, Option.bind_some] at gU
      have hmay' : aj Tryz.prog G0 mf (vx eI p :: .lit (.int .i64 j) :: mc) (.tree (.lit (.bool mb))) := aj.weaken (by
        rintro c W vs ⟨u, us, rfl, h1, h2⟩
        exact ⟨u, us, rfl, EB h1, h2⟩) (hm p j mb hmb)
      simp only [vz, tyf, @bP, @bO, @bN, @bn, seval, ua, e0, e4, e5, e8, bz, bT, rg]
      refine .inl ⟨by simp only [zM, EC eI_ok, zN, htm, Bool.and_self], .tree _, hmay', ?_⟩
      have hw : i64.wrap ((j : Int) + 1) = ((j + 1 : Nat) : Int) := by rw [IntWalk.i64_in _ (by omega)]; simp
      have kj : H1 e = _ := (p8 e hFe).trans he
      have w6 : H1 y = _ := (p8 y hFy).trans hy
      have hen : e < bk := Nat.lt_of_lt_of_le (hF e hFe) hn
      have hyn : y < bk := Nat.lt_of_lt_of_le (hF y hFy) hn
      cases mb with
      | false =>
        rw [cond_false] at gU
        simp only [vz, tyf, @bP, @bO, @bN, @bn, seval, ua, e0, e4, e5, e8, bz, bT, rg, hw]
        rw [hJ]
        exact ⟨m, Nat.lt_succ_self _, j + 1, by omega, rfl, (by show nx ≤ bk + 19; omega), p8, ⟨L1, gU, hst _ _ _ _ _ _ _ k6 (fun _ _ _ => rfl) (by show bk ≤ bk + 19; omega) (fun γ h => .inl h)⟩, by simp only [ua, seval, e0], by simp only [ua, seval, e4], by simp only [ua, seval, e5], by simp only [ua, seval, bz], by simp only [ua, seval]⟩
      | true =>
        rw [cond_true] at gU
        rcases hLa : listsO may lim d (p ++ [(j : Int)]) with _ | La
        · rw [hLa] at gU; cases gU
        rw [hLa, Option.bind_some] at gU
        rcases hLr : goL (listsO may lim d) may p (List.range' (j + 1) m) with _ | Lr
        · rw [hLr] at gU; cases gU
        rw [hLr, Option.bind_some, Option.some.injEq] at gU
        subst gU
        rw [List.map_append, List.append_assoc] at k6
        have hv : vx eI (p ++ [(j : Int)]) = .sl (ae eI (p ++ [(j : Int)])) (p ++ [(j : Int)]).length false := pA (by simp)
        have hroom : aE 8 (p ++ [(j : Int)]).length = true := by
          unfold aE
          simp only [List.length_append, List.length_cons, List.length_nil, decide_eq_true_eq]
          omega
        simp only [vz, tyf, @bP, @bO, @bN, @bn, seval, ua, e0, e4, e5, e8, bz, bT, rg, kj]
        rcases hpc : p with _ | ⟨p0, pt⟩
        · subst hpc
          refine .inl ⟨rfl, .tree _, E7, ?_⟩
          simp only [vz, tyf, @bP, @bO, @bN, @bn, seval, ua, e0, e4, e5, e8, bz, bT, rg, kj]
          have hroom1 : aE 8 ([] ++ [(j : Int)]).length = true := rfl
          refine j2 (w := 1) (enc := eI) (ys := [(j : Int)]) (dz := some 3) (fun _ => rfl) d5 cU Tryz.underlying22 (by simp only [ua, nm, seval]; rfl) (Nat.zero_lt_succ _) hroom1 ?_
          simp only [vz, tyf, @bP, @bO, @bN, @bn, seval, ua, nm, e0, e4, e5, e8, bz, bT, rg, kj]
          refine j5 ⟨?_, ?_⟩
          · simp only [j6, j7, fw, j8, and_true, true_and]
            repeat' (first | exact trivial | refine And.intro ?_ ?_ | rw [fw] | rw [j9] | exact Or.inl (by decide +kernel) | exact Or.inl (by dsimp only; decide +kernel) | (refine Or.inr ⟨?_, ?_⟩ <;> simp; done) | (refine Or.inr ⟨?_, ?_⟩ <;> simp <;> omega) | (refine Or.inr ⟨?_, ?_⟩ <;> simp [VEff.wr] <;> omega))
          simp only [vz, tyf, @bP, @bO, @bN, @bn, seval, ua, e0, e4, e5, e8, bz, bT, rg, kj]
          refine kopen ?_
          rw [lv]
          have hcell : (updH (updH H1 (bk + 12) (VObj.cells (some 3) [VV.lit (Value.int IntKind.i64 ↑j)])) (bk + 13) (VObj.cells (some 3) (ae eI ([] ++ [(j : Int)])))) (bk + 13) = some (.cells (some 3) (ae eI ([] ++ [(j : Int)]))) := by simp only [ua, seval]
          have hbig : ∀ γ, γ < bk → without (updH (updH H1 (bk + 12) (VObj.cells (some 3) [VV.lit (Value.int IntKind.i64 ↑j)])) (bk + 13) (VObj.cells (some 3) (ae eI ([] ++ [(j : Int)])))) (bk + 13) γ = H1 γ := by
            intro γ h
            simp only [updH, without]
            repeat rw [if_neg (by omega)]
          refine aq.mono (aq.freeze1 (γ := bk + 13) hcell (args' := [vx eI ([] ++ [(j : Int)]), .tp [.lit (.int .i64 ln)], .ptr y 0, .tp [.lit (.int .i64 lim)], .tp [.fn (.func mf) [] mc], .ptr e 0]) ⟨by rw [hv]; exact Frozen.own hcell (eI_ok.treeL _) (by rw [ez (w := 1) (fun _ => rfl)]), FrozenL.same⟩ (ih ([] ++ [(j : Int)]) _ La Fr _ _ (by simp at hd ⊢; omega) hLa (fun γ h => by have := hF γ h; omega) hFy hFe ((hbig y hyn).trans w6) ((hbig e hen).trans kj) (hst _ _ _ _ _ _ _ k6 (fun γ h _ => hbig γ h) (by omega) (fun γ h => .inl h)))) ?_ (fun _ _ _ h => h.elim)
          rintro v H2 db ⟨b, rfl, h1, h2, h3⟩
          have vf : ∀ γ, Fr γ → H2 γ = H γ := fun γ h => by rw [h2 γ h, hbig γ (Nat.lt_of_lt_of_le (hF γ h) hn), p8 γ h]
          simp only [vz, tyf, @bP, @bO, @bN, @bn, seval, ua, e0, e4, e5, e8, bz, bT, rg, kj]
          cases b with
          | false =>
            simp only [vz, tyf, @bP, @bO, @bN, @bn, seval, ua, Bool.not_false]
            refine c9 (x := .lit (.bool false)) (by simp [Tryz.results138, resV, resL, resV1, upd]) ⟨false, rfl, by omega, vf, ?_⟩
            exact hst _ _ _ _ _ _ _ h3 (fun _ _ _ => rfl) (by omega) (fun γ h => .inl h)
          | true =>
            simp only [vz, tyf, @bP, @bO, @bN, @bn, seval, ua, Bool.not_true, hw]
            simp only [if_true] at h3
            rw [hJ]
            exact ⟨m, Nat.lt_succ_self _, j + 1, by omega, rfl, (by show nx ≤ db + 2; omega), vf, ⟨Lr, hLr, hst _ _ _ _ _ _ _ h3 (fun _ _ _ => rfl) (by show db ≤ db + 2; omega) (fun γ h => .inl h)⟩, by simp only [ua, seval, e0], by simp only [ua, seval, e4], by simp only [ua, seval, e5], by simp only [ua, seval, bz], by simp only [ua, seval]⟩
        rw [← hpc]
        have hne : p ≠ [] := by rw [hpc]; simp
        have hvp : vx eI p = .sl (ae eI p) p.length false := pA hne
        rw [hvp]
        have hcl : xf p = some p := by
          unfold xf
          have h1 : neB p = true := by rw [hpc]; rfl
          have h2 : aE 8 p.length = true := by
            unfold aE at hroom ⊢
            simp only [List.length_append, List.length_cons, List.length_nil, decide_eq_true_eq] at hroom ⊢
            omega
          rw [h1, h2]; rfl
        refine dkown (args0 := [.sl (ae eI p) p.length false]) (by first | (simp only [nrm, aW]; done) | (simp only [nrm, aW]; rfl) | rfl) (by simp only [tre, tytre, Bool.and_self]) (QG _ _ hcl) ?_
        simp only [vz, tyf, @bP, @bO, @bN, @bn, seval, ua, e0, e4, e5, e8, bz, bT, rg, kj]
        refine k_app (w := 1) (enc := eI) (xs := p) (ys := [(j : Int)]) (el := none) (dz := some 3) (fun _ => rfl) d5 cU Tryz.underlying22 (by simp only [ua, nm, seval]) (by simp only [ua, nm, seval]; rfl) (Nat.zero_lt_succ _) hroom ?_
        simp only [vz, tyf, @bP, @bO, @bN, @bn, seval, ua, nm, e0, e4, e5, e8, bz, bT, rg, kj]
        refine j5 ⟨?_, ?_⟩
        · simp only [j6, j7, fw, j8, and_true, true_and]
          repeat' (first | exact trivial | refine And.intro ?_ ?_ | rw [fw] | rw [j9] | exact Or.inl (by decide +kernel) | exact Or.inl (by dsimp only; decide +kernel) | (refine Or.inr ⟨?_, ?_⟩ <;> simp; done) | (refine Or.inr ⟨?_, ?_⟩ <;> simp <;> omega) | (refine Or.inr ⟨?_, ?_⟩ <;> simp [VEff.wr] <;> omega))
        simp only [vz, tyf, @bP, @bO, @bN, @bn, seval, ua, e0, e4, e5, e8, bz, bT, rg, kj]
        refine kopen ?_
        rw [lv]
        have hcell : (updH (without (updH (updH H1 (bk + 10) (VObj.cells none (ae eI p))) (bk + 12) (VObj.cells (some 3) [VV.lit (Value.int IntKind.i64 ↑j)])) (bk + 10)) (bk + 13) (VObj.cells (sameEl none 3) (ae eI (p ++ [(j : Int)])))) (bk + 13) = some (.cells (sameEl none 3) (ae eI (p ++ [(j : Int)]))) := by simp only [ua, seval]
        have hbig : ∀ γ, γ < bk → without (updH (without (updH (updH H1 (bk + 10) (VObj.cells none (ae eI p))) (bk + 12) (VObj.cells (some 3) [VV.lit (Value.int IntKind.i64 ↑j)])) (bk + 10)) (bk + 13) (VObj.cells (sameEl none 3) (ae eI (p ++ [(j : Int)])))) (bk + 13) γ = H1 γ := by
          intro γ h
          simp only [updH, without]
          repeat rw [if_neg (by omega)]
        refine aq.mono (aq.freeze1 (γ := bk + 13) hcell (args' := [vx eI (p ++ [(j : Int)]), .tp [.lit (.int .i64 ln)], .ptr y 0, .tp [.lit (.int .i64 lim)], .tp [.fn (.func mf) [] mc], .ptr e 0]) ⟨by rw [hv]; exact Frozen.own hcell (eI_ok.treeL _) (by rw [ez (w := 1) (fun _ => rfl)]), FrozenL.same⟩ (ih (p ++ [(j : Int)]) _ La Fr _ _ (by simp; omega) hLa (fun γ h => by have := hF γ h; omega) hFy hFe ((hbig y hyn).trans w6) ((hbig e hen).trans kj) (hst _ _ _ _ _ _ _ k6 (fun γ h _ => hbig γ h) (by omega) (fun γ h => .inl h)))) ?_ (fun _ _ _ h => h.elim)
        rintro v H2 db ⟨b, rfl, h1, h2, h3⟩
        have vf : ∀ γ, Fr γ → H2 γ = H γ := fun γ h => by rw [h2 γ h, hbig γ (Nat.lt_of_lt_of_le (hF γ h) hn), p8 γ h]
        simp only [vz, tyf, @bP, @bO, @bN, @bn, seval, ua, e0, e4, e5, e8, bz, bT, rg, kj]
        cases b with
        | false =>
          simp only [vz, tyf, @bP, @bO, @bN, @bn, seval, ua, Bool.not_false]
          refine c9 (x := .lit (.bool false)) (by simp [Tryz.results138, resV, resL, resV1, upd]) ⟨false, rfl, by omega, vf, ?_⟩
          exact hst _ _ _ _ _ _ _ h3 (fun _ _ _ => rfl) (by omega) (fun γ h => .inl h)
        | true =>
          simp only [vz, tyf, @bP, @bO, @bN, @bn, seval, ua, Bool.not_true, hw]
          simp only [if_true] at h3
          rw [hJ]
          exact ⟨m, Nat.lt_succ_self _, j + 1, by omega, rfl, (by show nx ≤ db + 2; omega), vf, ⟨Lr, hLr, hst _ _ _ _ _ _ _ h3 (fun _ _ _ => rfl) (by show db ≤ db + 2; omega) (fun γ h => .inl h)⟩, by simp only [ua, seval, e0], by simp only [ua, seval, e4], by simp only [ua, seval, e5], by simp only [ua, seval, bz], by simp only [ua, seval]⟩
theorem AA {mc : List VV} {mf ln lim : Nat} {may : List Int → Int → Option Bool} {L : List (List Int)} (htm : treeL mc = true) (vd : 0 < ln) (hln : ln < 1000) (hlim : lim < 1000000)
    (hL : listsO may lim ln [] = some L) (hm : ∀ (p : List Int) (j : Int) (b : Bool), may p j = some b → aj Tryz.prog G0 mf (.sl (ae eI p) p.length false :: .lit (.int .i64 j) :: mc) (.tree (.lit (.bool b)))) :
    Iter Tryz.prog G0 (.fn (.func 137) [] [.tp [.lit (.int .i64 ln)], .tp [.lit (.int .i64 lim)], .tp [.fn (.func mf) [] mc]]) (L.map sI) := by
  rw [← ED (fun q hq hn => by have := wb _ _ _ hL q hq; rw [hn] at this; simp at this; omega)]
  refine ⟨137, [], _, rfl, fun β I hst hr H nx hβ hI => ?_⟩
  refine aq.run mixed Tryz.call137 Tryz.func137 rfl (by simp [Tryz.ntmps137]; kernel_rfl) ?_
  simp only [List.nil_append, List.cons_append, argsTm4, vz, tyf, @bP, @bO, @bN, @bn, seval, ua, rg]
  refine kopen ?_
  rw [lv]
  refine aq.mono (E8 hst hr htm vd hln hlim hm ln [] [] L (fun γ => γ = nx + 0 ∨ γ = nx + 1) _ _ (by simp) hL (by rintro γ (rfl | rfl) <;> omega) (.inl rfl) (.inr rfl) (by simp [updH]) (by simp [updH]) ?_) ?_ (fun _ _ _ h => h.elim)
  · rw [List.append_nil]
    refine hst _ _ _ _ _ _ _ hI ?_ (by omega) (by rintro γ (rfl | rfl) <;> right <;> omega)
    intro γ h _
    simp only [updH]
    repeat rw [if_neg (by omega)]
  rintro v H2 db ⟨b, rfl, h1, h2, h3⟩
  simp only [vz, tyf, @bP, @bO, @bN, @bn, seval, ua]
  refine zb (x := .tup []) (by simp [Tryz.results137, resV, resL]) ?_
  replace h3 := hst _ _ noFr _ _ _ _ h3 (fun _ _ _ => rfl) (Nat.le_refl _) (fun γ h => h.elim)
  cases b with
  | true => exact .inl h3
  | false => exact .inr h3
end Go.V
end
